import PyProof.Rows.All
import Wide.All
import OpenK.AllK
import Wide.FinOn
import HandS.ForMost
import HandS.ForExc
import HandS.TupLe
import HandS.TupAny
import HandS.SortOrd
import HandS.SortRule
import HandS.IsInst
import HandS.Conv
import HandS.Wide
import HandS.Property
import HandS.Deep
import HandS.Walk
import HandS.Zip
import HandS.Flow
import KE.GoesEnum
import HandS.SortKw
import KE.GoesEnumKw
import KE.KDictZip
import PyProof.ZipIter
import HandS.ExcValue
import PySem.Challenge.RW_drawerlocks_k24_texts_there_and_back
import HandS.Replace
import HandS.More
import HandS.TryOnly
import KE.KSuper
import KE.KExcSuper
import HandS.ClsMeth
import HandS.ExcInit
import HandS.WordsExc
import HandS.FStr
import HandS.SlotsOwn
import KE.GoesZip
import HandS.ExcOwn
import HandS.TryMany
import HandS.ExcField
import HandS.Star
import PyProof.Rows.SortShellAny
import KE.DataMinMax
import PyProof.Rows.StrMeet
set_option Elab.async false
set_option maxRecDepth 100000
namespace DL
open PySem PySem.Spec PyProof.Rows L2
/-! ### bars: four parts; the words as truth values (true: shut) -/
structure Bar where
  d : Int
  w : Bool
  o : Int
  t : Bool
deriving DecidableEq
def wd (b : Bool) : Str := if b = true then "shut" else "open"
theorem wd_inj : ∀ {a b : Bool}, wd a = wd b → a = b := by decide +kernel
theorem wd_lt : ∀ a b : Bool, decide ((wd a).cps.toList < (wd b).cps.toList) = (!a && b) := by decide +kernel
theorem wd_dec : ∀ a : Bool, decide (wd a = "shut") = a := by decide +kernel
def Bar.key (b : Bar) : List Key := [.inl b.d, .inr (wd b.w), .inl b.o, .inr (wd b.t)]
def Bar.vs (b : Bar) : List V := [.int b.d, .str (wd b.w), .int b.o, .str (wd b.t)]
def b2n (b : Bool) : Int := if b = true then 1 else 0
theorem b2n_le (b : Bool) : 0 ≤ b2n b ∧ b2n b ≤ 1 := by cases b <;> decide
theorem b2n_inj {a b : Bool} (h : b2n a = b2n b) : a = b := by revert h; revert a b; decide
def Bar.code (b : Bar) : Int := ((b.d * 2 + b2n b.w) * 8 + b.o) * 2 + b2n b.t
/-- the parts lie where a bar of at most eight drawers has them -/
def Bar.low (b : Bar) : Prop := 0 ≤ b.d ∧ b.d < 8 ∧ 0 ≤ b.o ∧ b.o < 8
theorem Bar.ext4 {a b : Bar} (h1 : a.d = b.d) (h2 : a.w = b.w) (h3 : a.o = b.o) (h4 : a.t = b.t) : a = b := by
  cases a; cases b; simp only at h1 h2 h3 h4; subst h1 h2 h3 h4; rfl
theorem Bar.code_inj {a b : Bar} (ha : a.low) (hb : b.low) (h : a.code = b.code) : a = b := by
  unfold Bar.low at ha hb
  unfold Bar.code at h
  have w1 := b2n_le a.w; have w2 := b2n_le b.w; have t1 := b2n_le a.t; have t2 := b2n_le b.t
  exact Bar.ext4 (by omega) (b2n_inj (by omega)) (by omega) (b2n_inj (by omega))
/-- what a < b of two such tuples comes to -/
def Bar.ltb (a b : Bar) : Bool := if a.d = b.d then (if a.w = b.w then (if a.o = b.o then (!a.t && b.t) else decide (a.o < b.o)) else (!a.w && b.w)) else decide (a.d < b.d)
theorem Bar.ltb_code {a b : Bar} (ha : a.low) (hb : b.low) : a.ltb b = decide (a.code < b.code) := by
  obtain ⟨ad, aw, ao, at'⟩ := a
  obtain ⟨bd, bw, bo, bt⟩ := b
  unfold Bar.low at ha hb
  unfold Bar.ltb Bar.code b2n
  simp only at ha hb ⊢
  by_cases h1 : ad = bd
  · rw [if_pos h1]
    by_cases h2 : aw = bw
    · rw [if_pos h2]
      by_cases h3 : ao = bo
      · rw [if_pos h3]
        subst h1 h2 h3
        cases at' <;> cases bt <;> simp <;> omega
      · rw [if_neg h3]
        subst h1 h2
        cases at' <;> cases bt <;> simp <;> omega
    · rw [if_neg h2]
      subst h1
      cases aw <;> cases bw <;> cases at' <;> cases bt <;> simp at h2 ⊢ <;> omega
  · rw [if_neg h1]
    cases aw <;> cases bw <;> cases at' <;> cases bt <;> simp <;> omega
/-- a bar read back -/
def barOf : List V → Bar
  | [.int d, .str w, .int o, .str t] => ⟨d, decide (w = "shut"), o, decide (t = "shut")⟩
  | _ => ⟨0, false, 0, false⟩
theorem barOf_vs (b : Bar) : barOf b.vs = b := by
  show (⟨b.d, decide (wd b.w = "shut"), b.o, decide (wd b.t = "shut")⟩ : Bar) = b
  rw [wd_dec, wd_dec]
/-- the bar that stands at an address of the heap -/
def barAt (H : Hp) : V → Bar
  | .ref a => (match H a with | some (.tup xs) => barOf xs | _ => ⟨0, false, 0, false⟩)
  | _ => ⟨0, false, 0, false⟩
theorem barAt_of {H : Hp} {a : Addr} {b : Bar} (h : H a = some (.tup b.vs)) : barAt H (.ref a) = b := by
  show (match H a with | some (.tup xs) => barOf xs | _ => ⟨0, false, 0, false⟩) = b
  rw [h]; exact barOf_vs b
/-! ### sorted(d), d a dict whose keys are such tuples -/
def IsBarV (h : Heap) (v : Value) (b : Bar) : Prop := ∃ a o t1 t2 t3 t4 n, v = .ref a ∧ h.get? a = some o ∧ o.cls = .type "tuple" ∧ o.data = .seq #[.int b.d t1, .str (wd b.w) t2, .int b.o t3, .str (wd b.t) t4] n
theorem IsBarV.keeps {h h' : Heap} {v : Value} {b : Bar} (p : IsBarV h v b) (k : ∀ c o, h.get? c = some o → o.cls = .type "tuple" → h'.get? c = some o) : IsBarV h' v b := by
  obtain ⟨a, o, t1, t2, t3, t4, n, e, ho, hc, hd⟩ := p
  exact ⟨a, o, t1, t2, t3, t4, n, e, k _ _ ho hc, hc, hd⟩
section
variable {prog : Program} {w : World} {A : Around} {E : Value → Shared → Prop} {s : Shared}
theorem oneLt_words (c : Bool) {p q : Str} {t u : Tok} {Q : Bool → Shared → Prop} (h : c = false) (hq : Q (decide (p.cps.toList < q.cps.toList)) s) : wpAny (model prog w) A (oneLt' c (.str p t) (.str q u)) Q E s := by
  subst h
  exact PySem.W.kat_one _ _ (PyProof.Rows.lt_str hq)
theorem bar_cmp {vs : List Value} {kb : Value → Bar} (hp : ∀ v ∈ vs, IsBarV s.heap v (kb v) ∧ (kb v).low) : SrtO.Cmp prog w A s (tuples' true) (fun p => p.1 ∈ vs) (SrtO.lt2 fun v u => decide ((kb v).code < (kb u).code)) := by
  intro p q hm hm'
  obtain ⟨h1, l1⟩ := hp _ hm
  obtain ⟨h2, l2⟩ := hp _ hm'
  show wpAny (model prog w) A (keyLt' (tuples' true) p.1 q.1) (fun r s' => s' = s ∧ r = decide ((kb p.1).code < (kb q.1).code)) (fun _ _ => False) s
  generalize kb p.1 = x at h1 l1 ⊢
  generalize kb q.1 = y at h2 l2 ⊢
  rw [← Bar.ltb_code l1 l2]
  obtain ⟨a, o, t1, t2, t3, t4, n, e, ho, hc, hd⟩ := h1
  obtain ⟨a', o', t1', t2', t3', t4', n', e', ho', hc', hd'⟩ := h2
  rw [e, e']
  refine PySem.W.kat_lt ho hd ho' hd' ?_
  show PySem.W.KatLex prog w A true (decide (4 < 4)) _ [(.int x.d t1, .int y.d t1'), (.str (wd x.w) t2, .str (wd y.w) t2'), (.int x.o t3, .int y.o t3'), (.str (wd x.t) t4, .str (wd y.t) t4')] 0 s
  refine PySem.W.kat_cons (SeqAt.EqAt.int_int x.d t1 y.d t1' prog w _ _ ?_)
  refine PySem.W.kat_go (fun e1 => ?_) (fun e1 => ?_)
  · have e1' : x.d = y.d := by simpa using e1
    refine PySem.W.kat_yes (PySem.W.kat_cons (wpAny_eqBool_str ?_))
    refine PySem.W.kat_go (fun e2 => ?_) (fun e2 => ?_)
    · have e2' : x.w = y.w := wd_inj (by simpa using e2)
      refine PySem.W.kat_yes (PySem.W.kat_cons (SeqAt.EqAt.int_int x.o t3 y.o t3' prog w _ _ ?_))
      refine PySem.W.kat_go (fun e3 => ?_) (fun e3 => ?_)
      · have e3' : x.o = y.o := by simpa using e3
        refine PySem.W.kat_yes (PySem.W.kat_cons (wpAny_eqBool_str ?_))
        refine PySem.W.kat_go (fun e4 => ?_) (fun e4 => ?_)
        · have e4' : x.t = y.t := wd_inj (by simpa using e4)
          refine PySem.W.kat_yes (PySem.W.kat_nil ⟨rfl, ?_⟩)
          unfold Bar.ltb
          rw [if_pos e1', if_pos e2', if_pos e3', e4']
          cases y.t <;> rfl
        · refine PySem.W.kat_no (oneLt_words _ rfl ⟨rfl, ?_⟩)
          unfold Bar.ltb
          rw [if_pos e1', if_pos e2', if_pos e3', wd_lt]
      · have e3' : ¬ x.o = y.o := by simpa using e3
        refine PySem.W.kat_no (PySem.W.kat_one _ _ (PyProof.Rows.lt_int ?_))
        refine (show s = s ∧ decide (x.o < y.o) = x.ltb y from ⟨rfl, ?_⟩)
        unfold Bar.ltb
        rw [if_pos e1', if_pos e2', if_neg e3']
    · have e2' : ¬ x.w = y.w := fun z => by rw [z] at e2; simp at e2
      refine PySem.W.kat_no (oneLt_words _ rfl ⟨rfl, ?_⟩)
      unfold Bar.ltb
      rw [if_pos e1', if_neg e2', wd_lt]
  · have e1' : ¬ x.d = y.d := by simpa using e1
    refine PySem.W.kat_no (oneLt_int ⟨rfl, ?_⟩)
    unfold Bar.ltb
    rw [if_neg e1']
theorem bar_firsts {h : Heap} : ∀ {vs : List Value}, (∀ v ∈ vs, ∃ b, IsBarV h v b) → ∃ fs : List Value, PySem.W.KatTups h vs fs ∧ fs.length = vs.length ∧ ∀ f ∈ fs, ∃ x t, f = Value.int x t
  | [], _ => ⟨[], PySem.W.KatTups.nil, rfl, fun _ hm => by simp at hm⟩
  | v :: vs, hp => by
    obtain ⟨fs, h1, h2, h3⟩ := bar_firsts (vs := vs) fun v' hm => hp v' (List.mem_cons_of_mem _ hm)
    obtain ⟨b, a, o, t1, t2, t3, t4, n, e, ho, hc, hd⟩ := hp v (List.mem_cons_self ..)
    subst e
    refine ⟨.int b.d t1 :: fs, PySem.W.KatTups.cons ho hc hd rfl h1, by rw [List.length_cons, List.length_cons, h2], fun f hm => ?_⟩
    rcases List.mem_cons.mp hm with rfl | hm
    · exact ⟨b.d, t1, rfl⟩
    · exact h3 f hm
theorem swo_code (kb : Value → Bar) : SrtO.Swo fun v u => decide ((kb v).code < (kb u).code) := by
  refine ⟨fun x y h => ?_, fun x y z h1 h2 => ?_⟩
  · have a := of_decide_eq_true h
    exact decide_eq_false (by omega)
  · have a := of_decide_eq_false h1
    have b := of_decide_eq_false h2
    exact decide_eq_false (by omega)
theorem bars_sortableO {a : Addr} {vs : List Value} {kb : Value → Bar} (h0 : 0 < vs.length) (hp : ∀ v ∈ vs, IsBarV s.heap v (kb v) ∧ (kb v).low) (ha : ∀ o, s.heap.get? a = some o → o.cls ≠ .type "tuple") :
    SrtO.SortableO prog w A s a vs fun v u => decide ((kb v).code < (kb u).code) := by
  intro h' keep
  have hp' : ∀ v ∈ vs, IsBarV h' v (kb v) ∧ (kb v).low := fun v hm => ⟨(hp v hm).1.keeps fun b o e c => keep b o (fun z => by subst z; exact ha o e c) e, (hp v hm).2⟩
  obtain ⟨fs, h1, h2, h3⟩ := bar_firsts fun v hm => ⟨_, (hp' v hm).1⟩
  refine ⟨tuples' true, fun Q E hq => ?_, bar_cmp hp'⟩
  refine PySem.W.kat_kind (T := .type "int") h1 (by omega) (fun f hm => ?_) (by rfl) ?_
  · obtain ⟨x, t, rfl⟩ := h3 f hm
    exact PySem.W.Looks.now
  · have e : (Value.type "int" != Value.type "tuple") = true := by first | decide +kernel | rfl | decide
    rw [e]
    exact hq
end
/-- sorted(d): the keys' own tuples, by their codes -/
def rSortB : List V → Hp → VK → Prop := fun xs H Q => ∃ (d : Addr) (kvs : List (List Key × V)) (bs : List Bar), xs = [V.ref d] ∧ Rd H d (.dT kvs) ∧ kvs.map (·.1) = bs.map Bar.key ∧ (∀ b ∈ bs, b.low) ∧
  ∀ (ks : List (Addr × Bar)) (p : Addr), (∀ k ∈ ks, H k.1 = some (.tup k.2.vs)) → (ks.map (·.2)).Perm bs → (ks.map (·.2)).Pairwise (fun x y => x.code ≤ y.code) → H p = none → Q (.ref p) (upd H p (.lst (ks.map fun k => V.ref k.1)))
theorem keys_bars : ∀ {H : Hp} {kvs : List (List Key × V)} {as : List Addr} {bs : List Bar}, IsKeys H kvs as → kvs.map (·.1) = bs.map Bar.key → (∀ a ∈ as, ∃ b ∈ bs, H a = some (.tup b.vs)) ∧ (as.map V.ref).map (barAt H) = bs := by
  intro H kvs as bs ik
  unfold IsKeys at ik
  induction ik generalizing bs with
  | nil =>
    intro e
    cases bs with
    | nil => exact ⟨fun a ha => by simp at ha, rfl⟩
    | cons b bs => simp at e
  | @cons kv a kvs' as' h t ih =>
    intro e
    cases bs with
    | nil => simp at e
    | cons b bs =>
      rw [List.map_cons, List.map_cons] at e
      injection e with e1 e2
      obtain ⟨i1, i2⟩ := ih e2
      have hb : H a = some (.tup b.vs) := by rw [h, e1]; rfl
      refine ⟨fun c hc => ?_, ?_⟩
      · rcases List.mem_cons.mp hc with rfl | hc
        · exact ⟨b, List.mem_cons_self, hb⟩
        · obtain ⟨b', m, q⟩ := i1 c hc
          exact ⟨b', List.mem_cons_of_mem _ m, q⟩
      · rw [List.map_cons, List.map_cons, i2, barAt_of hb]
section
variable {X : Cx}
theorem cr_sortB (hcalm : X.calm = true) : CallR X (.builtin "sorted") rSortB := by
  intro pins s σ H xs us Q I r h
  obtain ⟨d, kvs, bs, rfl, hd, hks, hlow, q⟩ := h
  obtain ⟨u, rfl, rx⟩ := r.one
  obtain rfl : u = Value.ref d := rx
  obtain ⟨z, hs, ks, pr, o, es, ep, ho, hx, hdt, he, hn⟩ := (show ObjOk X.prog X.w H s.heap d (.dT kvs) from hd.ok I.hok)
  have l1 : es.size = ks.length := size_of_entries he
  have l2 : kvs.length = ks.length := Paired.length pr
  refine Calls.call_function_entry PyProof.Rows.kind_sorted PyProof.Rows.plain_sorted PyProof.Rows.entry_sorted (PyProof.Rows.args_sorted1 _) ?_
  unfold Builtin.«sorted»
  refine wpAny_bind (m := checkCount "sorted" 1 1 _) (wpAny_pure ?_)
  refine wpAny_bind (PySem.W.kdu_collect (A := X.A.in1) (kdl_raw hs hx hdt) (I.ok.hd hcalm) ho (by omega) fun h' tk acc hk it => ?_)
  have ea : acc.toList = ks.map fun x => Value.ref x.2.1 := by
    have hl : acc.toList.length = ks.length := by rw [Array.length_toList, it.1]; exact l1
    apply List.ext_getElem?
    intro j
    rw [List.getElem?_map]
    cases hj : acc.toList[j]? with
    | none =>
      have h1 := List.getElem?_eq_none_iff.mp hj
      rw [List.getElem?_eq_none (by omega)]
      all_goals rfl
    | some v =>
      obtain ⟨en, hen, hv⟩ := it.2 j v (by rw [← Array.getElem?_toList]; exact hj)
      have qe := entry_at he j
      rw [hen] at qe
      cases hb : ks[j]? with
      | none =>
        rw [hb] at qe
        exact nomatch (show some en = none from qe)
      | some b =>
        rw [hb] at qe
        have e2 : en = entryOfKey (tupleKind (mixKind X.prog X.w)) b := Option.some.inj qe
        rw [hv, e2]
        all_goals rfl
  have ik : IsKeys H kvs (ks.map fun x => x.2.1) := isKeys_of pr
  obtain ⟨kb1, kb2⟩ := keys_bars ik hks
  generalize has : (ks.map fun x => x.2.1) = as at ik kb1 kb2
  have ea' : acc.toList = as.map Value.ref := by rw [ea, ← has, List.map_map]; rfl
  have hal : acc.toList.length = as.length := by rw [ea', List.length_map]
  have hasz : as.length ≤ sizeLine := by rw [← has, List.length_map]; omega
  have I1 : Inv X pins σ H { s with heap := h', toks := tk } := I.kept hk
  refine wpAny_bind (wpAny_newList ?_ (by rw [hal]; exact hasz))
  have hoL : (h'.push (seqObj "list" acc.toList.toArray 0)).get? h'.objs.size = some (seqObj "list" acc.toList.toArray 0) := Heap.get?_push_size _ rfl
  show wpAny _ _ _ _ _ { s with heap := h'.push (seqObj "list" acc.toList.toArray 0), toks := tk }
  have hbar : ∀ v ∈ acc.toList, IsBarV h' v (barAt H (backV v)) ∧ (barAt H (backV v)).low := fun v hv => by
    rw [ea'] at hv
    obtain ⟨a, ham, rfl⟩ := List.mem_map.mp hv
    obtain ⟨b, hbm, hHa⟩ := kb1 a ham
    have e1 : barAt H (backV (Value.ref a)) = b := barAt_of hHa
    rw [e1]
    refine ⟨?_, hlow b hbm⟩
    obtain ⟨_, its, rv, oo, h1, h2, n, h3⟩ := (show ObjOk X.prog X.w H h' a (.tup b.vs) from I1.hok a _ hHa)
    cases rv with
    | cons r1 rv =>
      cases rv with
      | cons r2 rv =>
        cases rv with
        | cons r3 rv =>
          cases rv with
          | cons r4 rv =>
            cases rv
            obtain ⟨t1, rfl⟩ := r1
            obtain ⟨t2, rfl⟩ := r2
            obtain ⟨t3, rfl⟩ := r3
            obtain ⟨t4, rfl⟩ := r4
            exact ⟨a, oo, t1, t2, t3, t4, n, rfl, h1, h2, h3⟩
  refine wpAny_bind (wpAny_holding (wpAny_call_entry PyProof.Rows.slot_list_sort ⟨_, hoL, rfl⟩ PyProof.Rows.entry_list_sort
    (SrtO.list_sort_ord (s := { s with heap := h'.push (seqObj "list" acc.toList.toArray 0), toks := tk }) (swo_code fun v => barAt H (backV v)) hoL (by rw [hal]; exact hasz) (fun h2 => ?_) fun out hs hb => ⟨_, rfl, ?_⟩)
    (PyProof.Rows.args_list_sort _)))
  · refine bars_sortableO (by omega) (fun v hv => ⟨(hbar v hv).1.keeps fun c oo e _ => Heap.get?_push_of_some _ e, (hbar v hv).2⟩) fun oo e => ?_
    have e' : some oo = some (seqObj "list" acc.toList.toArray 0) := e.symm.trans hoL
    cases e'
    intro c
    exact absurd (Value.type.inj c) (by decide)
  · obtain ⟨e', he'⟩ := PyProof.Rows.sortedHeap_at (vs := acc.toList) (out := out.toArray) hoL
    have pm : out.Perm (as.map Value.ref) := by rw [← ea']; exact hb.perm
    have href : ∀ v ∈ out, ∃ a, v = Value.ref a ∧ a ∈ as := fun v hv => by
      obtain ⟨a, ha, rfl⟩ := List.mem_map.mp (pm.mem_iff.mp hv)
      exact ⟨a, rfl, ha⟩
    have e1 : out.map backV = (out.map fun v => ((match v with | .ref a => a | _ => 0 : Addr), barAt H (backV v))).map fun k => V.ref k.1 := by
      rw [List.map_map]
      refine List.map_congr_left fun v hv => ?_
      obtain ⟨a, rfl, _⟩ := href v hv
      rfl
    have e2 : (out.map fun v => ((match v with | .ref a => a | _ => 0 : Addr), barAt H (backV v))).map (·.2) = out.map fun v => barAt H (backV v) := by
      rw [List.map_map]; rfl
    have pm2 : (out.map fun v => barAt H (backV v)).Perm bs := by
      have q1 := pm.map fun v => barAt H (backV v)
      have q2 : (as.map Value.ref).map (fun v => barAt H (backV v)) = bs := by
        rw [← kb2, List.map_map, List.map_map]; rfl
      rw [q2] at q1
      exact q1
    have qq := q (out.map fun v => ((match v with | .ref a => a | _ => 0 : Addr), barAt H (backV v))) h'.objs.size (fun k hk2 => by
        obtain ⟨v, hv, rfl⟩ := List.mem_map.mp hk2
        obtain ⟨a, rfl, ha⟩ := href v hv
        obtain ⟨b, _, hH⟩ := kb1 a ha
        show H a = some (.tup (barAt H (.ref a)).vs)
        rw [barAt_of hH]
        exact hH) (by rw [e2]; exact pm2) (by
        rw [e2, List.pairwise_map]
        exact hs.imp fun {x y} q => by
          have := of_decide_eq_false q
          omega) (I1.hok.fresh (Nat.le_refl _))
    rw [← e1] at qq
    refine wpAny_pure ⟨_, rfl, .ref h'.objs.size, upd H h'.objs.size (.lst (out.map backV)), I1.laid (t' := tk) (fun b u e => ?_) (Nat.le_refl _)
      (show ObjOk X.prog X.w _ _ _ (.lst (out.map backV)) from ⟨?_, out, e', vals_back fun v hv => ?_, he'⟩), rfl, qq⟩
    · have hb : b < h'.objs.size := Heap.lt_size e
      rw [PyProof.Rows.sortedHeap_old (Nat.ne_of_lt hb) (by rw [size_push']; exact Nat.lt_succ_of_lt hb)]
      exact Heap.get?_push_of_some _ e
    · rw [List.length_map, pm.length_eq, List.length_map]
      exact hasz
    · obtain ⟨a, e, _⟩ := href v hv
      exact ⟨a, e⟩
end
end DL

set_option Elab.async false
set_option maxRecDepth 100000
namespace DL
open PySem PySem.Spec PyProof.Rows L2
/-! ### bar <= bar -/
def Bar.leb (a b : Bar) : Bool := decide (a.code ≤ b.code)
def Bar.leq (a b : Bar) : Bool := if a.d = b.d then (if a.w = b.w then (if a.o = b.o then (if a.t = b.t then true else !(!b.t && a.t)) else decide (a.o ≤ b.o)) else !(!b.w && a.w)) else decide (a.d ≤ b.d)
theorem Bar.leq_code {a b : Bar} (ha : a.low) (hb : b.low) : a.leq b = a.leb b := by
  obtain ⟨ad, aw, ao, at'⟩ := a
  obtain ⟨bd, bw, bo, bt⟩ := b
  unfold Bar.low at ha hb
  unfold Bar.leq Bar.leb Bar.code b2n
  simp only at ha hb ⊢
  by_cases h1 : ad = bd
  · rw [if_pos h1]
    by_cases h2 : aw = bw
    · rw [if_pos h2]
      by_cases h3 : ao = bo
      · rw [if_pos h3]
        subst h1 h2 h3
        cases at' <;> cases bt <;> simp <;> omega
      · rw [if_neg h3]
        subst h1 h2
        cases at' <;> cases bt <;> simp <;> omega
    · rw [if_neg h2]
      subst h1
      cases aw <;> cases bw <;> cases at' <;> cases bt <;> simp at h2 ⊢ <;> omega
  · rw [if_neg h1]
    cases aw <;> cases bw <;> cases at' <;> cases bt <;> simp <;> omega
def rLeB (K : PySem.W.Frag) : R2 := fun x y H Q => ∃ (a b : Addr) (p q : Bar), x = .ref a ∧ y = .ref b ∧ SqT K H a p.vs ∧ SqT K H b q.vs ∧ Q (.bl (p.leq q)) H
theorem four_of {p : Bar} {its : List Value} (r : Vals p.vs its) : ∃ t1 t2 t3 t4, its = [.int p.d t1, .str (wd p.w) t2, .int p.o t3, .str (wd p.t) t4] := by
  cases r with
  | cons r1 rv =>
    cases rv with
    | cons r2 rv =>
      cases rv with
      | cons r3 rv =>
        cases rv with
        | cons r4 rv =>
          cases rv
          obtain ⟨t1, rfl⟩ := r1
          obtain ⟨t2, rfl⟩ := r2
          obtain ⟨t3, rfl⟩ := r3
          obtain ⟨t4, rfl⟩ := r4
          exact ⟨t1, t2, t3, t4, rfl⟩
theorem beq_dec {α : Type} [BEq α] [LawfulBEq α] [DecidableEq α] (a b : α) : (a == b) = decide (a = b) := by
  by_cases q : a = b
  · rw [decide_eq_true q]; exact beq_iff_eq.mpr q
  · rw [decide_eq_false q]; exact beq_eq_false_iff_ne.mpr q
theorem wd_beq (a b : Bool) : ((wd a) == (wd b)) = decide (a = b) := by revert a b; decide +kernel
theorem op_leB {X : Cx} (hu : X.A.units < cLine) : OpR X (compareOp .LtE) (rLeB X.K) := by
  intro pins s σ H x y v u Q I rx ry h
  obtain ⟨a, b, p, q, rfl, rfl, ha, hb, hq⟩ := h
  cases rx
  cases ry
  obtain ⟨its, r1, p1, _⟩ := I.tuple ha
  obtain ⟨its2, r2, p2, _⟩ := I.tuple hb
  obtain ⟨t1, t2, t3, t4, rfl⟩ := four_of r1
  obtain ⟨u1, u2, u3, u4, rfl⟩ := four_of r2
  have R := Ob.RcOp.tuples_le (A := X.A) (s := s) (e := fun j => match j with | 0 => decide (p.d = q.d) | 1 => decide (p.w = q.w) | 2 => decide (p.o = q.o) | _ => decide (p.t = q.t))
    (r := fun j => match j with | 0 => decide (p.d ≤ q.d) | 1 => !(!q.w && p.w) | 2 => decide (p.o ≤ q.o) | _ => !(!q.t && p.t)) p1 p2 hu (fun j h1 h2 => by
      match j, h1, h2 with
      | 0, _, _ => show SeqAt.EqAt _ _ (.int p.d t1) (.int q.d u1) (decide (p.d = q.d)); rw [← beq_dec]; exact SeqAt.EqAt.int_int _ _ _ _
      | 1, _, _ => show SeqAt.EqAt _ _ (.str (wd p.w) t2) (.str (wd q.w) u2) (decide (p.w = q.w)); rw [← wd_beq]; exact SeqAt.EqAt.str_str _ _ _ _
      | 2, _, _ => show SeqAt.EqAt _ _ (.int p.o t3) (.int q.o u3) (decide (p.o = q.o)); rw [← beq_dec]; exact SeqAt.EqAt.int_int _ _ _ _
      | 3, _, _ => show SeqAt.EqAt _ _ (.str (wd p.t) t4) (.str (wd q.t) u4) (decide (p.t = q.t)); rw [← wd_beq]; exact SeqAt.EqAt.str_str _ _ _ _
      | n + 4, h1, _ => exact absurd (show n + 4 < 4 from h1) (by omega)) (fun j h1 h2 _ => by
      match j, h1, h2 with
      | 0, _, _ => exact Ob.RcOp.le_int _ _ _ _
      | 1, _, _ =>
        show Ob.RcOp .LtE _ _ (.str (wd p.w) t2) (.str (wd q.w) u2) (!(!q.w && p.w))
        rw [← wd_lt]
        exact fun _ _ _ _ h => PySem.P.le_str h
      | 2, _, _ => exact Ob.RcOp.le_int _ _ _ _
      | 3, _, _ =>
        show Ob.RcOp .LtE _ _ (.str (wd p.t) t4) (.str (wd q.t) u4) (!(!q.t && p.t))
        rw [← wd_lt]
        exact fun _ _ _ _ h => PySem.P.le_str h
      | n + 4, h1, _ => exact absurd (show n + 4 < 4 from h1) (by omega))
  have z : wpAny (model X.prog X.w) X.A (compareOp .LtE (.ref a) (.ref b)) (EP X pins σ Q) X.xe s := R X.prog X.w X.xe (EP X pins σ Q) (by
    refine ⟨.bl (p.leq q), H, I, ?_, hq⟩
    show Value.bool _ = Value.bool (p.leq q)
    have e : (Ob.lexAt (fun j => match j with | 0 => decide (p.d = q.d) | 1 => decide (p.w = q.w) | 2 => decide (p.o = q.o) | _ => decide (p.t = q.t))
      (fun j => match j with | 0 => decide (p.d ≤ q.d) | 1 => !(!q.w && p.w) | 2 => decide (p.o ≤ q.o) | _ => !(!q.t && p.t)) true 0 4) = p.leq q := by
      unfold Bar.leq
      simp only [Ob.lexAt, decide_eq_true_eq]
    exact congrArg Value.bool e)
  exact z
/-! ### for i, x in enumerate(t), t a tuple -/
def IteT (K : PySem.W.Frag) (a : Addr) : It :=
  ⟨fun i H => ∃ (xs : List V) (x : V), SqT K H a xs ∧ xs[i]? = some x, fun i H v H' => ∃ T x, v = .ref T ∧ H T = none ∧ H' = upd H T (.tup [.int (i : Nat), x]) ∧ ∀ xs, SqT K H a xs → xs[i]? = some x, fun i H => ∃ xs : List V, SqT K H a xs ∧ xs.length ≤ i⟩
theorem turn_enumT {P : Program} {w : World} {K : PySem.W.Frag} {elts : List Expr} {kk : Nat} {tpos : Pos} (a e it : Addr) (hai : a ≠ it) (hae : e ≠ a) :
    Turn P w K (.Tuple elts kk tpos) (IteT K a) [e, it] e (fun i h => (∃ old, IsEnum h e it ((i : Nat) : Int) old) ∧ h.IsTupleIter it a i ∧ e ≠ it) where
  mem := by simp
  obj := fun i h st b hb => by
    obtain ⟨⟨old, he⟩, ⟨o, ho, hc, hd⟩, _⟩ := st
    have e' : b = e ∨ b = it := by simpa using hb
    rcases e' with z | z
    · rw [z]; exact ⟨_, he, fun v q => nomatch q⟩
    · rw [z]; exact ⟨o, ho, fun v q => by rw [hd] at q; cases q⟩
  keep := fun i h h' st k => let ⟨⟨old, he⟩, hi, hne⟩ := st; ⟨⟨old, k e (by simp) _ he⟩, hi.at fun o q => k it (by simp) o q, hne⟩
  item := by
    intro X hP hw hK hc i pins s σ H E I hf st hg
    subst hP hw hK
    obtain ⟨⟨old, he⟩, hit, hne⟩ := st
    obtain ⟨xs, x, hq, hx⟩ := hg
    obtain ⟨its, rv, p, hz⟩ := I.tuple hq
    obtain ⟨u, hu, ru⟩ := rv.get hx
    have hel : e < s.heap.objs.size := Heap.lt_size he
    have hil : it < s.heap.objs.size := by obtain ⟨_, q, _⟩ := hit; exact Heap.lt_size q
    have hlt : i < its.toArray.size := by
      have := (List.getElem?_eq_some_iff.mp hu).1
      simpa using this
    refine wpAny_pyNext_enum_itemD (Draws.tuple (A := X.A.in1) (I.ok.hd hc) it a hai its.toArray) he ⟨hit, p⟩ hlt hne (by simp; exact ⟨hne, hae⟩) fun x1 h' tk hp ho hst' hT hsz hk => ?_
    have hx1 : x1 = u := by
      have q : its.toArray[i]? = some u := by simpa using hu
      rw [q] at hp
      exact (Option.some.inj hp).symm
    subst hx1
    refine ⟨_, rfl, wpAny_letOwnedTupleGo_enum (s := { s with heap := h', toks := tk + 1 }) ho fun h'' he' sb => ?_⟩
    have hT2 : h''.get? s.heap.objs.size = some { cls := .type "tuple", data := .seq #[.int i tk, x1] } := (sb.2 _ (Nat.ne_of_gt hel)).trans hT
    have new : ObjOk X.prog X.w (upd H s.heap.objs.size (.tup [.int (i : Nat), x])) h'' s.heap.objs.size (.tup [.int (i : Nat), x]) :=
      ⟨by show 2 ≤ sizeLine; decide, [.int i tk, x1], .cons ⟨_, rfl⟩ (.cons ru .nil), ⟨_, hT2, rfl, _, rfl⟩⟩
    have I1 : Inv X pins σ (upd H s.heap.objs.size (.tup [.int (i : Nat), x])) { s with heap := h'', toks := tk + 1 } :=
      I.turnedNew (ch := [e, it]) (fun b ob hb q => (sb.2 b (fun z => hb (by simp [z]))).trans (hk b ob (fun z => hb (by simp [z])) (fun z => hb (by simp [z])) q)) hf (Nat.le_refl _) new
    refine ⟨.ref s.heap.objs.size, _, I1, rfl, ⟨_, x, rfl, I.hok.fresh (Nat.le_refl _), rfl, fun ys hy => by rw [I.tuple_inj hy hq]; exact hx⟩, ⟨⟨x1, ?_⟩, hst'.1.at fun o q => (sb.2 it (Ne.symm hne)).trans q, hne⟩, fun b hb => ?_⟩
    · have e1 : ((i + 1 : Nat) : Int) = (i : Int) + 1 := by omega
      rw [e1]; exact he'
    · have hb' : b < s.heap.objs.size := by
        have e' : b = e ∨ b = it := by simpa using hb
        rcases e' with z | z
        · rw [z]; exact hel
        · rw [z]; exact hil
      rw [upd_ne (Nat.ne_of_lt hb')]
      exact (hf b hb).1
  done := by
    intro X hP hw hK hc i pins s σ H E I hf st hg
    subst hP hw hK
    obtain ⟨⟨old, he⟩, hit, hne⟩ := st
    obtain ⟨xs, hq, hx⟩ := hg
    obtain ⟨its, rv, p, hz⟩ := I.tuple hq
    obtain ⟨f0, f1, f2, f3, f4, f5⟩ := hf it (by simp)
    have hl := rv.length
    have D := Draws.tuple (prog := X.prog) (w := X.w) (A := X.A.in1) (I.ok.hd hc) it a hai its.toArray
    have go : ∀ {Q : Option Value → Shared → Prop}, (∀ h', Heap.ExtBut it s.heap h' → Q none { s with heap := h' }) → wpAny (model X.prog X.w) X.A (pyNext (.ref e)) Q E s := by
      intro Q hQ
      unfold pyNext
      have hT : s.TypeIs (.ref e) "enumerate" := ⟨_, he, rfl⟩
      refine wpAny_bind (wpAny_attempt (wpAny_callSpecial?_slot (name := Str.ofString "__next__") hT F.slot_enumerate_next
        (wpAny_call_entry F.slot_enumerate_next hT F.entry_enumerate_next ?_ (F.args_enumerate_next_1 _))))
      show wpAny _ _ (field (.ref e) 2 >>= _) _ _ _
      refine wpAny_bind (wpAny_field he rfl (x := .ref it) rfl ?_)
      refine wpAny_bind (wpAny_nextOf_tuple_end (I.ok.hd hc) hit p (by simp; omega) fun h' x he' hx' => ?_)
      obtain ⟨o, ho, hc⟩ := hx'
      refine wpAny_bind (wpAny_isInstance (T := "StopIteration") (b := true) ⟨o, ho, hc⟩ isSubtype_stop ?_)
      exact wpAny_pure (hQ _ he')
    exact go fun h' eb => ⟨rfl, I.turned (t' := s.toks) (fun b o hb q => eb b o hb q) f0 f1 f3 f4 f5⟩
  self := fun A i s Q E st h => let ⟨⟨_, he⟩, _⟩ := st; wpAny_pyIter_enum he h
def iEnumT (K : PySem.W.Frag) (ta : TA) : TI := fun σ H R => ta σ H fun vs H1 => ∃ a xs, vs = [.ref a] ∧ SqT K H1 a xs ∧ R (IteT K a) H1
end DL

set_option Elab.async false
set_option maxRecDepth 100000
namespace DL
open PySem PySem.Spec PyProof.Rows L2
open Sem (wp)
set_option maxHeartbeats 1000000 in
theorem meets_enumerate_newB1 {v : Value} {o : Obj} {H : Heap → Prop} (B : Begins v o H) :
    Meets (Builtin.«enumerate.__new__» ⟨[.type "enumerate", v], []⟩) (fun _ R s => H s.heap ∧
      R (.ok (.ret (.ref (s.heap.push o).objs.size))) { s with heap := (s.heap.push o).push { cls := .type "enumerate", data := .fields #[.none, .bool false, .ref s.heap.objs.size, rawInt 0, .none, .none] } }) :=
  .of_wp fun prog w A R s h => by
    obtain ⟨hp, g, d, tk, os⟩ := s; obtain ⟨h1, h⟩ := h
    have hsub := sub_enumerate
    have q1 : ∀ {A' : Around} {E : Value → Shared → Prop} {Q : Value → Shared → Prop}, Q (.ref hp.objs.size) ⟨hp.push o, g, d, tk, os⟩ → wpAny (model prog w) A' (pyIter v) Q E ⟨hp, g, d, tk, os⟩ :=
      fun q => B.iter prog w _ _ ⟨hp, g, d, tk, os⟩ _ h1 q
    wp_walk using q1
    refine wpAny_stack_any fun st => wpAny_pure ?_
    split
    · rename_i c _ _ _ _ _
      cases (c == Value.type "enumerate")
      · wp_walk using q1
        exact ⟨_, rfl, h⟩
      · wp_walk using q1
        exact ⟨_, rfl, h⟩
    · wp_walk using q1
      exact ⟨_, rfl, h⟩
section
variable {prog : Program} {w : World} {A : Around} {E : Value → Shared → Prop} {s : Shared}
theorem enum_begins1 {v : Value} {o : Obj} {H : Heap → Prop} {Q : Value → Shared → Prop} (B : Begins v o H) (h1 : H s.heap)
    (h : ∀ h', IsEnum h' (s.heap.objs.size + 1) s.heap.objs.size 0 .none → h'.get? s.heap.objs.size = some o → h'.objs.size = s.heap.objs.size + 2 →
      (∀ b o, s.heap.get? b = some o → h'.get? b = some o) → Q (.ref (s.heap.objs.size + 1)) { s with heap := h' }) :
    wpAny (model prog w) A (call (.type "enumerate") [v]) Q E s := by
  refine callType_new F.called_enumerate (by decide) (F.typeCall_enumerate_1 _) (F.newCall_enumerate_1 _) (fun obj => F.args_object_init_2 obj _) F.entry_enumerate_new
    (meets_enumerate_newB1 B) ⟨h1, ?_⟩
  have hz : (s.heap.push o).objs.size = s.heap.objs.size + 1 := Heap.size_push ..
  show _ ∧ _
  rw [hz]
  have he : IsEnum ((s.heap.push o).push { cls := .type "enumerate", data := .fields #[.none, .bool false, .ref s.heap.objs.size, rawInt 0, .none, .none] }) (s.heap.objs.size + 1) s.heap.objs.size 0 .none := by
    have := Heap.get?_push_size (s.heap.push o) (o := { cls := .type "enumerate", data := .fields #[.none, .bool false, .ref s.heap.objs.size, rawInt 0, .none, .none] }) rfl
    rw [hz] at this; exact this
  refine ⟨⟨_, he, rfl⟩, h _ he (Heap.get?_push_of_some _ (Heap.get?_push_size _ B.free)) (by rw [Heap.size_push, hz]) fun b o x => Heap.get?_push_of_some _ (Heap.get?_push_of_some _ x)⟩
end
theorem pi_enumT {X : Cx} {e : Expr} {ta : TA} {p pos tpos : Pos} {elts : List Expr} {kk : Nat} (hg : Gl X "enumerate") (hm : X.mg "enumerate" = none) (ha : PA X [e] ta) (hs : starEach [e] X.env = [(false, eval e X.env)] := by rfl) :
    PI X (.Tuple elts kk tpos) (.Call (.Name "enumerate" p) [e] [] pos) (iEnumT X.K ta) := by
  refine ⟨fun pins s σ H R I h => ?_⟩
  refine Call_ (ld_blt I hg hm boot_enumerate (PyProof.Rows.callWith_type1 (thn (ha.run pos pins s σ H _ I h) fun us s1 ⟨vs, H1, I1, r1, q1⟩ => ?_) hs rfl))
  obtain ⟨a, xs, ex, hq, q⟩ := q1
  subst ex
  cases r1 with
  | cons r rr =>
    cases rr
    cases r
    obtain ⟨its, rv, p', hz⟩ := I1.tuple hq
    have hal : a < s1.heap.objs.size := by obtain ⟨o, ho, _⟩ := id p'; exact Heap.lt_size ho
    refine enum_begins1 (begins_tuple a its.toArray) (show s1.heap.IsTuple a its.toArray from p') fun h' he hit hsz hk => wpAny_pyIter_enum he ?_
    have I2 : Inv X pins σ H1 { s1 with heap := h' } := I1.kept (t' := s1.toks) hk
    refine ⟨s1.heap.objs.size + 1, [s1.heap.objs.size + 1, s1.heap.objs.size], _, _, H1, rfl, I2, turn_enumT a (s1.heap.objs.size + 1) s1.heap.objs.size (Nat.ne_of_lt hal) (Nat.ne_of_gt (Nat.lt_succ_of_lt hal)),
      ⟨⟨.none, he⟩, ⟨_, hit, rfl, rfl⟩, Nat.succ_ne_self _⟩, fun b hb => ?_, q⟩
    have e' : b = s1.heap.objs.size + 1 ∨ b = s1.heap.objs.size := by simpa using hb
    have hle : s1.heap.objs.size ≤ b := by
      rcases e' with z | z
      · rw [z]; exact Nat.le_add_right _ _
      · rw [z]; exact Nat.le_refl _
    exact I1.fpOk hle (I1.hok.fresh hle)
theorem walk_enumT {K : PySem.W.Frag} {a : Addr} {xs : List V} : Walk (IteT K a) xs.length (fun H => SqT K H a xs) (YPair (fun i => some (.int (i : Nat))) (fun i => xs[i]?)) := by
  refine ⟨fun i _ hi q => ⟨xs, xs[i], q, by simp [hi]⟩, fun _ q => ⟨xs, q, Nat.le_refl _⟩, fun i H v H' _ q y => ?_⟩
  obtain ⟨T, x, h1, h2, h3, h4⟩ := y
  exact ⟨T, .int (i : Nat), x, h1, h2, h3, rfl, h4 xs q⟩
end DL

set_option Elab.async false
set_option maxRecDepth 100000
set_option maxHeartbeats 1000000
namespace DL
open PySem PySem.Spec PyProof.Rows L2
/-! ### a zip that is walked by an enumerate: its tuple stays out -/
/-- the zip at z; own: the tuple that is out, if any -/
abbrev IsZ (h : Heap) (z TI TO : Addr) (own : Value) (f : Bool) : Prop :=
  h.get? z = some { cls := .type "zip", dict := none, data := .fields #[own, .bool f, .bool false, .ref TI, .ref TO], slots := #[] }
section
variable {prog : Program} {w : World} {A : Around} {E : Value → Shared → Prop} {s : Shared}
/-- the next pair while the zip's own tuple can be laid anew -/
theorem zn_free {z TI TO i1 i2 l1 l2 : Addr} {k1 k2 : Nat} {xs ys : Array Value} {x y a b own : Value} {f : Bool} {Q : Value → Shared → Prop} (D : ZipApart z TI TO i1 i2 l1 l2)
    (hz : IsZ s.heap z TI TO own f) (fr : ∀ {A' : Around} {Q' : Bool → Shared → Prop}, Q' true s → wpAny (model prog w) A' (Builtin.SmallTypes.ownedTupleIsFree (.ref z)) Q' E s)
    (hTI : IsPair s.heap TI (.ref i1) (.ref i2)) (hTO : IsPair s.heap TO a b) (h1 : s.heap.IsListIter i1 l1 k1) (h2 : s.heap.IsListIter i2 l2 k2) (hl1 : s.heap.IsList l1 xs) (hl2 : s.heap.IsList l2 ys) (hx : xs[k1]? = some x) (hy : ys[k2]? = some y)
    (hQ : ∀ h' own' f', (∃ T : Addr, own' = rawInt T) → IsZ h' z TI TO own' f' → IsPair h' TO x y → h'.IsListIter i1 l1 (k1 + 1) → h'.IsListIter i2 l2 (k2 + 1) → IsPair h' s.heap.objs.size x y → h'.objs.size = s.heap.objs.size + 1 →
      (∀ c o, c ≠ z → c ≠ TO → c ≠ i1 → c ≠ i2 → s.heap.get? c = some o → h'.get? c = some o) → Q (.ref s.heap.objs.size) { s with heap := h' }) :
    wpAny (model prog w) A (Builtin.«zip.__next__» ⟨[.ref z], []⟩) (fun fin s' => ∃ v, fin = .done (.ret v) ∧ Q v s') E s := by
  show wpAny _ _ (field (.ref z) 2 >>= _) _ _ _
  refine wpAny_bind (wpAny_field hz rfl (x := .bool false) rfl ?_) ; show wpAny _ _ (field (.ref z) 3 >>= _) _ _ _
  refine wpAny_bind (wpAny_field hz rfl (x := .ref TI) rfl ?_) ; refine wpAny_bind (wpAny_seqItems hTI rfl ?_)
  show wpAny _ _ (Builtin.SmallTypes.ownedTupleIsFree (.ref z) >>= _) _ _ _ ; refine wpAny_bind (fr ?_)
  simp only [if_true]
  refine wpAny_bind (wpAny_rule (wpAny_bind (wpAny_field hz rfl (x := .ref TO) rfl ?_)))
  refine wpAny_bind (wpAny_setField_rec hz (by simp) fun g1 z1 b1 => ?_)
  replace z1 : IsZ g1 z TI TO .ellipsis f := z1
  refine wpAny_bind ?_
  simp only [List.zipIdx_cons, List.zipIdx_nil, List.forIn_cons, List.forIn_nil]
  refine wpAny_bind (wpAny_bind (wpAny_onRaise ?_)) ; show wpAny _ _ (Builtin.SmallTypes.nextOf (.ref i1) >>= _) _ _ _
  refine wpAny_bind (wpAny_nextOf_list_item (h1.extBut b1.extBut D.i1z) (hl1.extBut b1.extBut D.l1z) hx fun g2 it2 b2 => wpAny_pure ?_)
  have p2 : IsPair g2 TO a b := b2.extBut _ _ D.TOi1 (b1.extBut _ _ D.TOz hTO)
  refine wpAny_bind (wpAny_seqItems p2 rfl (wpAny_bind (wpAny_updateSeq_pair p2 fun g3 p3 b3 => ?_)))
  replace p3 : IsPair g3 TO x b := p3
  refine wpAny_bind (wpAny_letGo (wpAny_pure (wpAny_bind (wpAny_bind (wpAny_onRaise ?_)))))
  show wpAny _ _ (Builtin.SmallTypes.nextOf (.ref i2) >>= _) _ _ _ ; refine wpAny_bind (wpAny_nextOf_list_item (((h2.extBut b1.extBut D.i2z).extBut b2.extBut D.i12.symm).extBut b3.extBut D.TOi2.symm)
    (((hl2.extBut b1.extBut D.l2z).extBut b2.extBut D.l2i1).extBut b3.extBut D.l2TO) hy fun g4 it4 b4 => wpAny_pure ?_)
  have p4 : IsPair g4 TO x b := b4.extBut _ _ D.TOi2 p3
  refine wpAny_bind (wpAny_seqItems p4 rfl (wpAny_bind (wpAny_updateSeq_pair p4 fun g5 p5 b5 => ?_)))
  replace p5 : IsPair g5 TO x y := p5
  refine wpAny_bind (wpAny_letGo (wpAny_pure (wpAny_pure (wpAny_bind (wpAny_seqItems p5 rfl (wpAny_bind (wpAny_newTuple ?_)))))))
  have sz : g5.objs.size = s.heap.objs.size := by rw [b5.1, b4.1, b3.1, b2.1, b1.1]
  have z5 : IsZ g5 z TI TO .ellipsis f := b5.extBut _ _ D.TOz.symm (b4.extBut _ _ D.i2z.symm (b3.extBut _ _ D.TOz.symm (b2.extBut _ _ D.i1z.symm z1)))
  have k5 : ∀ c o, c ≠ z → c ≠ TO → c ≠ i1 → c ≠ i2 → s.heap.get? c = some o → g5.get? c = some o := fun c o c1 c2 c3 c4 e => b5.extBut _ _ c2 (b4.extBut _ _ c4 (b3.extBut _ _ c2 (b2.extBut _ _ c3 (b1.extBut _ _ c1 e))))
  have it1 : g5.IsListIter i1 l1 (k1 + 1) := ((it2.extBut b3.extBut D.TOi1.symm).extBut b4.extBut D.i12).extBut b5.extBut D.TOi1.symm
  have it5 : g5.IsListIter i2 l2 (k2 + 1) := it4.extBut b5.extBut D.TOi2.symm
  have ltz : z < g5.objs.size := Heap.lt_size z5
  show wpAny _ _ (Builtin.SmallTypes.ownedTupleHandOut (.ref z) (.ref g5.objs.size) >>= _) _ _ _ ; refine wpAny_bind ?_
  unfold Builtin.SmallTypes.ownedTupleHandOut
  have z6 : IsZ (g5.push { cls := .type "tuple", data := .seq #[x, y] }) z TI TO .ellipsis f := Heap.get?_push_of_some _ z5
  refine wpAny_bind (wpAny_setField_rec z6 (by simp) fun g7 z7 b7 => ?_)
  replace z7 : IsZ g7 z TI TO (rawInt g5.objs.size) f := z7
  refine wpAny_setField_rec z7 (by simp) fun g8 z8 b8 => ?_
  replace z8 : IsZ g8 z TI TO (rawInt g5.objs.size) false := z8
  have up : ∀ c o, c ≠ z → g5.get? c = some o → g8.get? c = some o := fun c o c1 e => b8.extBut _ _ c1 (b7.extBut _ _ c1 (Heap.get?_push_of_some _ e))
  have t8 : IsPair g8 g5.objs.size x y := b8.extBut _ _ (Nat.ne_of_gt ltz) (b7.extBut _ _ (Nat.ne_of_gt ltz) (Heap.get?_push_size _ rfl))
  have sz8 : g8.objs.size = g5.objs.size + 1 := by rw [b8.1, b7.1, Heap.size_push]
  rw [sz] at z8 t8 sz8
  refine wpAny_pure ⟨_, rfl, ?_⟩ ; show Q (.ref g5.objs.size) _
  rw [sz]
  exact hQ g8 _ _ ⟨_, rfl⟩ z8 (up _ _ D.TOz p5) (it1.at fun o e => up _ o D.i1z e) (it5.at fun o e => up _ o D.i2z e) t8 sz8 fun c o c1 c2 c3 c4 e => up c o c1 (k5 c o c1 c2 c3 c4 e)
theorem gone_load {T : Addr} {Q' : Option Obj → Shared → Prop} {A' : Around} (e : s.heap.get? T = none) (q : Q' none s) : wpAny (model prog w) A' (loadIfAlive T) Q' E s := by
  have z : Q' (s.heap.get? T) s := by
    rw [e]
    exact q
  exact fun _ _ _ => z
/-- none out, or one that is no more -/
theorem own_free {z TI TO : Addr} {own : Value} {f : Bool} (hz : IsZ s.heap z TI TO own f) (ho : own = .none ∨ ∃ T : Addr, own = rawInt T ∧ s.heap.get? T = none) {A' : Around} {Q' : Bool → Shared → Prop} (q : Q' true s) :
    wpAny (model prog w) A' (Builtin.SmallTypes.ownedTupleIsFree (.ref z)) Q' E s := by
  unfold Builtin.SmallTypes.ownedTupleIsFree
  rcases ho with rfl | ⟨T, rfl, e⟩
  · exact wpAny_bind (wpAny_field hz rfl (x := .none) rfl (wpAny_pure q))
  · refine wpAny_bind (wpAny_field hz rfl (x := rawInt T) rfl ?_)
    show wpAny _ _ (loadIfAlive ((T : Int).toNat) >>= _) _ _ _
    rw [Int.toNat_natCast]
    exact wpAny_bind (gone_load e (wpAny_pure q))
/-- the next pair of a zip, whatever became of the one before -/
theorem zn_item {z TI TO i1 i2 l1 l2 : Addr} {k1 k2 : Nat} {xs ys : Array Value} {x y a b own : Value} {f : Bool} {Q : Value → Shared → Prop} (D : ZipApart z TI TO i1 i2 l1 l2)
    (hz : IsZ s.heap z TI TO own f) (ho : own = .none ∨ ∃ T : Addr, own = rawInt T)
    (hTI : IsPair s.heap TI (.ref i1) (.ref i2)) (hTO : IsPair s.heap TO a b) (h1 : s.heap.IsListIter i1 l1 k1) (h2 : s.heap.IsListIter i2 l2 k2) (hl1 : s.heap.IsList l1 xs) (hl2 : s.heap.IsList l2 ys) (hx : xs[k1]? = some x) (hy : ys[k2]? = some y)
    (hQ : ∀ h' own' f' a' b', (∃ T : Addr, own' = rawInt T) → IsZ h' z TI TO own' f' → IsPair h' TO a' b' → h'.IsListIter i1 l1 (k1 + 1) → h'.IsListIter i2 l2 (k2 + 1) → IsPair h' s.heap.objs.size x y → h'.objs.size = s.heap.objs.size + 1 →
      (∀ c o, c ≠ z → c ≠ TO → c ≠ i1 → c ≠ i2 → s.heap.get? c = some o → h'.get? c = some o) → Q (.ref s.heap.objs.size) { s with heap := h' }) :
    wpAny (model prog w) A (Builtin.«zip.__next__» ⟨[.ref z], []⟩) (fun fin s' => ∃ v, fin = .done (.ret v) ∧ Q v s') E s := by
  have free : (own = .none ∨ ∃ T : Addr, own = rawInt T ∧ s.heap.get? T = none) → wpAny (model prog w) A (Builtin.«zip.__next__» ⟨[.ref z], []⟩) (fun fin s' => ∃ v, fin = .done (.ret v) ∧ Q v s') E s := fun fr =>
    zn_free D hz (fun q => own_free hz fr q) hTI hTO h1 h2 hl1 hl2 hx hy fun h' own' f' a1 a2 a3 a4 a5 a6 a7 a8 => hQ h' own' f' _ _ a1 a2 a3 a4 a5 a6 a7 a8
  rcases ho with e | ⟨T, e⟩
  · exact free (.inl e)
  · cases hT : s.heap.get? T with
    | none => exact free (.inr ⟨T, e, hT⟩)
    | some oT =>
      subst e
      have ne : ∀ c, c = TO → c ≠ z := fun c e => by rw [e]; exact D.TOz
      refine zip_next_item_held D hz hT hTI h1 h2 hl1 hl2 hx hy fun h' a1 a2 a3 a4 a5 a6 => hQ h' _ _ a b ⟨T, rfl⟩ a1 (a6 _ _ D.TOz D.TOi1 D.TOi2 hTO) a2 a3 a4 a5 fun c o c1 _ c3 c4 q => a6 c o c1 c3 c4 q
theorem zn_free_end {z TI TO i1 i2 l1 l2 : Addr} {k1 k2 : Nat} {xs ys : Array Value} {a b own : Value} {f : Bool} {Q : PySem.Fin → Shared → Prop} (calm : A.handled = none) (D : ZipApart z TI TO i1 i2 l1 l2)
    (hz : IsZ s.heap z TI TO own f) (fr : ∀ {A' : Around} {Q' : Bool → Shared → Prop}, Q' true s → wpAny (model prog w) A' (Builtin.SmallTypes.ownedTupleIsFree (.ref z)) Q' E s)
    (hTI : IsPair s.heap TI (.ref i1) (.ref i2)) (hTO : IsPair s.heap TO a b) (h1 : s.heap.IsListIter i1 l1 k1) (h2 : s.heap.IsListIter i2 l2 k2) (hl1 : s.heap.IsList l1 xs) (hl2 : s.heap.IsList l2 ys) (ends : xs[k1]? = none ∨ ys[k2]? = none)
    (hE : ∀ h' e, (∀ c o, c ≠ z → c ≠ TO → c ≠ i1 → c ≠ i2 → s.heap.get? c = some o → h'.get? c = some o) → (∃ o, h'.get? e = some o ∧ o.cls = .type "StopIteration") → E (.ref e) { s with heap := h' }) :
    wpAny (model prog w) A (Builtin.«zip.__next__» ⟨[.ref z], []⟩) Q E s := by
  show wpAny _ _ (field (.ref z) 2 >>= _) _ _ _
  refine wpAny_bind (wpAny_field hz rfl (x := .bool false) rfl ?_) ; show wpAny _ _ (field (.ref z) 3 >>= _) _ _ _
  refine wpAny_bind (wpAny_field hz rfl (x := .ref TI) rfl ?_) ; refine wpAny_bind (wpAny_seqItems hTI rfl ?_)
  show wpAny _ _ (Builtin.SmallTypes.ownedTupleIsFree (.ref z) >>= _) _ _ _ ; refine wpAny_bind (fr ?_)
  simp only [if_true]
  refine wpAny_bind (wpAny_rule (wpAny_bind (wpAny_field hz rfl (x := .ref TO) rfl ?_)))
  refine wpAny_bind (wpAny_setField_rec hz (by simp) fun g1 z1 b1 => ?_)
  replace z1 : IsZ g1 z TI TO .ellipsis f := z1
  refine wpAny_bind ?_
  simp only [List.zipIdx_cons, List.zipIdx_nil, List.forIn_cons, List.forIn_nil]
  refine wpAny_bind (wpAny_bind (wpAny_onRaise ?_)) ; show wpAny _ _ (Builtin.SmallTypes.nextOf (.ref i1) >>= _) _ _ _
  have last : ∀ (g : Heap) (e : Addr), IsZ g z TI TO .ellipsis f → (∃ o, g.get? e = some o ∧ o.cls = .type "StopIteration") → e ≠ z := fun g e q ⟨o, h, hc⟩ z => by
    subst z
    rw [q] at h
    cases h
    simp at hc
  cases hx : xs[k1]? with
  | none =>
    refine wpAny_bind (wpAny_nextOf_list_end calm (h1.extBut b1.extBut D.i1z) (hl1.extBut b1.extBut D.l1z) hx fun g2 e b2 he => ?_)
    have z2 : IsZ g2 z TI TO .ellipsis f := b2 _ _ D.i1z.symm z1
    have ne := last _ _ z2 he
    obtain ⟨oe, e1, e2⟩ := he
    exact wpAny_setField_rec z2 (by simp) fun g3 _ b3 => hE g3 e (fun c o c1 _ c3 _ q => b3.extBut _ _ c1 (b2 _ _ c3 (b1.extBut _ _ c1 q))) ⟨oe, b3.extBut _ _ ne e1, e2⟩
  | some x =>
    have hy : ys[k2]? = none := ends.resolve_left fun q => by rw [hx] at q; cases q
    refine wpAny_bind (wpAny_nextOf_list_item (h1.extBut b1.extBut D.i1z) (hl1.extBut b1.extBut D.l1z) hx fun g2 it2 b2 => wpAny_pure ?_)
    have p2 : IsPair g2 TO a b := b2.extBut _ _ D.TOi1 (b1.extBut _ _ D.TOz hTO)
    refine wpAny_bind (wpAny_seqItems p2 rfl (wpAny_bind (wpAny_updateSeq_pair p2 fun g3 p3 b3 => ?_)))
    refine wpAny_bind (wpAny_letGo (wpAny_pure (wpAny_bind (wpAny_bind (wpAny_onRaise ?_)))))
    show wpAny _ _ (Builtin.SmallTypes.nextOf (.ref i2) >>= _) _ _ _ ; refine wpAny_bind (wpAny_nextOf_list_end calm (((h2.extBut b1.extBut D.i2z).extBut b2.extBut D.i12.symm).extBut b3.extBut D.TOi2.symm)
      (((hl2.extBut b1.extBut D.l2z).extBut b2.extBut D.l2i1).extBut b3.extBut D.l2TO) hy fun g4 e b4 he => ?_)
    have z4 : IsZ g4 z TI TO .ellipsis f := b4 _ _ D.i2z.symm (b3.extBut _ _ D.TOz.symm (b2.extBut _ _ D.i1z.symm z1))
    have ne := last _ _ z4 he
    obtain ⟨oe, e1, e2⟩ := he
    exact wpAny_setField_rec z4 (by simp) fun g5 _ b5 => hE g5 e (fun c o c1 c2 c3 c4 q => b5.extBut _ _ c1 (b4 _ _ c4 (b3.extBut _ _ c2 (b2.extBut _ _ c3 (b1.extBut _ _ c1 q))))) ⟨oe, b5.extBut _ _ ne e1, e2⟩
theorem zn_end {z TI TO i1 i2 l1 l2 : Addr} {k1 k2 : Nat} {xs ys : Array Value} {a b own : Value} {f : Bool} {Q : PySem.Fin → Shared → Prop} (calm : A.handled = none) (D : ZipApart z TI TO i1 i2 l1 l2)
    (hz : IsZ s.heap z TI TO own f) (ho : own = .none ∨ ∃ T : Addr, own = rawInt T)
    (hTI : IsPair s.heap TI (.ref i1) (.ref i2)) (hTO : IsPair s.heap TO a b) (h1 : s.heap.IsListIter i1 l1 k1) (h2 : s.heap.IsListIter i2 l2 k2) (hl1 : s.heap.IsList l1 xs) (hl2 : s.heap.IsList l2 ys) (ends : xs[k1]? = none ∨ ys[k2]? = none)
    (hE : ∀ h' e, (∀ c o, c ≠ z → c ≠ TO → c ≠ i1 → c ≠ i2 → s.heap.get? c = some o → h'.get? c = some o) → (∃ o, h'.get? e = some o ∧ o.cls = .type "StopIteration") → E (.ref e) { s with heap := h' }) :
    wpAny (model prog w) A (Builtin.«zip.__next__» ⟨[.ref z], []⟩) Q E s := by
  rcases ho with e | ⟨T, e⟩
  · exact zn_free_end calm D hz (fun q => own_free hz (.inl e) q) hTI hTO h1 h2 hl1 hl2 ends hE
  · cases hT : s.heap.get? T with
    | none => exact zn_free_end calm D hz (fun q => own_free hz (.inr ⟨T, e, hT⟩) q) hTI hTO h1 h2 hl1 hl2 ends hE
    | some oT =>
      subst e
      exact zip_next_end_held calm D hz hT hTI h1 h2 hl1 hl2 ends fun h' e k q => hE h' e (fun c o c1 _ c3 c4 r => k c o c1 c3 c4 r) q
theorem nx_zip_end {z TI TO : Addr} {own : Value} {f : Bool} {Q : Value → Shared → Prop} (hz : IsZ s.heap z TI TO own f) (h : wpAny (model prog w) A.in1 (Builtin.«zip.__next__» ⟨[.ref z], []⟩) (fun _ _ => False) E s) : wpAny (model prog w) A (Builtin.SmallTypes.nextOf (.ref z)) Q E s := by
  have hT : s.TypeIs (.ref z) "zip" := ⟨_, hz, rfl⟩
  unfold Builtin.SmallTypes.nextOf
  refine wpAny_bind (wpAny_callSpecial?_slot (name := Str.ofString "__next__") hT F.slot_zip_next (wpAny_call_entry F.slot_zip_next hT F.entry_zip_next ?_ (F.args_zip_next_1 _)))
  exact wpAny_mono h (fun _ _ q => q.elim) fun _ _ q => q
theorem nx_zip {z TI TO : Addr} {own : Value} {f : Bool} {Q : Value → Shared → Prop} (hz : IsZ s.heap z TI TO own f) (h : wpAny (model prog w) A.in1 (Builtin.«zip.__next__» ⟨[.ref z], []⟩) (fun fin s' => ∃ v, fin = .done (.ret v) ∧ Q v s') E s) :
    wpAny (model prog w) A (Builtin.SmallTypes.nextOf (.ref z)) Q E s := by
  have hT : s.TypeIs (.ref z) "zip" := ⟨_, hz, rfl⟩
  unfold Builtin.SmallTypes.nextOf
  refine wpAny_bind (wpAny_callSpecial?_slot (name := Str.ofString "__next__") hT F.slot_zip_next (wpAny_call_entry F.slot_zip_next hT F.entry_zip_next ?_ (F.args_zip_next_1 _)))
  refine wpAny_mono h (fun fin s' q => ?_) fun _ _ q => q
  obtain ⟨v, e, q⟩ := q
  exact ⟨v, e, wpAny_pure q⟩
/-- the next of an enumerate over a zip: a pair of the index and the zip's pair -/
theorem ez_item {e z TI TO i1 i2 l1 l2 : Addr} {n : Int} {k1 k2 : Nat} {xs ys : Array Value} {x y a b own old : Value} {f : Bool} {Q : Option Value → Shared → Prop} (D : ZipApart z TI TO i1 i2 l1 l2)
    (he : IsEnum s.heap e z n old) (out : e ≠ z ∧ e ≠ TI ∧ e ≠ TO ∧ e ≠ i1 ∧ e ≠ i2) (hz : IsZ s.heap z TI TO own f) (ho : own = .none ∨ ∃ T : Addr, own = rawInt T)
    (hTI : IsPair s.heap TI (.ref i1) (.ref i2)) (hTO : IsPair s.heap TO a b) (h1 : s.heap.IsListIter i1 l1 k1) (h2 : s.heap.IsListIter i2 l2 k2) (hl1 : s.heap.IsList l1 xs) (hl2 : s.heap.IsList l2 ys) (hx : xs[k1]? = some x) (hy : ys[k2]? = some y)
    (hQ : ∀ h' own' f' a' b', (∃ T : Addr, own' = rawInt T) → IsEnumOut h' e z (n + 1) (.ref s.heap.objs.size) (s.heap.objs.size + 1) → IsZ h' z TI TO own' f' → IsPair h' TI (.ref i1) (.ref i2) → IsPair h' TO a' b' → h'.IsListIter i1 l1 (k1 + 1) → h'.IsListIter i2 l2 (k2 + 1) →
      IsPair h' s.heap.objs.size x y → IsPair h' (s.heap.objs.size + 1) (.int n s.toks) (.ref s.heap.objs.size) →
      (∀ c o, c ≠ e → c ≠ z → c ≠ TO → c ≠ i1 → c ≠ i2 → s.heap.get? c = some o → h'.get? c = some o) → Q (some (.ref (s.heap.objs.size + 1))) { s with heap := h', toks := s.toks + 1 }) :
    wpAny (model prog w) A (pyNext (.ref e)) Q E s := by
  have hT : s.TypeIs (.ref e) "enumerate" := ⟨_, he, rfl⟩
  obtain ⟨hp, g, d, tk, os⟩ := s
  unfold pyNext
  refine wpAny_bind (wpAny_attempt (wpAny_callSpecial?_slot (name := Str.ofString "__next__") hT F.slot_enumerate_next (wpAny_call_entry F.slot_enumerate_next hT F.entry_enumerate_next ?_ (F.args_enumerate_next_1 _))))
  show wpAny _ _ (field (.ref e) 2 >>= _) _ _ _
  refine wpAny_bind (wpAny_field he rfl (x := .ref z) rfl (wpAny_bind (nx_zip hz (zn_item D hz ho hTI hTO h1 h2 hl1 hl2 hx hy fun g1 own' f' a' b' w1 zz tO it1 it2 tp sz kp => ?_))))
  replace kp : ∀ c o, c ≠ z → c ≠ TO → c ≠ i1 → c ≠ i2 → hp.get? c = some o → g1.get? c = some o := kp
  replace tp : IsPair g1 hp.objs.size x y := tp
  replace sz : g1.objs.size = hp.objs.size + 1 := sz
  have e1 : IsEnum g1 e z n old := kp _ _ out.1 out.2.2.1 out.2.2.2.1 out.2.2.2.2 he
  have tI : IsPair g1 TI (.ref i1) (.ref i2) := kp _ _ D.TIz D.TITO D.TIi1 D.TIi2 hTI
  have lte : e < hp.objs.size := Heap.lt_size he
  show wpAny _ _ (field (.ref e) 3 >>= _) _ _ ⟨g1, g, d, tk, os⟩
  refine wpAny_bind (wpAny_field e1 rfl (x := rawInt n) rfl ?_)
  show wpAny _ _ (field (.ref e) 4 >>= _) _ _ ⟨g1, g, d, tk, os⟩
  refine wpAny_bind (wpAny_field e1 rfl (x := .none) rfl ?_)
  show wpAny _ _ (mkInt n >>= _) _ _ ⟨g1, g, d, tk, os⟩
  refine wpAny_bind (wpAny_mkInt ?_)
  show wpAny _ _ (setField (.ref e) 3 (rawInt (n + 1)) >>= _) _ _ ⟨g1, g, d, tk + 1, os⟩
  refine wpAny_bind (wpAny_setField_rec e1 (by simp) fun g2 e2 b2 => ?_)
  replace b2 : Heap.SameBut e g1 g2 := b2
  replace e2 : IsEnum g2 e z (n + 1) old := e2
  show wpAny _ _ (setField (.ref e) 4 .none >>= _) _ _ ⟨g2, g, d, tk + 1, os⟩
  refine wpAny_bind (wpAny_setField_rec e2 (by simp) fun g3 e3 b3 => ?_)
  replace b3 : Heap.SameBut e g2 g3 := b3
  replace e3 : IsEnum g3 e z (n + 1) old := e3
  show wpAny _ _ (newTuple [.int n tk, .ref hp.objs.size] >>= _) _ _ ⟨g3, g, d, tk + 1, os⟩
  refine wpAny_bind (wpAny_newTuple ?_)
  have sz3 : g3.objs.size = hp.objs.size + 1 := by rw [b3.1, b2.1, sz]
  obtain ⟨g4, eg4⟩ : ∃ g4, g4 = g3.push { cls := .type "tuple", data := .seq #[.int n tk, .ref hp.objs.size] } := ⟨_, rfl⟩
  have e4 : IsEnum g4 e z (n + 1) old := by rw [eg4]; exact Heap.get?_push_of_some _ e3
  have t4 : IsPair g4 (hp.objs.size + 1) (.int n tk) (.ref hp.objs.size) := by rw [eg4, ← sz3]; exact Heap.get?_push_size _ rfl
  have k4 : ∀ c o, c ≠ e → g1.get? c = some o → g4.get? c = some o := fun c o c1 q => by rw [eg4]; exact Heap.get?_push_of_some _ (b3.extBut _ _ c1 (b2.extBut _ _ c1 q))
  show wpAny _ _ (Builtin.SmallTypes.ownedTupleIsFree (.ref e) >>= _) _ _ ⟨g3.push _, g, d, tk + 1, os⟩
  rw [← eg4, sz3]
  clear e3 b3 e2 b2 e1 eg4 sz3 sz
  refine wpAny_bind ?_
  unfold Builtin.SmallTypes.ownedTupleIsFree
  refine wpAny_bind (wpAny_field e4 rfl (x := .none) rfl (wpAny_pure ?_))
  simp only [if_true]
  refine wpAny_bind (wpAny_rule (wpAny_bind (wpAny_field e4 rfl (x := old) rfl (wpAny_bind (wpAny_setField_rec e4 (by simp) fun g5 e5 b5 => ?_)))))
  replace b5 : Heap.SameBut e g4 g5 := b5
  replace e5 : IsEnum g5 e z (n + 1) (.ref hp.objs.size) := e5
  show wpAny _ _ (Builtin.SmallTypes.ownedTupleHandOut (.ref e) (.ref (hp.objs.size + 1)) >>= _) _ _ ⟨g5, g, d, tk + 1, os⟩
  refine wpAny_bind ?_
  unfold Builtin.SmallTypes.ownedTupleHandOut
  refine wpAny_bind (wpAny_setField_rec e5 (by simp) fun g6 e6 b6 => ?_)
  replace b6 : Heap.SameBut e g5 g6 := b6
  replace e6 : IsEnumOut g6 e z (n + 1) (.ref hp.objs.size) (hp.objs.size + 1) := e6
  refine wpAny_setField_rec e6 (by simp) fun g7 e7 b7 => ?_
  replace b7 : Heap.SameBut e g6 g7 := b7
  replace e7 : IsEnumOut g7 e z (n + 1) (.ref hp.objs.size) (hp.objs.size + 1) := e7
  have k7 : ∀ c o, c ≠ e → g4.get? c = some o → g7.get? c = some o := fun c o c1 q => b7.extBut _ _ c1 (b6.extBut _ _ c1 (b5.extBut _ _ c1 q))
  have k17 : ∀ c o, c ≠ e → g1.get? c = some o → g7.get? c = some o := fun c o c1 q => k7 c o c1 (k4 c o c1 q)
  refine wpAny_bind (wpAny_letGo (wpAny_pure ⟨_, rfl, wpAny_pure ?_⟩))
  exact hQ g7 own' f' a' b' w1 e7 (k17 _ _ out.1.symm zz) (k17 _ _ out.2.1.symm tI) (k17 _ _ out.2.2.1.symm tO) (it1.at fun o q => k17 _ o out.2.2.2.1.symm q) (it2.at fun o q => k17 _ o out.2.2.2.2.symm q)
    (k17 _ _ (Nat.ne_of_gt lte) tp) (k7 _ _ (Nat.ne_of_gt (Nat.lt_succ_of_lt lte)) t4) fun c o c1 c2 c3 c4 c5 q => k17 c o c1 (kp c o c2 c3 c4 c5 q)
theorem ez_end {e z TI TO i1 i2 l1 l2 : Addr} {n : Int} {k1 k2 : Nat} {xs ys : Array Value} {a b own old : Value} {f : Bool} {Q : Option Value → Shared → Prop} (calm : A.handled = none) (D : ZipApart z TI TO i1 i2 l1 l2)
    (he : IsEnum s.heap e z n old) (hz : IsZ s.heap z TI TO own f) (ho : own = .none ∨ ∃ T : Addr, own = rawInt T)
    (hTI : IsPair s.heap TI (.ref i1) (.ref i2)) (hTO : IsPair s.heap TO a b) (h1 : s.heap.IsListIter i1 l1 k1) (h2 : s.heap.IsListIter i2 l2 k2) (hl1 : s.heap.IsList l1 xs) (hl2 : s.heap.IsList l2 ys) (ends : xs[k1]? = none ∨ ys[k2]? = none)
    (hQ : ∀ h', (∀ c o, c ≠ z → c ≠ TO → c ≠ i1 → c ≠ i2 → s.heap.get? c = some o → h'.get? c = some o) → Q none { s with heap := h' }) : wpAny (model prog w) A (pyNext (.ref e)) Q E s := by
  have hT : s.TypeIs (.ref e) "enumerate" := ⟨_, he, rfl⟩
  unfold pyNext
  refine wpAny_bind (wpAny_attempt (wpAny_callSpecial?_slot (name := Str.ofString "__next__") hT F.slot_enumerate_next (wpAny_call_entry F.slot_enumerate_next hT F.entry_enumerate_next ?_ (F.args_enumerate_next_1 _))))
  show wpAny _ _ (field (.ref e) 2 >>= _) _ _ _
  refine wpAny_bind (wpAny_field he rfl (x := .ref z) rfl (wpAny_bind (nx_zip_end hz (zn_end (by simp [calm]) D hz ho hTI hTO h1 h2 hl1 hl2 ends fun h' c k q => ?_))))
  obtain ⟨o, q1, q2⟩ := q
  exact wpAny_bind (wpAny_isInstance (T := "StopIteration") (b := true) ⟨o, q1, q2⟩ isSubtype_stop (wpAny_pure (hQ _ k)))
end
/-- enumerate(zip(a, b), start=k0): the lists as they stand at each turn -/
def Iez (K : PySem.W.Frag) (k0 : Int) (a b : Addr) : It :=
  ⟨fun i H => ∃ (xs ys : List V) (x y : V), SqL K H a xs ∧ SqL K H b ys ∧ xs[i]? = some x ∧ ys[i]? = some y,
    fun i H v H' => ∃ T U x y, v = .ref T ∧ H T = none ∧ H U = none ∧ T ≠ U ∧ H' = upd (upd H T (.tup [.int (k0 + (i : Nat)), .ref U])) U (.tup [x, y]) ∧ (∀ xs, SqL K H a xs → xs[i]? = some x) ∧ ∀ ys, SqL K H b ys → ys[i]? = some y,
    fun i H => ∃ xs ys : List V, SqL K H a xs ∧ SqL K H b ys ∧ (xs.length ≤ i ∨ ys.length ≤ i)⟩
theorem turn_ez {P : Program} {w : World} {K : PySem.W.Frag} {elts : List Expr} {kk : Nat} {tpos : Pos} {k0 : Int} {a b e z TI TO i1 i2 : Addr} (D : ZipApart z TI TO i1 i2 a b) (out : e ≠ z ∧ e ≠ TI ∧ e ≠ TO ∧ e ≠ i1 ∧ e ≠ i2) :
    Turn P w K (.Tuple elts kk tpos) (Iez K k0 a b) [e, z, TI, TO, i1, i2] e (fun i h => (∃ old, IsEnum h e z (k0 + (i : Nat)) old) ∧ (∃ own f, (own = .none ∨ ∃ T : Addr, own = rawInt T) ∧ IsZ h z TI TO own f) ∧ IsPair h TI (.ref i1) (.ref i2) ∧ (∃ x y, IsPair h TO x y) ∧ h.IsListIter i1 a i ∧ h.IsListIter i2 b i) where
  mem := by simp
  obj := fun i h st c hc => by
    obtain ⟨⟨old, he⟩, ⟨own, f, _, hz⟩, hTI, ⟨x, y, hTO⟩, ⟨o1, e1, _, d1⟩, ⟨o2, e2, _, d2⟩⟩ := st
    have e' : c = e ∨ c = z ∨ c = TI ∨ c = TO ∨ c = i1 ∨ c = i2 := by simpa using hc
    rcases e' with q | q | q | q | q | q <;> rw [q]
    · exact ⟨_, he, fun v q => nomatch q⟩
    · exact ⟨_, hz, fun v q => nomatch q⟩
    · exact ⟨_, hTI, fun v q => nomatch q⟩
    · exact ⟨_, hTO, fun v q => nomatch q⟩
    · exact ⟨o1, e1, fun v q => by rw [d1] at q; cases q⟩
    · exact ⟨o2, e2, fun v q => by rw [d2] at q; cases q⟩
  keep := fun i h h' st k => by
    obtain ⟨⟨old, he⟩, ⟨own, f, ho, hz⟩, hTI, ⟨x, y, hTO⟩, h1, h2⟩ := st
    exact ⟨⟨old, k e (by simp) _ he⟩, ⟨own, f, ho, k z (by simp) _ hz⟩, k TI (by simp) _ hTI, ⟨x, y, k TO (by simp) _ hTO⟩, h1.at fun o q => k i1 (by simp) o q, h2.at fun o q => k i2 (by simp) o q⟩
  item := by
    intro X hP hw hK hc i pins s σ H E I hf st hg
    subst hP hw hK
    obtain ⟨⟨old, he⟩, ⟨own, f, ho, hz⟩, hTI, ⟨x0, y0, hTO⟩, h1, h2⟩ := st
    obtain ⟨xs, ys, x, y, qx, qy, hx, hy⟩ := hg
    obtain ⟨its, rv, p, _⟩ := I.list qx
    obtain ⟨its2, rv2, p2, _⟩ := I.list qy
    obtain ⟨u, hu, ru⟩ := rv.get hx
    obtain ⟨u2, hu2, ru2⟩ := rv2.get hy
    refine ez_item D he out hz ho hTI hTO h1 h2 p.isList p2.isList (x := u) (y := u2) (by simpa using hu) (by simpa using hu2) fun g own' f' a' b' w1 en zz tI tO it1 it2 tp tt kp => ?_
    refine ⟨_, rfl, wpAny_letOwnedTupleGo_enum (s := { s with heap := g, toks := s.toks + 1 }) en fun g2 en2 sb => ?_⟩
    have lts : ∀ c ∈ [e, z, TI, TO, i1, i2], c < s.heap.objs.size := fun c hc => by
      have e' : c = e ∨ c = z ∨ c = TI ∨ c = TO ∨ c = i1 ∨ c = i2 := by simpa using hc
      rcases e' with q | q | q | q | q | q <;> rw [q]
      · exact Heap.lt_size he
      · exact Heap.lt_size hz
      · exact Heap.lt_size hTI
      · exact Heap.lt_size hTO
      · obtain ⟨_, e1, _⟩ := h1
        exact Heap.lt_size e1
      · obtain ⟨_, e2, _⟩ := h2
        exact Heap.lt_size e2
    have lte := lts e (by simp)
    have up : ∀ c o, c ≠ e → g.get? c = some o → g2.get? c = some o := fun c o c1 q => (sb.2 c c1).trans q
    have tp2 := up _ _ (Nat.ne_of_gt lte) tp
    have tt2 := up _ _ (Nat.ne_of_gt (Nat.lt_succ_of_lt lte)) tt
    obtain ⟨U, eU⟩ : ∃ U, s.heap.objs.size = U := ⟨_, rfl⟩
    rw [eU] at tp2 tt2 lts lte en2
    have hU : H U = none := I.hok.fresh (Nat.le_of_eq eU)
    have hT : H (U + 1) = none := I.hok.fresh (by rw [eU]; exact Nat.le_succ _)
    have nTU : U + 1 ≠ U := Nat.succ_ne_self U
    obtain ⟨G, r1, r2⟩ := restrict g2 fun c => decide (c ≠ U)
    have gU : G.get? U = none := r2 _ (by simp)
    have gk : ∀ c o, c ≠ U → g2.get? c = some o → G.get? c = some o := fun c o n q => (r1 c (decide_eq_true n)).trans q
    have gb : ∀ c o, G.get? c = some o → g2.get? c = some o := fun c o q => by
      by_cases n : c = U
      · rw [n, gU] at q
        cases q
      · exact (r1 c (decide_eq_true n)).symm.trans q
    have n1 : ObjOk X.prog X.w (upd H (U + 1) (.tup [.int (k0 + (i : Nat)), .ref U])) G (U + 1) (.tup [.int (k0 + (i : Nat)), .ref U]) :=
      ⟨by show 2 ≤ sizeLine; decide, [.int (k0 + (i : Nat)) s.toks, .ref U], .cons ⟨_, rfl⟩ (.cons rfl .nil), ⟨_, gk _ _ nTU tt2, rfl, _, rfl⟩⟩
    have I1 : Inv X pins σ (upd H (U + 1) (.tup [.int (k0 + (i : Nat)), .ref U])) { s with heap := G, toks := s.toks + 1 } :=
      I.turnedNew (ch := [e, z, TI, TO, i1, i2]) (fun c o hb q => gk c o (by rw [← eU]; exact Nat.ne_of_lt (Heap.lt_size q)) (up c o (fun q' => hb (by simp [q'])) (kp c o (fun q' => hb (by simp [q'])) (fun q' => hb (by simp [q'])) (fun q' => hb (by simp [q'])) (fun q' => hb (by simp [q'])) (fun q' => hb (by simp [q'])) q))) hf (by rw [eU]; exact Nat.le_succ _) n1
    have hU2 : (upd H (U + 1) (.tup [.int (k0 + (i : Nat)), .ref U])) U = none := by rw [upd_ne nTU.symm]; exact hU
    have n2 : ObjOk X.prog X.w (upd (upd H (U + 1) (.tup [.int (k0 + (i : Nat)), .ref U])) U (.tup [x, y])) g2 U (.tup [x, y]) :=
      ⟨by show 2 ≤ sizeLine; decide, [u, u2], .cons ru (.cons ru2 .nil), ⟨_, tp2, rfl, _, rfl⟩⟩
    have I2 : Inv X pins σ (upd (upd H (U + 1) (.tup [.int (k0 + (i : Nat)), .ref U])) U (.tup [x, y])) { s with heap := g2, toks := s.toks + 1 } :=
      Inv.laidN (s := { s with heap := G, toks := s.toks + 1 }) (t' := s.toks + 1) I1 gb gU hU2 n2
    refine ⟨.ref (U + 1), _, I2, (by rw [eU]; rfl), ⟨U + 1, U, x, y, rfl, hT, hU, nTU, rfl, fun l hl => by rw [I.list_inj hl qx]; exact hx, fun l hl => by rw [I.list_inj hl qy]; exact hy⟩, ⟨⟨.ref U, ?_⟩, ⟨own', f', .inr w1, up _ _ out.1.symm zz⟩, up _ _ out.2.1.symm tI, ⟨a', b', up _ _ out.2.2.1.symm tO⟩, it1.at fun o q => up _ o out.2.2.2.1.symm q, it2.at fun o q => up _ o out.2.2.2.2.symm q⟩, fun c hcm => ?_⟩
    · have e1 : k0 + ((i + 1 : Nat) : Int) = k0 + (i : Nat) + 1 := by omega
      rw [e1]
      exact en2
    · have lt := lts c hcm
      rw [upd_ne (Nat.ne_of_lt lt), upd_ne (Nat.ne_of_lt (Nat.lt_succ_of_lt lt))]
      exact (hf c hcm).1
  done := by
    intro X hP hw hK hc i pins s σ H E I hf st hg
    subst hP hw hK
    obtain ⟨⟨old, he⟩, ⟨own, f, ho, hz⟩, hTI, ⟨x0, y0, hTO⟩, h1, h2⟩ := st
    obtain ⟨xs, ys, qx, qy, ends⟩ := hg
    obtain ⟨its, rv, p, _⟩ := I.list qx
    obtain ⟨its2, rv2, p2, _⟩ := I.list qy
    have l1 := rv.length
    have l2 := rv2.length
    have he' : its.toArray[i]? = none ∨ its2.toArray[i]? = none := ends.imp (fun q => by simp; omega) (fun q => by simp; omega)
    exact ez_end (I.ok.hd hc) D he hz ho hTI hTO h1 h2 p.isList p2.isList he' fun h' hk => ⟨rfl, I.turnedL (t' := s.toks) (ch := [e, z, TI, TO, i1, i2]) (fun c o hb q =>
      hk c o (fun q' => hb (by simp [q'])) (fun q' => hb (by simp [q'])) (fun q' => hb (by simp [q'])) (fun q' => hb (by simp [q'])) q) hf⟩
  self := fun A i s Q E st h => let ⟨⟨_, he⟩, _⟩ := st; wpAny_pyIter_enum he h
section
variable {M : Model} {A : Around} {E : Value → Shared → Prop} {s : Shared} {env : Env}
theorem cw_kw0 {pos : Pos} {T : String} {args : List (Bool × Sem Value)} {keywords : List (Option Str × Sem Value)} {Q : Value → Shared → Prop} (hplain : args.any (·.1) = false) (hkw : keywords.any (·.1.isNone) = false)
    (h : wpAny M A (evalArgs (.type T) true args keywords) (fun a s₁ => wpAny M A (call (.type T) a.pos a.kw) Q E s₁) E s) : wpAny M A (callWith pos (.type T) [] args keywords) Q E s := by
  unfold callWith ; refine wpAny_bind (wpAny_holding (wpAny_mono h (fun a s₁ h₁ => wpAny_bind (wpAny_standAt ?_)) fun _ _ x => x))
  simp only [hplain, hkw, Bool.or_false] ; refine wpAny_bind (wpAny_pure ?_)
  exact wpAny_bind (wpAny_mono h₁ (fun r s₂ hr => wpAny_bind (wpAny_holding (wpAny_point (wpAny_pure hr)))) fun _ _ q => q)
theorem cw_kw {pos : Pos} {T : String} {e : Expr} {rest : List Expr} {kws : List Keyword} {Q : Value → Shared → Prop}
    (h : wpAny M A (spliced (backTo pos (starEach (e :: rest) env))) (fun vs s₁ => wpAny M A (evalAll ((backToKw pos (keywordEach kws env)).map (·.2))) (fun ks s₂ => wpAny M A (call (.type T) vs (((backToKw pos (keywordEach kws env)).filterMap (·.1)).zip ks)) Q E s₂) E s₁) E s)
    (he : backTo pos (starEach (e :: rest) env) = (false, eval e env) :: backTo pos (starEach rest env) := by rfl) (hplain : (backTo pos (starEach (e :: rest) env)).any (·.1) = false := by rfl)
    (hall : (backToKw pos (keywordEach kws env)).all (·.1.isSome) = true := by rfl) (hkw : (backToKw pos (keywordEach kws env)).any (·.1.isNone) = false := by rfl) :
    wpAny M A (callWith pos (.type T) [] (backTo pos (starEach (e :: rest) env)) (backToKw pos (keywordEach kws env))) Q E s := by
  refine cw_kw0 hplain hkw ?_
  rw [he] at h ⊢
  exact evalArgs_kwB hall h
end
theorem meets_ez {z TI TO : Addr} (k : Int) (t : Tok) (hfit : Builtin.SmallTypes.fitsIndex k = true) :
    Meets (Builtin.«enumerate.__new__» ⟨[.type "enumerate", .ref z], [(Str.ofString "start", .int k t)]⟩) (fun _ R s => IsZip s.heap z TI TO .none ∧
      R (.ok (.ret (.ref s.heap.objs.size))) { s with heap := s.heap.push { cls := .type "enumerate", data := .fields #[.none, .bool false, .ref z, rawInt k, .none, .none] } }) :=
  .of_wp fun prog w A R s h => by
    obtain ⟨hp, g, d, tk, os⟩ := s
    obtain ⟨h1, h⟩ := h
    have c1 := sub_enumerate ; have c2 : (!Builtin.SmallTypes.fitsIndex k) = false := by rw [hfit]; rfl
    have q1 : ∀ {A' : Around} {E' : Value → Shared → Prop} {Q' : Value → Shared → Prop}, Q' (.ref z) ⟨hp, g, d, tk, os⟩ → wpAny (model prog w) A' (pyIter (.ref z)) Q' E' ⟨hp, g, d, tk, os⟩ := fun q => wpAny_pyIter_zip h1 q
    have d1 : (Str.ofString "start" == ("start" : Str)) = true := by decide +kernel
    have d2 : (Str.ofString "start" != ("start" : Str)) = false := by decide +kernel
    have d3 : (Str.ofString "start" != ("iterable" : Str)) = true := by decide +kernel
    have d4 : (("start" : Str) == Str.ofString "start") = true := by decide +kernel
    have d5 : (("iterable" : Str) == Str.ofString "start") = false := by decide +kernel
    wp_walk using q1
    refine wpAny_stack_any fun st => wpAny_pure ?_
    split
    · rename_i c _ _ _ _ _
      cases (c == Value.type "enumerate") <;> (wp_walk using q1 ; exact ⟨_, rfl, h⟩)
    · wp_walk using q1 ; exact ⟨_, rfl, h⟩
section
variable {prog : Program} {w : World} {A : Around} {E : Value → Shared → Prop} {s : Shared}
theorem call_ez {z TI TO : Addr} {k : Int} {t : Tok} {Q : Value → Shared → Prop} (hz : IsZip s.heap z TI TO .none) (k1 : -(2 ^ 63) ≤ k) (k2 : k < 2 ^ 63)
    (h : ∀ h', IsEnum h' s.heap.objs.size z k .none → (∀ b o, s.heap.get? b = some o → h'.get? b = some o) → Q (.ref s.heap.objs.size) { s with heap := h' }) :
    wpAny (model prog w) A (call (.type "enumerate") [.ref z] [(Str.ofString "start", .int k t)]) Q E s := by
  refine callType_newKw F.called_enumerate (by decide) (F.typeCall_enumerate_start _ _) (F.newCall_enumerate_start _ _) (fun obj => F.args_object_init_start obj _ _) F.entry_enumerate_new (meets_ez k t (fits_start k1 k2)) ⟨hz, ?_⟩
  have en : IsEnum (s.heap.push { cls := .type "enumerate", data := .fields #[.none, .bool false, .ref z, rawInt k, .none, .none] }) s.heap.objs.size z k .none := Heap.get?_push_size s.heap rfl
  exact ⟨⟨_, en, rfl⟩, h _ en fun b o q => Heap.get?_push_of_some _ q⟩
end
def iEz (K : PySem.W.Frag) (k0 : Int) (ta : TA) : TI := fun σ H R => ta σ H fun vs H1 => ∃ a b xs ys, vs = [.ref a, .ref b] ∧ SqL K H1 a xs ∧ SqL K H1 b ys ∧ R (Iez K k0 a b) H1
/-- for i, (x, y) in enumerate(zip(a, b), start=k) -/
theorem pi_ez {X : Cx} {e e2 : Expr} {ta : TA} {p p2 pos pos2 kpos tpos cpos : Pos} {elts : List Expr} {kk j : Nat} {k0 : Int} (hg : Gl X "enumerate") (hm : X.mg "enumerate" = none) (hg2 : Gl X "zip") (hm2 : X.mg "zip" = none) (ha : PA X [e, e2] ta) (k1 : -(2 ^ 63) ≤ k0) (k2 : k0 < 2 ^ 63)
    (hs : starEach [e, e2] X.env = (false, eval e X.env) :: starEach [e2] X.env := by rfl) (hpl : (backTo pos2 (starEach [e2] X.env)).any (·.1) = false := by rfl) :
    PI X (.Tuple elts kk tpos) (.Call (.Name "enumerate" p) [.Call (.Name "zip" p2) [e, e2] [] pos2] [⟨some "start", .Constant (.int k0) j cpos, kpos⟩] pos) (iEz X.K k0 ta) := by
  refine ⟨fun pins s σ H R I h => ?_⟩
  refine wpAny_Call_Name_kw (ld_blt I hg hm boot_enumerate (cw_kw (args_cons ?_)))
  refine Call_ (ld_blt I hg2 hm2 PyProof.Rows.boot_zip (PyProof.Rows.callWith_type1 (thn (ha.run pos2 pins s σ H _ I h) fun us s1 ⟨vs, H1, I1, r1, q1⟩ => ?_) hs hpl))
  obtain ⟨a, b, xs, ys, ex, qx, qy, q⟩ := q1
  subst ex
  obtain ⟨u1, u2, eus, rA, rB⟩ := Vals.two r1
  subst eus
  cases rA
  cases rB
  obtain ⟨its, rv, p1, _⟩ := I1.list qx
  obtain ⟨its2, rv2, p2', _⟩ := I1.list qy
  have la : a < s1.heap.objs.size := p1.lt
  have lb : b < s1.heap.objs.size := p2'.lt
  refine call_zip_2 p1.isList p2'.isList fun h' hz hTI hTO h1 h2 hsz hk => args_nil (PyProof.Rows.kwAll_cons (wpAny_Constant_int (PyProof.Rows.kwAll_nil ?_)))
  refine call_ez hz k1 k2 fun g en k3 => wpAny_pyIter_enum en ?_
  have D := PySem.W.ktu_apart s1.heap.objs.size a b la lb
  have I2 : Inv X pins σ H1 { s1 with heap := g, toks := s1.toks + 1 } := I1.kept (t' := s1.toks + 1) fun c o q => k3 _ _ (hk c o q)
  have ee : h'.objs.size = s1.heap.objs.size + 5 := hsz
  have ne : ∀ m, m < 5 → h'.objs.size ≠ s1.heap.objs.size + m := fun m hm z => by
    rw [ee] at z
    exact absurd (Nat.add_left_cancel z) (Nat.ne_of_gt hm)
  have up : ∀ c o, h'.get? c = some o → g.get? c = some o := fun c o q => k3 _ _ q
  refine ⟨h'.objs.size, [h'.objs.size, s1.heap.objs.size + 4, s1.heap.objs.size + 2, s1.heap.objs.size + 3, s1.heap.objs.size, s1.heap.objs.size + 1], _, _, H1, rfl, I2, turn_ez (k0 := k0) D ⟨ne 4 (by decide), ne 2 (by decide), ne 3 (by decide), ne 0 (by decide), ne 1 (by decide)⟩,
    ⟨⟨.none, ?_⟩, ⟨.none, false, .inl rfl, up _ _ hz⟩, up _ _ hTI, ⟨_, _, up _ _ hTO⟩, h1.at fun o q => up _ o q, h2.at fun o q => up _ o q⟩, fun c hcm => ?_, q⟩
  · have e0 : k0 + ((0 : Nat) : Int) = k0 := Int.add_zero k0
    rw [e0]
    exact en
  · have hle : s1.heap.objs.size ≤ c := by
      have e' : c = h'.objs.size ∨ c = s1.heap.objs.size + 4 ∨ c = s1.heap.objs.size + 2 ∨ c = s1.heap.objs.size + 3 ∨ c = s1.heap.objs.size ∨ c = s1.heap.objs.size + 1 := by simpa using hcm
      rcases e' with z | z | z | z | z | z <;> rw [z]
      · rw [ee]
        exact Nat.le_add_right _ _
      · exact Nat.le_add_right _ _
      · exact Nat.le_add_right _ _
      · exact Nat.le_add_right _ _
      · exact Nat.le_refl _
      · exact Nat.le_add_right _ _
    exact I1.fpOk hle (I1.hok.fresh hle)
theorem walk_ez {K : PySem.W.Frag} {k0 : Int} {a b : Addr} {xs ys : List V} : Walk (Iez K k0 a b) (min xs.length ys.length) (fun H => SqL K H a xs ∧ SqL K H b ys)
    (fun i H v H' => ∃ T U x y, v = .ref T ∧ H T = none ∧ H U = none ∧ T ≠ U ∧ H' = upd (upd H T (.tup [.int (k0 + (i : Nat)), .ref U])) U (.tup [x, y]) ∧ xs[i]? = some x ∧ ys[i]? = some y) := by
  refine ⟨fun i _ hi q => ⟨xs, ys, xs[i]'(by omega), ys[i]'(by omega), q.1, q.2, by simp, by simp⟩, fun _ q => ⟨xs, ys, q.1, q.2, by omega⟩, fun i H v H' _ q y => ?_⟩
  obtain ⟨T, U, x, z, h1, h2, h3, h4, h5, h6, h7⟩ := y
  exact ⟨T, U, x, z, h1, h2, h3, h4, h5, h6 xs q.1, h7 ys q.2⟩
end DL

set_option Elab.async false
set_option maxRecDepth 100000
set_option maxHeartbeats 1000000
namespace DL
open PySem PySem.Spec PyProof.Rows L2
theorem es_end {prog : Program} {w : World} {A : Around} {E : Value → Shared → Prop} {s : Shared} {e it l : Addr} {n : Int} {i : Nat} {items : Array Value} {old : Value} {Q : Option Value → Shared → Prop} (calm : A.handled = none)
    (he : IsEnum s.heap e it n old) (hit : s.heap.IsListIter it l i) (hl : s.heap.IsList l items) (hx : items[i]? = none) (hQ : ∀ h', Heap.ExtBut it s.heap h' → Q none { s with heap := h' }) : wpAny (model prog w) A (pyNext (.ref e)) Q E s := by
  have hT : s.TypeIs (.ref e) "enumerate" := ⟨_, he, rfl⟩
  unfold pyNext
  refine wpAny_bind (wpAny_attempt (wpAny_callSpecial?_slot (name := Str.ofString "__next__") hT F.slot_enumerate_next (wpAny_call_entry F.slot_enumerate_next hT F.entry_enumerate_next ?_ (F.args_enumerate_next_1 _))))
  show wpAny _ _ (field (.ref e) 2 >>= _) _ _ _
  refine wpAny_bind (wpAny_field he rfl (x := .ref it) rfl (wpAny_bind (wpAny_nextOf_list_end (by simp [calm]) hit hl hx fun h' c k q => ?_)))
  obtain ⟨o, q1, q2⟩ := q
  exact wpAny_bind (wpAny_isInstance (T := "StopIteration") (b := true) ⟨o, q1, q2⟩ isSubtype_stop (wpAny_pure (hQ _ k)))
/-! ### for i, x in enumerate(xs, start=k0), xs a list -/
def Ies (K : PySem.W.Frag) (k0 : Int) (a : Addr) : It :=
  ⟨fun i H => ∃ (xs : List V) (x : V), SqL K H a xs ∧ xs[i]? = some x, fun i H v H' => ∃ T x, v = .ref T ∧ H T = none ∧ H' = upd H T (.tup [.int (k0 + (i : Nat)), x]) ∧ ∀ xs, SqL K H a xs → xs[i]? = some x, fun i H => ∃ xs : List V, SqL K H a xs ∧ xs.length ≤ i⟩
theorem turn_es {P : Program} {w : World} {K : PySem.W.Frag} {elts : List Expr} {kk : Nat} {tpos : Pos} {k0 : Int} {a e it : Addr} (n1 : e ≠ it) (n2 : a ≠ it) (n3 : e ≠ a) :
    Turn P w K (.Tuple elts kk tpos) (Ies K k0 a) [e, it] e (fun i h => (∃ old, IsEnum h e it (k0 + (i : Nat)) old) ∧ h.IsListIter it a i) where
  mem := by simp
  obj := fun i h st b hb => by
    obtain ⟨⟨old, he⟩, ⟨o, ho, _, hd⟩⟩ := st
    have e' : b = e ∨ b = it := by simpa using hb
    rcases e' with z | z <;> rw [z]
    · exact ⟨_, he, fun v q => nomatch q⟩
    · exact ⟨o, ho, fun v q => by rw [hd] at q; cases q⟩
  keep := fun i h h' st k => ⟨st.1.elim fun old he => ⟨old, k e (by simp) _ he⟩, st.2.at fun o q => k it (by simp) o q⟩
  item := by
    intro X hP hw hK hc i pins s σ H E I hf st hg
    subst hP hw hK
    obtain ⟨⟨old, he⟩, hit⟩ := st
    obtain ⟨xs, x, hq, hx⟩ := hg
    obtain ⟨its, rv, p, hz⟩ := I.list hq
    obtain ⟨u, hu, ru⟩ := rv.get hx
    have lte : e < s.heap.objs.size := Heap.lt_size he
    have lti : it < s.heap.objs.size := by obtain ⟨_, q, _⟩ := hit; exact Heap.lt_size q
    have hu2 : its.toArray[i]? = some u := by simpa using hu
    have lt : i < its.toArray.size := (Array.getElem?_eq_some_iff.mp hu2).1
    have calm : X.A.in1.in1.handled = none := by simp [I.ok.hd hc]
    refine wpAny_pyNext_enum_itemC (Draws.list (by simp [I.ok.hd hc]) it a n2 its.toArray) he ⟨hit, p.isList⟩ lt n1 (by simp [n1, n3]) fun y g tk px en st2 hT hsz hk => ?_
    obtain rfl : u = y := by
      have px : its.toArray[i]? = some y := px
      rw [hu2] at px
      exact Option.some.inj px
    refine ⟨_, rfl, wpAny_letOwnedTupleGo_enum (s := { s with heap := g, toks := tk + 1 }) en fun g2 en2 sb => ?_⟩
    have up : ∀ c o, c ≠ e → g.get? c = some o → g2.get? c = some o := fun c o c1 q => (sb.2 c c1).trans q
    have hT2 := up _ _ (Nat.ne_of_gt lte) hT
    have new : ObjOk X.prog X.w (upd H s.heap.objs.size (.tup [.int (k0 + (i : Nat)), x])) g2 s.heap.objs.size (.tup [.int (k0 + (i : Nat)), x]) :=
      ⟨by show 2 ≤ sizeLine; decide, [.int (k0 + (i : Nat)) tk, u], .cons ⟨_, rfl⟩ (.cons ru .nil), ⟨_, hT2, rfl, _, rfl⟩⟩
    have I1 : Inv X pins σ (upd H s.heap.objs.size (.tup [.int (k0 + (i : Nat)), x])) { s with heap := g2, toks := tk + 1 } :=
      I.turnedNew (ch := [e, it]) (fun b ob hb q => up b ob (fun z => hb (by simp [z])) (hk b ob (fun z => hb (by simp [z])) (fun z => hb (by simp [z])) q)) hf (Nat.le_refl _) new
    refine ⟨.ref s.heap.objs.size, _, I1, rfl, ⟨_, x, rfl, I.hok.fresh (Nat.le_refl _), rfl, fun ys hy => by rw [I.list_inj hy hq]; exact hx⟩, ⟨⟨u, ?_⟩, st2.1.at fun o q => up it o n1.symm q⟩, fun b hb => ?_⟩
    · have e1 : k0 + ((i + 1 : Nat) : Int) = k0 + (i : Nat) + 1 := by omega
      rw [e1]
      exact en2
    · have hb' : b < s.heap.objs.size := by
        have e' : b = e ∨ b = it := by simpa using hb
        rcases e' with z | z <;> rw [z]
        · exact lte
        · exact lti
      rw [upd_ne (Nat.ne_of_lt hb')]
      exact (hf b hb).1
  done := by
    intro X hP hw hK hc i pins s σ H E I hf st hg
    subst hP hw hK
    obtain ⟨⟨old, he⟩, hit⟩ := st
    obtain ⟨xs, hq, hx⟩ := hg
    obtain ⟨its, rv, p, hz⟩ := I.list hq
    obtain ⟨f0, f1, f2, f3, f4, f5⟩ := hf it (by simp)
    have hl := rv.length
    exact es_end (I.ok.hd hc) he hit p.isList (by simp; omega) fun h' eb => ⟨rfl, I.turned (t' := s.toks) (fun b o hb q => eb b o hb q) f0 f1 f3 f4 f5⟩
  self := fun A i s Q E st h => let ⟨⟨_, he⟩, _⟩ := st; wpAny_pyIter_enum he h
def iEs (K : PySem.W.Frag) (k0 : Int) (te : TE) : TI := fun σ H R => te σ H fun x H1 => ∃ a xs, x = .ref a ∧ SqL K H1 a xs ∧ R (Ies K k0 a) H1
theorem pi_es {X : Cx} {e : Expr} {te : TE} {p pos kpos tpos cpos : Pos} {elts : List Expr} {kk j : Nat} {k0 : Int} (hg : Gl X "enumerate") (hm : X.mg "enumerate" = none) (ha : PE X e te) (k1 : -(2 ^ 63) ≤ k0) (k2 : k0 < 2 ^ 63)
    (hs : starEach [e] X.env = (false, eval e X.env) :: starEach [] X.env := by rfl) (he : backTo pos (starEach [e] X.env) = (false, eval e X.env) :: backTo pos (starEach [] X.env) := by rfl) :
    PI X (.Tuple elts kk tpos) (.Call (.Name "enumerate" p) [e] [⟨some "start", .Constant (.int k0) j cpos, kpos⟩] pos) (iEs X.K k0 te) := by
  refine ⟨fun pins s σ H R I h => ?_⟩
  have hpl : (backTo pos (starEach [e] X.env)).any (·.1) = false := by rw [he]; rfl
  refine wpAny_Call_Name_kw (ld_blt I hg hm boot_enumerate (cw_kw (args_cons (thn (ha.run pins s σ H _ I h) fun u s1 ⟨x, H1, I1, rx, q1⟩ => ?_) hs) he hpl))
  obtain ⟨a, xs, ex, qx, q⟩ := q1
  subst ex
  obtain rfl : u = .ref a := rx
  obtain ⟨its, rv, p1, _⟩ := I1.list qx
  have la : a < s1.heap.objs.size := p1.lt
  refine args_nil (PyProof.Rows.kwAll_cons (wpAny_Constant_int (PyProof.Rows.kwAll_nil ?_)))
  refine enum_begins_start (begins_list a its.toArray) (show s1.heap.IsList a its.toArray from p1.isList) k1 k2 fun g en hit hsz k3 => wpAny_pyIter_enum en ?_
  have I2 : Inv X pins σ H1 { s1 with heap := g, toks := s1.toks + 1 } := I1.kept (t' := s1.toks + 1) fun c o q => k3 _ _ q
  refine ⟨s1.heap.objs.size + 1, [s1.heap.objs.size + 1, s1.heap.objs.size], _, _, H1, rfl, I2, turn_es (k0 := k0) (Nat.succ_ne_self _) (Nat.ne_of_lt la) (Nat.ne_of_gt (Nat.lt_succ_of_lt la)), ⟨⟨.none, ?_⟩, ⟨_, hit, rfl, rfl⟩⟩, fun c hcm => ?_, q⟩
  · have e0 : k0 + ((0 : Nat) : Int) = k0 := Int.add_zero k0
    rw [e0]
    exact en
  · have hle : s1.heap.objs.size ≤ c := by
      have e' : c = s1.heap.objs.size + 1 ∨ c = s1.heap.objs.size := by simpa using hcm
      rcases e' with z | z <;> rw [z]
      · exact Nat.le_add_right _ _
      · exact Nat.le_refl _
    exact I1.fpOk hle (I1.hok.fresh hle)
theorem walk_es {K : PySem.W.Frag} {k0 : Int} {a : Addr} {xs : List V} : Walk (Ies K k0 a) xs.length (fun H => SqL K H a xs) (YPair (fun i => some (.int (k0 + (i : Nat)))) (fun i => xs[i]?)) := by
  refine ⟨fun i _ hi q => ⟨xs, xs[i], q, by simp [hi]⟩, fun _ q => ⟨xs, q, Nat.le_refl _⟩, fun i H v H' _ q y => ?_⟩
  obtain ⟨T, x, h1, h2, h3, h4⟩ := y
  exact ⟨T, .int (k0 + (i : Nat)), x, h1, h2, h3, rfl, h4 xs q⟩
end DL

set_option Elab.async false
set_option maxRecDepth 100000
namespace DL
open PySem L2
def top (i : Nat) : Stmt := PySem.Challenge.pw_drawerlocks_k24_texts_there_and_back.main.body.getD i (.Pass ⟨0, 0, 0, 0⟩)
abbrev sIsInt : Stmt := top 9
abbrev sIsCount : Stmt := top 10
abbrev sIsDrawer : Stmt := top 11
abbrev sIsBar : Stmt := top 12
abbrev sInit : Stmt := inClass (top 14) 0
abbrev sDrawers : Stmt := inClass (top 14) 1
abbrev sBars : Stmt := inClass (top 14) 2
abbrev sEq : Stmt := inClass (top 14) 3
abbrev sCheckDrawers : Stmt := top 15
abbrev sCheckBars : Stmt := top 16
abbrev s_check_cabinet : Stmt := top 17
abbrev s_write : Stmt := top 19
abbrev s_read : Stmt := top 20
abbrev s_words_of : Stmt := top 21
abbrev s_read_drawers : Stmt := top 22
abbrev s_read_bar : Stmt := top 23
abbrev s_check_words : Stmt := top 24
abbrev sTaken : Stmt := top 26
abbrev sParts : Stmt := top 27
abbrev sMade : Stmt := top 28
abbrev s__law_text : Stmt := top 29
abbrev s__law_wide : Stmt := top 30
abbrev s_law : Stmt := top 31
end DL

set_option Elab.async false
set_option maxRecDepth 100000
namespace DL
open PySem L2
/-! ### the facts of the top -/
structure Bt (mg : Str → Option Value) : Prop where
  isinstance : mg "isinstance" = none
  int : mg "int" = none
  bool : mg "bool" = none
  tuple : mg "tuple" = none
  len : mg "len" = none
  enumerate : mg "enumerate" = none
  range : mg "range" = none
  sorted : mg "sorted" = none
/-! ### is_integer -/
structure spIsInt (K : PySem.W.Frag) (vs : List V) (H : Hp) (Q : VK) (_ : XK) : Prop where
  h : ∃ (v : V) (t : Value) (b1 b2 : Bool), vs = [v] ∧ TyX K H v t ∧ PySem.W.kitOne K t (.type "int") = some b1 ∧ PySem.W.kitOne K t (.type "bool") = some b2 ∧ Q (.bl (b1 && !b2)) H
section
variable {P : Program} {w : World} {K : PySem.W.Frag} {mg : Str → Option Value} {base : Heap}
theorem scIsInt : FnScope ["value"] ["value"] (defScope sIsInt) := ⟨rfl, rfl, rfl, by decide +kernel, rfl, by decide +kernel, by decide +kernel⟩
theorem ok_isInt {f : Addr} {fd : FuncData} (F : Fun K "is_integer" "is_integer" sIsInt f fd) (T : Bt mg) : FnOk P w K mg base CX0 1 f fd ["value"] (spIsInt K) := by
  refine F.ok scIsInt (fun vs H Q E h => ?_) (fun cdv A outer s H vs Q E hr h => ?_)
  · obtain ⟨v, t, b1, b2, rfl, _⟩ := h.h
    rfl
  · obtain ⟨v, t, b1, b2, rfl, ty, k1, k2, k⟩ := h.h
    refine ⟨_, pss_one (ps_ret (pe_and (pe_callB call_isi (by rfl) T.isinstance (by decide +kernel) (pa_cons (pv 0) (pa_cons (pe_bltn (v := .ty "int") (by rfl) T.int (by decide +kernel) rfl) pa_nil)))
      (pe_one (pe_not (pe_callB call_isi (by rfl) T.isinstance (by decide +kernel) (pa_cons (pv 0) (pa_cons (pe_bltn (v := .ty "bool") (by rfl) T.bool (by decide +kernel) rfl) pa_nil))))))), ?_⟩
    refine ⟨_, rfl, _, _, t, _, b1, rfl, .ty "int", ty, k1, b1, rfl, ?_⟩
    cases b1 with
    | false => exact iteF k
    | true => exact iteT ⟨_, rfl, _, _, t, _, b2, rfl, .ty "bool", ty, k2, b2, rfl, k⟩
/-! ### is_drawer_count(value), is_drawer(drawers, value) -/
/-- an int as value: whether it is one; any other known thing: False -/
structure spIsCount (K : PySem.W.Frag) (vs : List V) (H : Hp) (Q : VK) (_ : XK) : Prop where
  h : (∃ n : Int, vs = [.int n] ∧ Q (.bl (decide (1 ≤ n) && decide (n ≤ 7))) H) ∨
  ∃ (v : V) (t : Value) (b1 b2 : Bool), vs = [v] ∧ TyX K H v t ∧ PySem.W.kitOne K t (.type "int") = some b1 ∧ PySem.W.kitOne K t (.type "bool") = some b2 ∧ (b1 && !b2) = false ∧ Q (.bl false) H
theorem scIsCount : FnScope ["value"] ["value"] (defScope sIsCount) := ⟨rfl, rfl, rfl, by decide +kernel, rfl, by decide +kernel, by decide +kernel⟩
theorem ok_isCount {f f1 : Addr} {fd fd1 : FuncData} (F : Fun K "is_drawer_count" "is_drawer_count" sIsCount f fd) (_T : Bt mg) (G : FnOk P w K mg base CX0 1 f1 fd1 ["value"] (spIsInt K)) (g1 : mg "is_integer" = some (.ref f1)) (k1 : PySem.W.keepIn K (.ref f1) = true) (b1 : Binds K fd1 ["value"] [])
    (gM : ∃ t, mg "MOST_DRAWERS" = some (.int 7 t)) : FnOk P w K mg base CX0 2 f fd ["value"] (spIsCount K) := by
  refine F.ok scIsCount (fun vs H Q E h => ?_) (fun cdv A outer s H vs Q E hr h => ?_)
  · rcases h.h with ⟨n, rfl, _⟩ | ⟨v, t, b1, b2, rfl, _⟩ <;> rfl
  · obtain ⟨tM, gM⟩ := gM
    refine ⟨_, pss_one (ps_ret (pe_and (pe_call G (hr.mono (by decide)) rfl g1 k1 b1 .nil pass0 (pa_cons (pv 0) pa_nil)) (pe_one (pe_chain op_le op_le pe_int (pv 0) (pe_glob (v := .int 7) rfl gM ⟨_, rfl⟩))))), ?_⟩
    rcases h.h with ⟨n, rfl, k⟩ | ⟨v, t, c1, c2, rfl, ty, e1, e2, e3, k⟩
    · refine ⟨_, rfl, ⟨.int n, .type "int", true, false, rfl, .base (.int n), kit_ty (by decide +kernel), kit_ty (by decide +kernel), true, rfl, iteT ?_⟩⟩
      refine ⟨_, rfl, _, _, rfl, rfl, _, rfl, ?_⟩
      by_cases h1 : 1 ≤ n
      · rw [decide_eq_true h1] at k ⊢
        exact iteT ⟨_, _, rfl, rfl, k⟩
      · rw [decide_eq_false h1] at k ⊢
        exact iteF k
    · refine ⟨_, rfl, ⟨v, t, c1, c2, rfl, ty, e1, e2, _, rfl, ?_⟩⟩
      rw [e3]
      exact iteF k
structure spIsDrawer (K : PySem.W.Frag) (vs : List V) (H : Hp) (Q : VK) (_ : XK) : Prop where
  h : ∃ n : Int, (∃ i : Int, vs = [.int n, .int i] ∧ Q (.bl (decide (0 ≤ i) && decide (i < n))) H) ∨
  ∃ (v : V) (t : Value) (b1 b2 : Bool), vs = [.int n, v] ∧ TyX K H v t ∧ PySem.W.kitOne K t (.type "int") = some b1 ∧ PySem.W.kitOne K t (.type "bool") = some b2 ∧ (b1 && !b2) = false ∧ Q (.bl false) H
theorem scIsDrawer : FnScope ["drawers", "value"] ["drawers", "value"] (defScope sIsDrawer) := ⟨rfl, rfl, rfl, by decide +kernel, rfl, by decide +kernel, by decide +kernel⟩
theorem ok_isDrawer {f f1 : Addr} {fd fd1 : FuncData} (F : Fun K "is_drawer" "is_drawer" sIsDrawer f fd) (_T : Bt mg) (G : FnOk P w K mg base CX0 1 f1 fd1 ["value"] (spIsInt K)) (g1 : mg "is_integer" = some (.ref f1)) (k1 : PySem.W.keepIn K (.ref f1) = true) (b1 : Binds K fd1 ["value"] []) :
    FnOk P w K mg base CX0 2 f fd ["drawers", "value"] (spIsDrawer K) := by
  refine F.ok scIsDrawer (fun vs H Q E h => ?_) (fun cdv A outer s H vs Q E hr h => ?_)
  · rcases h.h with ⟨n, ⟨i, rfl, _⟩ | ⟨v, t, b1, b2, rfl, _⟩⟩ <;> rfl
  · refine ⟨_, pss_one (ps_ret (pe_and (pe_call G (hr.mono (by decide)) rfl g1 k1 b1 .nil pass0 (pa_cons (pv 1) pa_nil)) (pe_one (pe_chain op_le op_lt pe_int (pv 1) (pv 0))))), ?_⟩
    rcases h.h with ⟨n, ⟨i, rfl, k⟩ | ⟨v, t, c1, c2, rfl, ty, e1, e2, e3, k⟩⟩
    · refine ⟨_, rfl, ⟨.int i, .type "int", true, false, rfl, .base (.int i), kit_ty (by decide +kernel), kit_ty (by decide +kernel), true, rfl, iteT ?_⟩⟩
      refine ⟨_, rfl, _, _, rfl, rfl, _, rfl, ?_⟩
      by_cases h1 : 0 ≤ i
      · rw [decide_eq_true h1] at k ⊢
        exact iteT ⟨_, rfl, _, _, rfl, rfl, k⟩
      · rw [decide_eq_false h1] at k ⊢
        exact iteF k
    · refine ⟨_, rfl, ⟨v, t, c1, c2, rfl, ty, e1, e2, _, rfl, ?_⟩⟩
      rw [e3]
      exact iteF k
end
end DL

set_option Elab.async false
set_option maxRecDepth 100000
namespace DL
open PySem L2
/-! ### is_bar -/
def scV : V → Bool
  | .non => true | .bl _ => true | .int _ => true | .str _ => true | _ => false
def isD (n : Int) : V → Bool
  | .int i => decide (0 ≤ i) && decide (i < n)
  | _ => false
def inW : V → Bool
  | .str z => decide (z = "open") || decide (z = "shut")
  | _ => false
def barB (n : Int) (x0 x1 x2 x3 : V) : Bool := isD n x0 && (isD n x2 && (!decide (x0 = x2) && (inW x1 && inW x3)))
theorem inW_in (x : V) (h : scV x = true) : inV x [.str "open", .str "shut"] = inW x ∧ flatV x = true := by
  have z1 : ∀ z : Str, ((("open" : Str) == z) || ((("shut" : Str) == z) || false)) = (decide (z = "open") || decide (z = "shut")) := fun z => by
    rw [beq_dec, beq_dec, Bool.or_false]
    congr 1
    · exact decide_eq_decide.mpr ⟨Eq.symm, Eq.symm⟩
    · exact decide_eq_decide.mpr ⟨Eq.symm, Eq.symm⟩
  cases x with
  | str z => exact ⟨z1 z, rfl⟩
  | non => exact ⟨rfl, rfl⟩
  | bl b => exact ⟨rfl, rfl⟩
  | int i => exact ⟨rfl, rfl⟩
  | _ => cases h
theorem spIsDrawer_sc {K : PySem.W.Frag} {n : Int} {x : V} {H : Hp} {Q : VK} {E : XK} (hx : scV x = true) (k : Q (.bl (isD n x)) H) : spIsDrawer K [.int n, x] H Q E := by
  cases x with
  | int i => exact ⟨⟨n, .inl ⟨i, rfl, k⟩⟩⟩
  | non => exact ⟨⟨n, .inr ⟨.non, .type "NoneType", false, false, rfl, .base .non, kit_ty (by decide +kernel), kit_ty (by decide +kernel), rfl, k⟩⟩⟩
  | bl b => exact ⟨⟨n, .inr ⟨.bl b, .type "bool", true, true, rfl, .base (.bl b), kit_ty (by decide +kernel), kit_ty (by decide +kernel), rfl, k⟩⟩⟩
  | str z => exact ⟨⟨n, .inr ⟨.str z, .type "str", false, false, rfl, .base (.str z), kit_ty (by decide +kernel), kit_ty (by decide +kernel), rfl, k⟩⟩⟩
  | _ => cases hx
theorem tyT {K : PySem.W.Frag} {H : Hp} {a : Addr} {xs : List V} (h : SqT K H a xs) : TyX K H (.ref a) (.type "tuple") := by
  rcases h with (h | ⟨o, h⟩) | ⟨o, its, n, h1, h2, _⟩
  · exact .base (.tup h)
  · exact .fTuple h
  · exact .kTuple h1 h2
structure spIsBar (K : PySem.W.Frag) (vs : List V) (H : Hp) (Q : VK) (_ : XK) : Prop where
  h : ∃ n : Int, (∃ (v : V) (t : Value), vs = [.int n, v] ∧ TyX K H v t ∧ PySem.W.kitOne K t (.type "tuple") = some false ∧ Q (.bl false) H) ∨
  (∃ (a : Addr) (xs : List V), vs = [.int n, .ref a] ∧ SqT K H a xs ∧ xs.length ≠ 4 ∧ Q (.bl false) H) ∨
  ∃ (a : Addr) (x0 x1 x2 x3 : V), vs = [.int n, .ref a] ∧ SqT K H a [x0, x1, x2, x3] ∧ scV x0 = true ∧ scV x1 = true ∧ scV x2 = true ∧ scV x3 = true ∧ Q (.bl (barB n x0 x1 x2 x3)) H
section
variable {P : Program} {w : World} {K : PySem.W.Frag} {mg : Str → Option Value} {base : Heap}
theorem scIsBar : FnScope ["drawers", "value", "drawer", "way", "other", "stand"] ["drawers", "value"] (defScope sIsBar) := ⟨rfl, rfl, rfl, by decide +kernel, rfl, by decide +kernel, by decide +kernel⟩
theorem ok_isBar {f f1 : Addr} {fd fd1 : FuncData} (F : Fun K "is_bar" "is_bar" sIsBar f fd) (T : Bt mg) (G : FnOk P w K mg base CX0 2 f1 fd1 ["drawers", "value"] (spIsDrawer K)) (g1 : mg "is_drawer" = some (.ref f1)) (k1 : PySem.W.keepIn K (.ref f1) = true) (b1 : Binds K fd1 ["drawers", "value"] [])
    (gW : ∃ aW, mg "WORDS" = some (.ref aW) ∧ ∀ H, SqT K H aW [.str "open", .str "shut"]) : FnOk P w K mg base CX0 3 f fd ["drawers", "value"] (spIsBar K) := by
  refine F.ok scIsBar (fun vs H Q E h => ?_) (fun cdv A outer s H vs Q E hr h => ?_)
  · rcases h.h with ⟨n, ⟨v, t, rfl, _⟩ | ⟨a, xs, rfl, _⟩ | ⟨a, x0, x1, x2, x3, rfl, _⟩⟩ <;> rfl
  · obtain ⟨aW, gW, hW⟩ := gW
    refine ⟨_, pss_cons (ps_if (PW.pt (pw_or (pt_not (pt_val (pe_callB call_isi (by rfl) T.isinstance (by decide +kernel) (pa_cons (pv 1) (pa_cons (pe_bltn (v := .ty "tuple") (by rfl) T.tuple (by decide +kernel) rfl) pa_nil)))))
        (pw_or1 (pt_cmpR op_ne (pe_callB call_len_seq (by rfl) T.len PySem.boot_len (pa_cons (pv 1) pa_nil)) pe_int (nomark _))))) (pss_one (ps_ret pe_bl)) pss_nil)
      (pss_cons (ps_asg (pv 1) (pg_tup (by rfl) (pgs_cons (pg_name (i := 2) scIsBar.nd rfl (.inl rfl)) (pgs_cons (pg_name (i := 3) scIsBar.nd rfl (.inl rfl)) (pgs_cons (pg_name (i := 4) scIsBar.nd rfl (.inl rfl)) (pgs_cons (pg_name (i := 5) scIsBar.nd rfl (.inl rfl)) pgs_nil))))))
      (pss_cons (ps_if (PW.pt (pw_or (pt_not (pt_val (pe_call G (hr.mono (by decide)) rfl g1 k1 b1 .nil pass0 (pa_cons (pv 0) (pa_cons (pv 2) pa_nil))))) (pw_or1 (pt_not (pt_val (pe_call G (hr.mono (by decide)) rfl g1 k1 b1 .nil pass0 (pa_cons (pv 0) (pa_cons (pv 4) pa_nil)))))))) (pss_one (ps_ret pe_bl)) pss_nil)
      (pss_one (ps_ret (pe_and (pe_cmpR op_ne (pv 2) (pv 4) (nomark _)) (pe_and (pe_cmpR op_in_seq (pv 3) (pe_glob (v := .ref aW) rfl gW rfl) (by rfl)) (pe_one (pe_cmpR op_in_seq (pv 5) (pe_glob (v := .ref aW) rfl gW rfl) (by rfl))))))))), ?_⟩
    rcases h.h with ⟨n, ⟨v, t, rfl, ty, e, k⟩ | ⟨a, xs, rfl, hq, hl, k⟩ | ⟨a, x0, x1, x2, x3, rfl, hq, c0, c1, c2, c3, k⟩⟩
    · exact ⟨_, rfl, _, _, t, _, false, rfl, .ty "tuple", ty, e, _, rfl, iteT (iteT k)⟩
    · refine ⟨_, rfl, _, _, _, _, true, rfl, .ty "tuple", tyT hq, kit_ty (by decide +kernel), _, rfl, iteF ?_⟩
      refine ⟨_, rfl, a, xs, rfl, .inr hq, rfl, _, rfl, ?_⟩
      refine ite2 (fun _ => k) (fun z => ?_)
      exact absurd (show (.int (xs.length : Int) : V) = .int 4 by simpa using z) (fun q => hl (by injection q with q; omega))
    · refine ⟨_, rfl, _, _, _, _, true, rfl, .ty "tuple", tyT hq, kit_ty (by decide +kernel), _, rfl, iteF ?_⟩
      refine ⟨_, rfl, a, _, rfl, .inr hq, rfl, _, rfl, iteF ?_⟩
      refine ⟨_, rfl, a, _, rfl, hq, rfl, x0, _, rfl, x1, _, rfl, x2, _, rfl, x3, _, rfl, rfl, ?_⟩
      refine ⟨_, rfl, _, rfl, ?_⟩
      refine spIsDrawer_sc c0 ⟨_, rfl, ?_⟩
      unfold barB at k
      cases d0 : isD n x0 with
      | false => rw [d0] at k; exact iteT (iteT k)
      | true =>
        rw [d0] at k
        refine iteF ⟨_, rfl, _, rfl, ?_⟩
        refine spIsDrawer_sc c2 ⟨_, rfl, ?_⟩
        cases d2 : isD n x2 with
        | false => rw [d2] at k; exact iteT k
        | true =>
          rw [d2] at k
          refine iteF ?_
          obtain ⟨i0, rfl⟩ : ∃ i, x0 = .int i := by cases x0 <;> first | exact ⟨_, rfl⟩ | cases d0
          obtain ⟨i2, rfl⟩ : ∃ i, x2 = .int i := by cases x2 <;> first | exact ⟨_, rfl⟩ | cases d2
          refine ⟨_, rfl, _, rfl, rfl, _, rfl, ?_⟩
          have k' : Q (.bl (!decide ((.int i0 : V) = .int i2) && (inW x1 && inW x3))) H := k
          cases e : decide ((.int i0 : V) = .int i2) with
          | true => rw [e] at k'; exact iteF k'
          | false =>
            rw [e] at k'
            refine iteT ⟨_, rfl, aW, _, rfl, .inr (hW H), (inW_in x1 c1).2, rfl, _, rfl, ?_⟩
            show if inV x1 _ = true then _ else _
            rw [(inW_in x1 c1).1]
            have k'' : Q (.bl (inW x1 && inW x3)) H := k'
            cases e1 : inW x1 with
            | false => rw [e1] at k''; exact iteF k''
            | true =>
              rw [e1] at k''
              refine iteT ⟨_, rfl, aW, _, rfl, .inr (hW H), (inW_in x3 c3).2, rfl, ?_⟩
              show Q (.bl (inV x3 _)) H
              rw [(inW_in x3 c3).1]
              exact k''
end
end DL

set_option Elab.async false
set_option maxRecDepth 100000
namespace DL
open PySem L2
/-! ### bars of the heap -/
structure BarsAt (H : Hp) (t : Addr) (ks : List (Addr × Bar)) : Prop where
  tu : H t = some (.tup (ks.map fun k => V.ref k.1))
  el : ∀ k ∈ ks, H k.1 = some (.tup k.2.vs)
theorem BarsAt.same {H H' : Hp} {t : Addr} {ks : List (Addr × Bar)} (B : BarsAt H t ks) (s : Same H H') : BarsAt H' t ks := ⟨s _ _ B.tu, fun k hk => s _ _ (B.el k hk)⟩
def Bar.ok (n : Int) (b : Bar) : Prop := 0 ≤ b.d ∧ b.d < n ∧ 0 ≤ b.o ∧ b.o < n ∧ b.d ≠ b.o
theorem Bar.ok.low {n : Int} {b : Bar} (h : b.ok n) (hn : n ≤ 7) : b.low := by
  obtain ⟨h1, h2, h3, h4, _⟩ := h
  exact ⟨h1, by omega, h3, by omega⟩
structure OkBars (n : Int) (bs : List Bar) : Prop where
  ok : ∀ b ∈ bs, b.ok n
  asc : bs.Pairwise fun x y => x.code < y.code
theorem inW_wd (b : Bool) : inW (.str (wd b)) = true := by revert b; decide +kernel
theorem barB_ok {n : Int} {b : Bar} (h : b.ok n) : barB n (.int b.d) (.str (wd b.w)) (.int b.o) (.str (wd b.t)) = true := by
  obtain ⟨h1, h2, h3, h4, h5⟩ := h
  unfold barB
  rw [inW_wd, inW_wd]
  show ((decide (0 ≤ b.d) && decide (b.d < n)) && ((decide (0 ≤ b.o) && decide (b.o < n)) && (!decide ((.int b.d : V) = .int b.o) && true))) = true
  have e : decide ((.int b.d : V) = .int b.o) = false := decide_eq_false fun q => h5 (by injection q)
  rw [decide_eq_true h1, decide_eq_true h2, decide_eq_true h3, decide_eq_true h4, e]
  rfl
theorem spIsBar_ok {K : PySem.W.Frag} {n : Int} {a : Addr} {b : Bar} {H : Hp} {Q : VK} {E : XK} (h : b.ok n) (ha : SqT K H a b.vs) (k : Q (.bl true) H) : spIsBar K [.int n, .ref a] H Q E :=
  ⟨⟨n, .inr (.inr ⟨a, _, _, _, _, rfl, ha, rfl, rfl, rfl, rfl, by rw [barB_ok h]; exact k⟩)⟩⟩
theorem SqT.of' {K : PySem.W.Frag} {H : Hp} {a : Addr} {xs : List V} (h : H a = some (.tup xs)) : SqT K H a xs := .inl (.inl h)
theorem same_upd {H : Hp} {p : Addr} {o : HO} (h : H p = none) : Same H (upd H p o) := fun b u e => by rw [upd_ne (ne_of_none e h)]; exact e
theorem at_prev {α : Type} {xs : List α} {i : Nat} {v : α} (h0 : 0 < i) (h : xs[i - 1]? = some v) : atI xs ((i : Int) - 1) = some v := by
  have e : (i : Int) - 1 = ((i - 1 : Nat) : Int) := by omega
  rw [e]
  exact atI_nat h
theorem pw_prev {bs : List Bar} (h : bs.Pairwise fun x y => x.code < y.code) {i : Nat} (h0 : 0 < i) {x y : Bar} (hx : bs[i - 1]? = some x) (hy : bs[i]? = some y) : x.code < y.code := by
  obtain ⟨l1, e1⟩ := List.getElem?_eq_some_iff.mp hx
  obtain ⟨l2, e2⟩ := List.getElem?_eq_some_iff.mp hy
  have := List.pairwise_iff_getElem.mp h (i - 1) i l1 l2 (by omega)
  rw [e1, e2] at this
  exact this
theorem not_leq {n : Int} {x y : Bar} (hn : n ≤ 7) (hx : x.ok n) (hy : y.ok n) (h : x.code < y.code) : y.leq x = false := by
  rw [Bar.leq_code (hy.low hn) (hx.low hn)]
  exact decide_eq_false (by omega)
/-! ### check_drawers, check_bars, __init__ of what is right -/
structure spCheckDrawers (vs : List V) (H : Hp) (Q : VK) (_ : XK) : Prop where
  h : ∃ n : Int, vs = [.int n] ∧ 1 ≤ n ∧ n ≤ 7 ∧ Q .non H
structure spCheckBars (vs : List V) (H : Hp) (Q : VK) (_ : XK) : Prop where
  h : ∃ (n : Int) (t : Addr) (ks : List (Addr × Bar)), vs = [.int n, .ref t] ∧ n ≤ 7 ∧ BarsAt H t ks ∧ OkBars n (ks.map (·.2)) ∧ ∀ H', Same H H' → Q .non H'
theorem kd_ : ¬ (("_drawers" : Str) = "_bars") := by decide +kernel
def cfl (n : Int) (t : Addr) : List (Str × V) := putF "_bars" (.ref t) (putF "_drawers" (.int n) [])
theorem cfl_d (n : Int) (t : Addr) : (cfl n t).lookup ("_drawers" : Str) = some (.int n) := by
  unfold cfl
  rw [lookup_putF, if_neg kd_, lookup_putF, if_pos rfl]
theorem cfl_b (n : Int) (t : Addr) : (cfl n t).lookup ("_bars" : Str) = some (.ref t) := by
  unfold cfl
  rw [lookup_putF, if_pos rfl]
/-- a Cabinet stands at c -/
def CabAt (C : Addr) (H : Hp) (c : Addr) (n : Int) (t : Addr) : Prop := ∃ dx, H c = some (.ins C dx (cfl n t))
structure spInit (C : Addr) (vs : List V) (H : Hp) (Q : VK) (_ : XK) : Prop where
  h : ∃ (p dx : Addr) (n : Int) (t : Addr) (ks : List (Addr × Bar)), vs = [.ref p, .int n, .ref t] ∧ H p = some (.ins C dx []) ∧ 1 ≤ n ∧ n ≤ 7 ∧ BarsAt H t ks ∧ OkBars n (ks.map (·.2)) ∧
    ∀ H', H' p = some (.ins C dx (cfl n t)) → (∀ b o, b ≠ p → H b = some o → H' b = some o) → Q .non H'
/-- the class -/
structure CabT (K : PySem.W.Frag) (mg : Str → Option Value) (C : Addr) : Prop where
  cl : Cls K C
  nD : NoAttr K C "_drawers"
  nB : NoAttr K C "_bars"
  mgC : mg "Cabinet" = some (.ref C)
section
variable {P : Program} {w : World} {K : PySem.W.Frag} {mg : Str → Option Value} {base : Heap}
theorem scCheckDrawers : FnScope ["drawers"] ["drawers"] (defScope sCheckDrawers) := ⟨rfl, rfl, rfl, by decide +kernel, rfl, by decide +kernel, by decide +kernel⟩
theorem ok_checkDrawers {f f1 : Addr} {fd fd1 : FuncData} (F : Fun K "check_drawers" "check_drawers" sCheckDrawers f fd) (G : FnOk P w K mg base CX0 2 f1 fd1 ["value"] (spIsCount K)) (g1 : mg "is_drawer_count" = some (.ref f1)) (k1 : PySem.W.keepIn K (.ref f1) = true) (b1 : Binds K fd1 ["value"] []) :
    FnOk P w K mg base CX0 3 f fd ["drawers"] spCheckDrawers := by
  refine F.ok scCheckDrawers (fun vs H Q E h => ?_) (fun cdv A outer s H vs Q E hr h => ?_)
  · obtain ⟨n, rfl, _⟩ := h.h
    rfl
  · obtain ⟨n, rfl, h1, h2, k⟩ := h.h
    refine ⟨_, pss_one (ps_if (pt_not (pt_val (pe_call G (hr.mono (by decide)) rfl g1 k1 b1 .nil pass0 (pa_cons (pv 0) pa_nil)))) (pss_one ps_never) pss_nil), ?_⟩
    refine ⟨_, rfl, ⟨.inl ⟨n, rfl, _, rfl, ?_⟩⟩⟩
    rw [decide_eq_true h1, decide_eq_true h2]
    exact iteF k
theorem scCheckBars : FnScope ["drawers", "bars", "index", "bar"] ["drawers", "bars"] (defScope sCheckBars) := ⟨rfl, rfl, rfl, by decide +kernel, rfl, by decide +kernel, by decide +kernel⟩
theorem ok_checkBars {f f1 : Addr} {fd fd1 : FuncData} (F : Fun K "check_bars" "check_bars" sCheckBars f fd) (T : Bt mg) (G : FnOk P w K mg base CX0 3 f1 fd1 ["drawers", "value"] (spIsBar K)) (g1 : mg "is_bar" = some (.ref f1)) (k1 : PySem.W.keepIn K (.ref f1) = true) (b1 : Binds K fd1 ["drawers", "value"] []) :
    FnOk P w K mg base CX0 4 f fd ["drawers", "bars"] spCheckBars := by
  refine F.ok scCheckBars (fun vs H Q E h => ?_) (fun cdv A outer s H vs Q E hr h => ?_)
  · obtain ⟨n, t, ks, rfl, _⟩ := h.h
    rfl
  · obtain ⟨n, t, ks, rfl, hn, B, O, k⟩ := h.h
    have hu : _ < cLine := hr.units0
    refine ⟨_, pss_cons (ps_if (pt_not (pt_val (pe_callB call_isi (by rfl) T.isinstance (by decide +kernel) (pa_cons (pv 1) (pa_cons (pe_bltn (v := .ty "tuple") (by rfl) T.tuple (by decide +kernel) rfl) pa_nil))))) (pss_one ps_never) pss_nil)
      (pss_one (ps_for PassesOwn.never rfl (pi_enumT (by rfl) T.enumerate (pa_cons (pv 1) pa_nil)) (pg_tup (by rfl) (pgs_cons (pg_name (i := 2) scCheckBars.nd rfl (.inl rfl)) (pgs_cons (pg_name (i := 3) scCheckBars.nd rfl (.inl rfl)) pgs_nil)))
        (pss_cons (ps_if (pt_not (pt_val (pe_call G (hr.mono (by decide)) rfl g1 k1 b1 .nil pass0 (pa_cons (pv 0) (pa_cons (pv 3) pa_nil))))) (pss_one ps_never) pss_nil)
        (pss_one (ps_if (PW.pt (pw_and (pt_cmpR op_gt (pv 2) pe_int (nomark _)) (pw_and1 (pt_cmpR (op_leB hu) (pv 3) (pe_ix ix_tup (pv 1) (pe_op op_sub (pv 2) pe_int) (fun _ _ => rfl)) (nomark _))))) (pss_one ps_never) pss_nil))))), ?_⟩
    refine ⟨_, rfl, _, _, _, _, true, rfl, .ty "tuple", tyT (SqT.of' B.tu), kit_ty (by decide +kernel), _, rfl, iteF ?_⟩
    refine ⟨_, rfl, t, _, rfl, SqT.of' B.tu, ?_⟩
    refine for_it walk_enumT (fun i σ H' => ∃ v2 v3, σ = [some (.int n), some (.ref t), v2, v3] ∧ Same H H') ⟨_, _, rfl, Same.refl H⟩ (fun i σ H' _ ⟨_, _, _, s1⟩ => SqT.of' (s1 _ _ B.tu)) ?_ ?_
    · rintro i x σ H1 H2 hi ⟨v2, v3, rfl, s1⟩ ⟨T, x1, x2, rfl, hT, rfl, e1, e2⟩
      have e1' : V.int (i : Nat) = x1 := Option.some.inj e1
      subst e1'
      have e2 : (ks.map fun k => V.ref k.1)[i]? = some x2 := e2
      rw [List.getElem?_map] at e2
      cases ek : ks[i]? with
      | none => rw [ek] at e2; cases e2
      | some kk =>
        rw [ek] at e2
        have e2' : V.ref kk.1 = x2 := Option.some.inj e2
        subst e2'
        have s2 : Same H (upd H1 T (.tup [.int (i : Nat), .ref kk.1])) := s1.trans (same_upd hT)
        have hm : kk ∈ ks := List.mem_of_getElem? ek
        have hok : kk.2.ok n := O.ok _ (List.mem_map.mpr ⟨kk, hm, rfl⟩)
        refine ⟨T, _, rfl, SqT.of' upd_same, rfl, _, _, rfl, _, _, rfl, rfl, ?_⟩
        refine ⟨_, rfl, _, rfl, spIsBar_ok hok (SqT.of' (s2 _ _ (B.el kk hm))) ⟨_, rfl, iteF ?_⟩⟩
        refine ⟨_, rfl, _, _, rfl, rfl, _, rfl, ?_⟩
        refine ite2 (fun z => ?_) (fun z => iteF ⟨_, _, rfl, s2⟩)
        have h0 : 0 < i := by have := of_decide_eq_true z; omega
        obtain ⟨kp, ep⟩ : ∃ kp, ks[i - 1]? = some kp := by
          have := (List.getElem?_eq_some_iff.mp ek).1
          exact ⟨ks[i - 1]'(by omega), List.getElem?_eq_getElem (by omega)⟩
        have hmp : kp ∈ ks := List.mem_of_getElem? ep
        have hokp : kp.2.ok n := O.ok _ (List.mem_map.mpr ⟨kp, hmp, rfl⟩)
        refine ⟨_, rfl, _, rfl, _, rfl, _, _, rfl, rfl, t, _, _, .ref kp.1, rfl, rfl, SqT.of' (s2 _ _ B.tu), at_prev h0 (by rw [List.getElem?_map, ep]; rfl), ?_⟩
        refine ⟨kk.1, kp.1, kk.2, kp.2, rfl, rfl, SqT.of' (s2 _ _ (B.el kk hm)), SqT.of' (s2 _ _ (B.el kp hmp)), _, rfl, ?_⟩
        have hlt : kp.2.code < kk.2.code := pw_prev O.asc h0 (by rw [List.getElem?_map, ep]; rfl) (by rw [List.getElem?_map, ek]; rfl)
        rw [not_leq hn hokp hok hlt]
        exact iteF ⟨_, _, rfl, s2⟩
    · rintro σ H' ⟨v2, v3, rfl, s1⟩
      exact k H' s1
theorem scInit : FnScope ["self", "drawers", "bars"] ["self", "drawers", "bars"] (defScope sInit) := ⟨rfl, rfl, rfl, by decide +kernel, rfl, by decide +kernel, by decide +kernel⟩
theorem ok_init {f f1 f2 C : Addr} {fd fd1 fd2 : FuncData} (F : Fun K "__init__" "Cabinet.__init__" sInit f fd) (T : CabT K mg C) (G1 : FnOk P w K mg base CX0 3 f1 fd1 ["drawers"] spCheckDrawers) (g1 : mg "check_drawers" = some (.ref f1)) (k1 : PySem.W.keepIn K (.ref f1) = true) (b1 : Binds K fd1 ["drawers"] [])
    (G2 : FnOk P w K mg base CX0 4 f2 fd2 ["drawers", "bars"] spCheckBars) (g2 : mg "check_bars" = some (.ref f2)) (k2 : PySem.W.keepIn K (.ref f2) = true) (b2 : Binds K fd2 ["drawers", "bars"] []) : FnOk P w K mg base CX0 5 f fd ["self", "drawers", "bars"] (spInit C) := by
  refine F.ok scInit (fun vs H Q E h => ?_) (fun cdv A outer s H vs Q E hr h => ?_)
  · obtain ⟨p, dx, n, t, ks, rfl, _⟩ := h.h
    rfl
  · obtain ⟨p, dx, n, t, ks, rfl, hp, h1, h7, B, O, k⟩ := h.h
    refine ⟨_, pss_cons (ps_expr (pe_call G1 (hr.mono (by decide)) rfl g1 k1 b1 .nil pass0 (pa_cons (pv 1) pa_nil))) (pss_cons (ps_expr (pe_call G2 (hr.mono (by decide)) rfl g2 k2 b2 .nil pass0 (pa_cons (pv 1) (pa_cons (pv 2) pa_nil))))
      (pss_cons (ps_fld (pv 0) (pv 1) rfl) (pss_one (ps_fld (pv 0) (pv 2) rfl)))), ?_⟩
    refine ⟨_, rfl, ⟨n, rfl, h1, h7, ?_⟩⟩
    refine ⟨_, rfl, _, rfl, ⟨n, t, ks, rfl, h7, B, O, fun H1 s1 => ?_⟩⟩
    refine ⟨_, rfl, _, rfl, p, C, dx, _, rfl, s1 _ _ hp, T.cl, T.nD, (by show 0 < 1000; decide), _, rfl, _, rfl, p, C, dx, _, rfl, upd_same, T.cl, T.nB, (by show 1 < 1000; decide), ?_⟩
    refine k _ upd_same fun b o hb e => ?_
    rw [upd_ne hb, upd_ne hb]
    exact s1 _ _ e
end
end DL

set_option Elab.async false
set_option maxRecDepth 100000
namespace DL
open PySem L2
/-! ### drawing: the row of draws stands at r, the script at sc -/
def But (r : Addr) (H H' : Hp) : Prop := ∀ b o, b ≠ r → H b = some o → H' b = some o
theorem But.refl (r : Addr) (H : Hp) : But r H H := fun _ _ _ h => h
theorem But.trans {r : Addr} {H H1 H2 : Hp} (a : But r H H1) (b : But r H1 H2) : But r H H2 := fun c o hc h => b c o hc (a c o hc h)
theorem sbut {r : Addr} {H H' : Hp} (s : Same H H') : But r H H' := fun c o _ h => s c o h
theorem but_upd {r : Addr} {H : Hp} {o : HO} : But r H (upd H r o) := fun c u hc h => by rw [upd_ne hc]; exact h
theorem But.seq {K : PySem.W.Frag} {r : Addr} {H H' : Hp} {a : Addr} {xs : List V} (s : But r H H') (ha : a ≠ r) (h : SqL K H a xs) : SqL K H' a xs := by
  rcases h with (h | ⟨o, h⟩) | h
  · exact .inl (.inl (s _ _ ha h))
  · exact .inl (.inr ⟨o, s _ _ ha h⟩)
  · exact .inr h
theorem But.tup {r : Addr} {H H' : Hp} {a : Addr} {xs : List V} {ys : List V} (s : But r H H') (hr : H r = some (.lst ys)) (h : H a = some (.tup xs)) : H' a = some (.tup xs) :=
  s _ _ (ne_of h hr (by intro z; cases z)) h
structure RowOk (H : Hp) (r sc : Addr) : Prop where
  h : ∃ i m e : Int, H r = some (.lst [.ref sc, .int i, .int m, .int e]) ∧ 0 ≤ i ∧ 0 ≤ m ∧ m < 2147483647 ∧ 0 ≤ e
theorem RowOk.same {H H' : Hp} {r sc : Addr} (R : RowOk H r sc) (s : Same H H') : RowOk H' r sc := by
  obtain ⟨i, m, e, h, q⟩ := R.h
  exact ⟨⟨i, m, e, s _ _ h, q⟩⟩
theorem But.seqR {K : PySem.W.Frag} {r sc : Addr} {H H' : Hp} {a : Addr} {ns : List Int} (s : But r H H') (R : RowOk H r sc) (h : SqL K H a (ns.map V.int)) : SqL K H' a (ns.map V.int) := by
  obtain ⟨i, m, e, hR, _⟩ := R.h
  have nd : ∀ u : HO, H a = some u → u ≠ .lst [.ref sc, .int i, .int m, .int e] → a ≠ r := fun u hu hn z => by
    rw [z, hR] at hu
    exact hn (Option.some.inj hu).symm
  rcases h with (h | ⟨o, h⟩) | h
  · refine .inl (.inl (s _ _ (nd _ h fun z => ?_) h))
    injection z with z
    cases ns with
    | nil => cases z
    | cons n ns => injection z with z _; cases z
  · exact .inl (.inr ⟨o, s _ _ (nd _ h fun z => by cases z) h⟩)
  · exact .inr h
structure spTaken (K : PySem.W.Frag) (vs : List V) (H : Hp) (Q : VK) (_ : XK) : Prop where
  h : ∃ (r sc : Addr) (ns : List Int) (many : Int), vs = [.ref r, .int many] ∧ RowOk H r sc ∧ SqL K H sc (ns.map V.int) ∧ 1 ≤ many ∧ many ≤ 1000 ∧
    ∀ (v : Int) (H' : Hp), 0 ≤ v → v < many → RowOk H' r sc → But r H H' → Q (.int v) H'
section
variable {P : Program} {w : World} {K : PySem.W.Frag} {mg : Str → Option Value} {base : Heap}
theorem scTaken : FnScope ["_law_row", "_law_many", "_law_found", "_law_cell"] ["_law_row", "_law_many"] (defScope sTaken) := ⟨rfl, rfl, rfl, by decide +kernel, rfl, by decide +kernel, by decide +kernel⟩
theorem ok_taken {f : Addr} {fd : FuncData} (F : Fun K "_law_taken" "_law_taken" sTaken f fd) (T : Bt mg) : FnOk P w K mg base CX0 1 f fd ["_law_row", "_law_many"] (spTaken K) := by
  refine F.ok scTaken (fun vs H Q E h => ?_) (fun cdv A outer s H vs Q E hr h => ?_)
  · obtain ⟨r, sc, ns, many, rfl, _⟩ := h.h
    rfl
  · obtain ⟨r, sc, ns, many, rfl, R, S, h1, h2, k⟩ := h.h
    obtain ⟨i, m, e, hR, hi, hm0, hm, he⟩ := R.h
    have dv : CDivW e many := wide_div (b := 10) (by omega) (by omega) (by decide) (by decide)
    refine ⟨_, pss_cons (ps_if (pt_cmpR op_gt (pe_ix ix_list (pv 0) pe_int (fun _ _ => rfl)) pe_int (nomark _))
        (pss_cons (ps_set (i := 2) scTaken.nd rfl (.inl rfl) (pe_op op_mod (pe_callTy call_int1 (by rfl) T.int (by decide +kernel) (pa_cons (pe_ix ix_list (pv 0) pe_int (fun _ _ => rfl)) pa_nil)) (pv 1)))
        (pss_cons (ps_asg (pe_op op_fdivW (pe_ix ix_list (pv 0) pe_int (fun _ _ => rfl)) (pv 1)) (pg_sub (pv 0) pe_int set_list))
        (pss_one (ps_ret (pv 2))))) pss_nil)
      (pss_cons (ps_asg (pe_op op_add (pe_ix ix_list (pv 0) pe_int (fun _ _ => rfl)) pe_int) (pg_sub (pv 0) pe_int set_list))
      (pss_cons (ps_if (pt_cmpR op_gt (pe_ix ix_list (pv 0) pe_int (fun _ _ => rfl)) (pe_callB call_len_seq (by rfl) T.len PySem.boot_len (pa_cons (pe_ix ix_list (pv 0) pe_int (fun _ _ => rfl)) pa_nil)) (nomark _))
        (pss_cons (ps_asg (pe_op op_mod (pe_callTy call_int1 (by rfl) T.int (by decide +kernel) (pa_cons (pe_op op_add (pe_op op_mul (pe_ix ix_list (pv 0) pe_int (fun _ _ => rfl)) pe_int) pe_int) pa_nil)) pe_int) (pg_sub (pv 0) pe_int set_list))
        (pss_one (ps_ret (pe_op op_mod (pe_callTy call_int1 (by rfl) T.int (by decide +kernel) (pa_cons (pe_op op_fdiv (pe_ix ix_list (pv 0) pe_int (fun _ _ => rfl)) pe_int) pa_nil)) (pv 1))))) pss_nil)
      (pss_cons (ps_set (i := 3) scTaken.nd rfl (.inl rfl) (pe_ix ix_list (pe_ix ix_list (pv 0) pe_int (fun _ _ => rfl)) (pe_op op_sub (pe_ix ix_list (pv 0) pe_int (fun _ _ => rfl)) pe_int) (fun _ _ => rfl)))
      (pss_cons (ps_asg (pe_op op_mod (pe_callTy call_int1 (by rfl) T.int (by decide +kernel) (pa_cons (pe_op op_add (pe_op op_add (pe_op op_mul (pe_ix ix_list (pv 0) pe_int (fun _ _ => rfl)) pe_int) (pv 3)) pe_int) pa_nil)) pe_int) (pg_sub (pv 0) pe_int set_list))
      (pss_cons (ps_if (pt_cmpR op_ge (pv 3) (pe_op op_pow pe_int pe_int) (nomark _)) (pss_one (ps_asg (pe_op op_fdivW (pv 3) (pv 1)) (pg_sub (pv 0) pe_int set_list))) pss_nil)
      (pss_one (ps_ret (pe_op op_mod (pe_callTy call_int1 (by rfl) T.int (by decide +kernel) (pa_cons (pv 3) pa_nil)) (pv 1))))))))), ?_⟩
    refine ⟨_, rfl, r, _, _, .int e, rfl, rfl, SqL.of hR, rfl, _, _, rfl, rfl, _, rfl, ?_⟩
    refine ite2 (fun z => ?_) (fun _ => ?_)
    · refine ⟨_, rfl, r, _, _, .int e, rfl, rfl, SqL.of hR, rfl, .inl ⟨_, rfl, _, rfl, _, _, rfl, rfl, (by omega), ?_⟩⟩
      refine ⟨_, rfl, r, _, _, .int e, rfl, rfl, SqL.of hR, rfl, _, rfl, _, _, rfl, rfl, dv, ?_⟩
      refine ⟨_, rfl, r, _, _, 3, rfl, rfl, hR, rfl, _, rfl, ?_⟩
      exact k _ _ (Int.emod_nonneg _ (by omega)) (Int.emod_lt_of_pos _ (by omega)) ⟨⟨i, m, e / many, upd_same, hi, hm0, hm, Int.ediv_nonneg he (by omega)⟩⟩ but_upd
    · refine ⟨_, rfl, r, _, _, .int i, rfl, rfl, SqL.of hR, rfl, _, _, rfl, rfl, ?_⟩
      refine ⟨_, rfl, r, _, _, 1, rfl, rfl, hR, rfl, ?_⟩
      have S1 : SqL K (upd H r (.lst [.ref sc, .int (i + 1), .int m, .int e])) sc (ns.map V.int) := but_upd.seqR R S
      refine ⟨_, rfl, r, _, _, .int (i + 1), rfl, rfl, SqL.of upd_same, rfl, ?_⟩
      refine ⟨_, rfl, r, _, _, .ref sc, rfl, rfl, SqL.of upd_same, rfl, sc, _, rfl, .inl S1, _, _, rfl, rfl, _, rfl, ?_⟩
      refine ite2 (fun z => ?_) (fun z => ?_)
      · refine ⟨_, rfl, r, _, _, .int m, rfl, rfl, SqL.of upd_same, rfl, _, _, rfl, rfl, .inl ⟨by omega, by omega⟩, _, _, rfl, rfl, .inl ⟨_, rfl, _, _, rfl, rfl, (by show (0 : Int) < 2147483647; decide), ?_⟩⟩
        refine ⟨_, rfl, r, _, _, 2, rfl, rfl, upd_same, rfl, ?_⟩
        refine ⟨_, rfl, r, _, _, .int ((m * 48271 + 11) % 2147483647), rfl, rfl, SqL.of upd_same, rfl, _, _, rfl, rfl, ⟨by decide, by decide⟩, .inl ⟨_, rfl, _, rfl, _, _, rfl, rfl, (by omega), ?_⟩⟩
        refine k _ _ (Int.emod_nonneg _ (by omega)) (Int.emod_lt_of_pos _ (by omega)) ⟨⟨i + 1, (m * 48271 + 11) % 2147483647, e, upd_same, by omega, Int.emod_nonneg _ (by decide), Int.emod_lt_of_pos _ (by decide), he⟩⟩ (but_upd.trans but_upd)
      · have hlt : i < ns.length := by
          have := of_decide_eq_false (by simpa using z : decide ((ns.map V.int).length < i + 1) = false)
          rw [List.length_map] at this
          omega
        have hc : ∃ c, ns[i.toNat]? = some c := ⟨ns[i.toNat]'(by omega), List.getElem?_eq_getElem (by omega)⟩
        obtain ⟨c, hc⟩ := hc
        have hat : atI (ns.map V.int) ((i + 1) - 1) = some (.int c) := by
          have e1 : (i + 1) - 1 = ((i.toNat : Nat) : Int) := by omega
          rw [e1]
          exact atI_nat (by rw [List.getElem?_map, hc]; rfl)
        refine ⟨_, rfl, r, _, _, .ref sc, rfl, rfl, SqL.of upd_same, rfl, _, rfl, r, _, _, .int (i + 1), rfl, rfl, SqL.of upd_same, rfl, _, _, rfl, rfl, sc, _, _, .int c, rfl, rfl, S1, hat, ?_⟩
        refine ⟨_, rfl, r, _, _, .int m, rfl, rfl, SqL.of upd_same, rfl, _, _, rfl, rfl, .inl ⟨by omega, by omega⟩, _, rfl, _, _, rfl, rfl, _, _, rfl, rfl, .inl ⟨_, rfl, _, _, rfl, rfl, (by show (0 : Int) < 2147483647; decide), ?_⟩⟩
        refine ⟨_, rfl, r, _, _, 2, rfl, rfl, upd_same, rfl, ?_⟩
        refine ⟨_, rfl, _, _, rfl, rfl, ⟨by decide, by decide, by decide⟩, _, _, rfl, rfl, _, rfl, ?_⟩
        have m1 := Int.emod_nonneg (m * 48271 + c + 11) (show (2147483647 : Int) ≠ 0 by decide)
        have m2 := Int.emod_lt_of_pos (m * 48271 + c + 11) (show (0 : Int) < 2147483647 by decide)
        have v1 := Int.emod_nonneg c (show many ≠ 0 by omega)
        have v2 := Int.emod_lt_of_pos c (show 0 < many by omega)
        refine ite2 (fun z => ?_) (fun _ => ?_)
        · have hc0 : (10 : Int) ^ (18 : Int).toNat ≤ c := of_decide_eq_true z
          have hc1 : 0 ≤ c := by
            have : (0 : Int) ≤ (10 : Int) ^ (18 : Int).toNat := by decide
            omega
          refine ⟨_, rfl, _, rfl, _, _, rfl, rfl, wide_div (b := 10) (by omega) (by omega) (by decide) (by decide), ?_⟩
          refine ⟨_, rfl, r, _, _, 3, rfl, rfl, upd_same, rfl, ?_⟩
          refine ⟨_, rfl, .inl ⟨_, rfl, _, rfl, _, _, rfl, rfl, (by omega), ?_⟩⟩
          exact k _ _ v1 v2 ⟨⟨i + 1, _, c / many, upd_same, by omega, m1, m2, Int.ediv_nonneg hc1 (by omega)⟩⟩ ((but_upd.trans but_upd).trans but_upd)
        · refine ⟨_, rfl, .inl ⟨_, rfl, _, rfl, _, _, rfl, rfl, (by omega), ?_⟩⟩
          exact k _ _ v1 v2 ⟨⟨i + 1, _, e, upd_same, by omega, m1, m2, he⟩⟩ (but_upd.trans but_upd)
end
end DL

set_option Elab.async false
set_option maxRecDepth 100000
namespace DL
open PySem L2
theorem keys_put {kvs : List (List Key × V)} {bs : List Bar} {b : Bar} (v : V) (h : kvs.map (·.1) = bs.map Bar.key) (hn : bs.Nodup) :
    ∃ bs' : List Bar, (putK kvs b.key v).map (·.1) = bs'.map Bar.key ∧ bs'.Nodup ∧ (∀ x ∈ bs', x = b ∨ x ∈ bs) ∧ bs'.length ≤ bs.length + 1 := by
  unfold putK
  by_cases e : (kvs.any fun kv => decide (kv.1 = b.key)) = true
  · rw [if_pos e]
    refine ⟨bs, ?_, hn, fun x hx => .inr hx, Nat.le_succ _⟩
    rw [← h, List.map_map]
    refine List.map_congr_left fun kv _ => ?_
    show (if kv.1 = b.key then (kv.1, v) else kv).1 = kv.1
    by_cases q : kv.1 = b.key
    · rw [if_pos q]
    · rw [if_neg q]
  · rw [if_neg e]
    have hnot : b ∉ bs := fun hm => e (by
      rw [List.any_eq_true]
      have : b.key ∈ kvs.map (·.1) := by rw [h]; exact List.mem_map.mpr ⟨b, hm, rfl⟩
      obtain ⟨kv, hkv, q⟩ := List.mem_map.mp this
      exact ⟨kv, hkv, decide_eq_true q⟩)
    refine ⟨bs ++ [b], by rw [List.map_append, List.map_append, h]; rfl, ?_, fun x hx => ?_, by simp⟩
    · rw [List.nodup_append]
      refine ⟨hn, List.nodup_cons.mpr ⟨by simp, List.nodup_nil⟩, fun x hx y hy => ?_⟩
      rw [List.mem_singleton.mp hy]
      exact fun q => hnot (q ▸ hx)
    · rcases List.mem_append.mp hx with hx | hx
      · exact .inr hx
      · exact .inl (List.mem_singleton.mp hx)
theorem asc_of {n : Int} (hn : n ≤ 7) {xs bs : List Bar} (hp : xs.Perm bs) (hs : xs.Pairwise fun x y => x.code ≤ y.code) (hd : bs.Nodup) (ho : ∀ b ∈ bs, b.ok n) : OkBars n xs := by
  have hx : ∀ b ∈ xs, b.ok n := fun b hb => ho b (hp.mem_iff.mp hb)
  refine ⟨hx, ?_⟩
  have hd' : xs.Nodup := hp.nodup_iff.mpr hd
  have := hs.and hd'
  refine List.Pairwise.imp_of_mem (fun {a b} ha hb q => ?_) this
  obtain ⟨q1, q2⟩ := q
  rcases Int.lt_or_eq_of_le q1 with z | z
  · exact z
  · exact absurd (Bar.code_inj ((hx a ha).low hn) ((hx b hb).low hn) z) q2
structure spParts (K : PySem.W.Frag) (vs : List V) (H : Hp) (Q : VK) (_ : XK) : Prop where
  h : ∃ (r sc : Addr) (ns : List Int) (most : Int), vs = [.ref r, .int most] ∧ RowOk H r sc ∧ SqL K H sc (ns.map V.int) ∧ 1 ≤ most ∧ most ≤ 7 ∧
    ∀ (p t : Addr) (n : Int) (ks : List (Addr × Bar)) (H' : Hp), H p = none → H t = none → 1 ≤ n → n ≤ most → H' p = some (.lst [.int n, .ref t]) → BarsAt H' t ks → OkBars n (ks.map (·.2)) → ks.length ≤ 13 → RowOk H' r sc → But r H H' → Q (.ref p) H'
theorem three_at {v : Int} (h0 : 0 ≤ v) (h3 : v < 3) : ∃ c : Int, atI [V.int 3, V.int 6, V.int 14] v = some (.int c) ∧ 1 ≤ c ∧ c ≤ 14 := by
  have : v = 0 ∨ v = 1 ∨ v = 2 := by omega
  rcases this with rfl | rfl | rfl
  · exact ⟨3, rfl, by decide, by decide⟩
  · exact ⟨6, rfl, by decide, by decide⟩
  · exact ⟨14, rfl, by decide, by decide⟩
theorem two_at {v : Int} (h0 : 0 ≤ v) (h3 : v < 2) : ∃ c : Bool, atI [V.str "open", V.str "shut"] v = some (.str (wd c)) := by
  have : v = 0 ∨ v = 1 := by omega
  rcases this with rfl | rfl
  · exact ⟨false, rfl⟩
  · exact ⟨true, rfl⟩
section
variable {P : Program} {w : World} {K : PySem.W.Frag} {mg : Str → Option Value} {base : Heap}
theorem scParts : FnScope ["_law_row", "_law_most", "_law_many", "_law_found", "_law_k", "_law_drawer", "_law_other", "_law_way", "_law_stand"] ["_law_row", "_law_most"] (defScope sParts) := ⟨rfl, rfl, rfl, by decide +kernel, rfl, by decide +kernel, by decide +kernel⟩
theorem ok_parts {f f1 : Addr} {fd fd1 : FuncData} (F : Fun K "_law_parts" "_law_parts" sParts f fd) (T : Bt mg) (G : FnOk P w K mg base CX0 1 f1 fd1 ["_law_row", "_law_many"] (spTaken K)) (g1 : mg "_law_taken" = some (.ref f1)) (k1 : PySem.W.keepIn K (.ref f1) = true) (b1 : Binds K fd1 ["_law_row", "_law_many"] []) :
    FnOk P w K mg base CX0 2 f fd ["_law_row", "_law_most"] (spParts K) := by
  refine F.ok scParts (fun vs H Q E h => ?_) (fun cdv A outer s H vs Q E hr h => ?_)
  · obtain ⟨r, sc, ns, most, rfl, _⟩ := h.h
    rfl
  · obtain ⟨r, sc, ns, most, rfl, R, S, h1, h7, k⟩ := h.h
    have hu := hu_of hr
    obtain ⟨i0, m0, e0, hR0, _⟩ := id R.h
    refine ⟨_, pss_cons (ps_par (i := 2) (j := 3) (by rfl) scParts.nd rfl rfl (by decide) rfl rfl (pa_cons (pe_op op_add pe_int (pe_call G (hr.mono (by decide)) rfl g1 k1 b1 .nil pass0 (pa_cons (pv 0) (pa_cons (pv 1) pa_nil)))) (pa_cons pe_dnewT pa_nil)) (by rfl))
      (pss_cons (ps_for PassesOwn.never rfl (pi_range1 (by rfl) T.range (pa_cons (pe_call G (hr.mono (by decide)) rfl g1 k1 b1 .nil pass0 (pa_cons (pv 0) (pa_cons (pe_ix ix_list (pe_lst (pa_cons pe_int (pa_cons pe_int (pa_cons pe_int pa_nil)))) (pe_call G (hr.mono (by decide)) rfl g1 k1 b1 .nil pass0 (pa_cons (pv 0) (pa_cons pe_int pa_nil))) (fun _ _ => rfl)) pa_nil))) pa_nil)) (pg_name (i := 4) scParts.nd rfl (.inl rfl))
        (pss_cons (ps_par (i := 5) (j := 6) (by rfl) scParts.nd rfl rfl (by decide) rfl rfl (pa_cons (pe_call G (hr.mono (by decide)) rfl g1 k1 b1 .nil pass0 (pa_cons (pv 0) (pa_cons (pv 2) pa_nil))) (pa_cons (pe_call G (hr.mono (by decide)) rfl g1 k1 b1 .nil pass0 (pa_cons (pv 0) (pa_cons (pv 2) pa_nil))) pa_nil)) (by rfl))
        (pss_one (ps_if (pt_cmpR op_ne (pv 5) (pv 6) (nomark _))
          (pss_cons (ps_par (i := 7) (j := 8) (by rfl) scParts.nd rfl rfl (by decide) rfl rfl (pa_cons (pe_ix ix_list (pe_lst (pa_cons pe_str (pa_cons pe_str pa_nil))) (pe_op op_fdiv (pe_call G (hr.mono (by decide)) rfl g1 k1 b1 .nil pass0 (pa_cons (pv 0) (pa_cons pe_int pa_nil))) pe_int) (fun _ _ => rfl))
            (pa_cons (pe_ix ix_list (pe_lst (pa_cons pe_str (pa_cons pe_str pa_nil))) (pe_call G (hr.mono (by decide)) rfl g1 k1 b1 .nil pass0 (pa_cons (pv 0) (pa_cons pe_int pa_nil))) (fun _ _ => rfl)) pa_nil)) (by rfl))
          (pss_one (ps_dput hu (pv 3) (pe_tup (pa_cons (pv 5) (pa_cons (pv 7) (pa_cons (pv 6) (pa_cons (pv 8) pa_nil))))) pe_bl rfl))) pss_nil))))
      (pss_one (ps_ret (pe_lst (pa_cons (pv 2) (pa_cons (pe_callTy call_tuple_of (by rfl) T.tuple (by decide +kernel) (pa_cons (pe_callB (cr_sortB (by rfl)) (by rfl) T.sorted (by decide +kernel) (pa_cons (pv 3) pa_nil)) pa_nil)) pa_nil)))))), ?_⟩
    -- many, found
    refine ⟨_, rfl, _, rfl, ⟨⟨r, sc, ns, most, rfl, R, S, h1, by omega, fun v H1 v0 v1 R1 B1 => ?_⟩⟩⟩
    refine ⟨_, _, rfl, rfl, fun d hd => ⟨_, _, rfl, ?_⟩⟩
    obtain ⟨i1, m1, e1, hR1, _⟩ := id R1.h
    have ndr : d ≠ r := (ne_of_none hR1 hd).symm
    have hd0 : H d = none := by
      cases q : H d with
      | none => rfl
      | some o =>
        rw [B1 d o ndr q] at hd
        cases hd
    have R2 : RowOk (upd H1 d (.dT [])) r sc := R1.same (same_upd hd)
    have B2 : But r H (upd H1 d (.dT [])) := B1.trans (sbut (same_upd hd))
    -- range(..)
    refine ⟨_, rfl, (by show 3 ≤ sizeLine; decide), fun l hl => ?_⟩
    have nlr : l ≠ r := by
      obtain ⟨_, _, _, q, _⟩ := id R2.h
      exact (ne_of_none q hl).symm
    have R3 := R2.same (same_upd (o := .lst [V.int 3, V.int 6, V.int 14]) hl)
    have B3 : But r H _ := B2.trans (sbut (same_upd (o := .lst [V.int 3, V.int 6, V.int 14]) hl))
    refine ⟨_, rfl, ⟨⟨r, sc, ns, 3, rfl, R3, B3.seqR R S, by decide, by decide, fun v2 H3 w0 w1 R4 B4 => ?_⟩⟩⟩
    obtain ⟨c, hc, c1, c14⟩ := three_at w0 w1
    refine ⟨l, _, v2, .int c, rfl, rfl, SqL.of (B4 _ _ nlr upd_same), hc, ?_⟩
    have B5 : But r H H3 := B3.trans B4
    refine ⟨⟨r, sc, ns, c, rfl, R4, B5.seqR R S, c1, by omega, fun v3 H4 x0 x1 R5 B6 => ?_⟩⟩
    refine ⟨v3, rfl, by omega, by omega, ?_⟩
    have B7 : But r H H4 := B5.trans B6
    have hd4 : H4 d = some (.dT []) := B6 _ _ ndr (B4 _ _ ndr (by rw [upd_ne (ne_of_none (upd_same (H := H1) (a := d)) hl)]; exact upd_same))
    refine for_range (lo := 0) (n := v3.toNat) (fun i σ H5 => ∃ (kvs : List (List Key × V)) (bs : List Bar) (u4 u5 u6 u7 u8 : Option V), σ = [some (.ref r), some (.int most), some (.int (1 + v)), some (.ref d), u4, u5, u6, u7, u8] ∧ H5 d = some (.dT kvs) ∧ kvs.map (·.1) = bs.map Bar.key ∧ bs.Nodup ∧ (∀ b ∈ bs, b.ok (1 + v)) ∧ bs.length ≤ i ∧ RowOk H5 r sc ∧ But r H H5)
      ⟨[], [], _, _, _, _, _, rfl, hd4, rfl, List.nodup_nil, fun b hb => by simp at hb, Nat.le_refl _, R5, B7⟩ ?_ ?_
    · rintro i σ H5 hi ⟨kvs, bs, u4, u5, u6, u7, u8, rfl, hD, hk, hnd, hok, hlen, R6, B8⟩
      refine ⟨_, rfl, _, rfl, ⟨⟨r, sc, ns, 1 + v, rfl, R6, B8.seqR R S, by omega, by omega, fun a H6 a0 a1 R7 B9 => ?_⟩⟩⟩
      refine ⟨_, rfl, _, rfl, ⟨⟨r, sc, ns, 1 + v, rfl, R7, (B8.trans B9).seqR R S, by omega, by omega, fun o H7 o0 o1 R8 B10 => ?_⟩⟩⟩
      have hD7 : H7 d = some (.dT kvs) := B10 _ _ ndr (B9 _ _ ndr hD)
      have B11 : But r H H7 := (B8.trans B9).trans B10
      refine ⟨_, _, rfl, _, rfl, _, rfl, rfl, _, rfl, ?_⟩
      refine ite2 (fun z => ?_) (fun _ => ?_)
      · have hao : a ≠ o := fun q => by subst q; simp at z
        refine ⟨(by show 2 ≤ sizeLine; decide), fun l1 hl1 => ?_⟩
        have R9 := R8.same (same_upd (o := .lst [V.str "open", V.str "shut"]) hl1)
        have nl1 : l1 ≠ r := by
          obtain ⟨_, _, _, q, _⟩ := id R8.h
          exact (ne_of_none q hl1).symm
        refine ⟨_, rfl, ⟨⟨r, sc, ns, 3, rfl, R9, (B11.trans (sbut (same_upd hl1))).seqR R S, by decide, by decide, fun y H8 y0 y1 R10 B12 => ?_⟩⟩⟩
        obtain ⟨cw, hcw⟩ := two_at (v := y / 2) (by omega) (by omega)
        refine ⟨_, _, rfl, rfl, ⟨by decide, by decide⟩, l1, _, _, _, rfl, rfl, SqL.of (B12 _ _ nl1 upd_same), hcw, ?_⟩
        refine ⟨(by show 2 ≤ sizeLine; decide), fun l2 hl2 => ?_⟩
        have R11 := R10.same (same_upd (o := .lst [V.str "open", V.str "shut"]) hl2)
        have nl2 : l2 ≠ r := by
          obtain ⟨_, _, _, q, _⟩ := id R10.h
          exact (ne_of_none q hl2).symm
        have B13 : But r H7 (upd H8 l2 (.lst [V.str "open", V.str "shut"])) := ((sbut (same_upd hl1)).trans B12).trans (sbut (same_upd hl2))
        refine ⟨_, rfl, ⟨⟨r, sc, ns, 2, rfl, R11, (B11.trans B13).seqR R S, by decide, by decide, fun y2 H9 z0 z1 R12 B14 => ?_⟩⟩⟩
        obtain ⟨ct, hct⟩ := two_at z0 z1
        refine ⟨l2, _, _, _, rfl, rfl, SqL.of (B14 _ _ nl2 upd_same), hct, ?_⟩
        have B15 : But r H7 H9 := B13.trans B14
        have hD9 : H9 d = some (.dT kvs) := B15 _ _ ndr hD7
        refine ⟨_, _, rfl, _, rfl, _, rfl, _, rfl, _, rfl, _, rfl, (by show 4 ≤ sizeLine; decide), fun q hq => ?_⟩
        have hlen2 : kvs.length = bs.length := by
          have := congrArg List.length hk
          rw [List.length_map, List.length_map] at this
          exact this
        refine ⟨d, _, rfl, DPut.t (k := (⟨a, cw, o, ct⟩ : Bar).key) (by rw [upd_ne (ne_of_none hD9 hq)]; exact hD9) upd_same (by rw [hlen2]; exact small1000 (by omega)), ?_⟩
        obtain ⟨bs', g1', g2', g3', g4'⟩ := keys_put (b := ⟨a, cw, o, ct⟩) (.bl true) hk hnd
        have nqr : q ≠ r := by
          obtain ⟨_, _, _, q', _⟩ := id R12.h
          exact (ne_of_none q' hq).symm
        refine ⟨_, bs', _, _, _, _, _, rfl, upd_same, g1', g2', fun b hb => ?_, by omega, ?_, ?_⟩
        · rcases g3' b hb with rfl | hb
          · exact ⟨a0, a1, o0, o1, hao⟩
          · exact hok b hb
        · obtain ⟨i', m', e', q1, q2⟩ := (R12.same (same_upd (o := .tup (⟨a, cw, o, ct⟩ : Bar).vs) hq)).h
          exact ⟨⟨i', m', e', by rw [upd_ne (Ne.symm ndr)]; exact q1, q2⟩⟩
        · refine fun c u hc hH => ?_
          have hcd : c ≠ d := fun z' => by rw [z', hd0] at hH; cases hH
          rw [upd_ne hcd]
          exact same_upd hq _ _ (B15 _ _ hc (B11 _ _ hc hH))
      · exact ⟨kvs, bs, _, _, _, _, _, rfl, hD7, hk, hnd, hok, by omega, R8, B11⟩
    · rintro σ H5 ⟨kvs, bs, u4, u5, u6, u7, u8, rfl, hD, hk, hnd, hok, hlen, R6, B8⟩
      refine ⟨_, rfl, _, rfl, d, kvs, bs, rfl, .inl hD, hk, fun b hb => (hok b hb).low (by omega), fun ks p g1' g2' g3' hp => ?_⟩
      refine ⟨p, _, rfl, .inl ⟨SqL.of upd_same, fun t ht => ?_⟩⟩
      refine ⟨(by show 2 ≤ sizeLine; decide), fun q hq => ?_⟩
      have sp : Same H5 (upd H5 p (.lst (ks.map fun k => V.ref k.1))) := same_upd hp
      have st : Same H5 (upd (upd H5 p (.lst (ks.map fun k => V.ref k.1))) t (.tup (ks.map fun k => V.ref k.1))) := sp.trans (same_upd ht)
      have sq : Same H5 _ := st.trans (same_upd (o := .lst [.int (1 + v), .ref t]) hq)
      obtain ⟨i', m', e', qR, _⟩ := id R6.h
      have nfree : ∀ {c : Addr}, H5 c = none → H c = none := fun {c} hc => by
        cases q' : H c with
        | none => rfl
        | some o =>
          have ncr : c ≠ r := fun z => by rw [z, qR] at hc; cases hc
          rw [B8 c o ncr q'] at hc
          cases hc
      refine k q t (1 + v) ks _ (nfree (st.free hq)) (nfree (sp.free ht)) (by omega) (by omega) upd_same ⟨by rw [upd_ne (ne_of_none upd_same hq)]; exact upd_same, fun kk hkk => sq _ _ (g1' kk hkk)⟩
        (asc_of (by omega) g2' g3' hnd hok) ?_ (R6.same sq) (B8.trans (sbut sq))
      have := g2'.length_eq
      rw [List.length_map] at this
      omega
/-! ### the cabinet of a draw -/
structure spMade (C : Addr) (vs : List V) (H : Hp) (Q : VK) (_ : XK) : Prop where
  h : ∃ (p t : Addr) (n : Int) (ks : List (Addr × Bar)) (zs : List V), vs = [.ref p] ∧ H p = some (.lst (.int n :: .ref t :: zs)) ∧ 1 ≤ n ∧ n ≤ 7 ∧ BarsAt H t ks ∧ OkBars n (ks.map (·.2)) ∧
    ∀ (c : Addr) (H' : Hp), H c = none → CabAt C H' c n t → Same H H' → Q (.ref c) H'
theorem scMade : FnScope ["_law_d"] ["_law_d"] (defScope sMade) := ⟨rfl, rfl, rfl, by decide +kernel, rfl, by decide +kernel, by decide +kernel⟩
theorem ok_made {f fI C : Addr} {fd fdI : FuncData} (F : Fun K "_law_made" "_law_made" sMade f fd) (T : CabT K mg C) (M : Mk K C fI) (G : FnOk P w K mg base CX0 5 fI fdI ["self", "drawers", "bars"] (spInit C)) (bI : Binds K fdI ["self", "drawers", "bars"] []) :
    FnOk P w K mg base CX0 7 f fd ["_law_d"] (spMade C) := by
  refine F.ok scMade (fun vs H Q E h => ?_) (fun cdv A outer s H vs Q E hr h => ?_)
  · obtain ⟨p, t, n, ks, zs, rfl, _⟩ := h.h
    rfl
  · obtain ⟨p, t, n, ks, zs, rfl, hp, h1, h7, B, O, k⟩ := h.h
    refine ⟨_, pss_one (ps_ret (pe_make M G hr rfl T.mgC bI .nil pass0 (pa_cons (pe_ix ix_list (pv 0) pe_int (fun _ _ => rfl)) (pa_cons (pe_ix ix_list (pv 0) pe_int (fun _ _ => rfl)) pa_nil)))), ?_⟩
    refine ⟨_, rfl, p, _, 0, .int n, rfl, rfl, SqL.of hp, atI_nat (j := 0) rfl, _, rfl, p, _, 1, .ref t, rfl, rfl, SqL.of hp, atI_nat (j := 1) rfl, ?_⟩
    intro x dx nx ndx nex
    have s0 : Same H (upd (upd H dx (.own x)) x (.ins C dx [])) := fun b o e => by
      rw [upd_ne (ne_of_none e nx), upd_ne (ne_of_none e ndx)]
      exact e
    refine ⟨⟨x, dx, n, t, ks, rfl, upd_same, h1, h7, B.same s0, O, fun H' hx kp => ⟨rfl, ?_⟩⟩⟩
    exact k x H' nx ⟨dx, hx⟩ fun b o e => kp b o (ne_of_none e nx) (s0 b o e)
end
end DL

set_option Elab.async false
set_option maxRecDepth 100000
namespace DL
open PySem L2
/-! ### rules with the written part named, for blocks within blocks -/
theorem ix_tupK {X : Cx} {K : PySem.W.Frag} (hK : X.K = K) : IxR X (rIxT K) := by subst hK; exact ix_tup
end DL

set_option Elab.async false
set_option maxRecDepth 100000
namespace DL
open PySem L2 HT TL
/-! ### standings: a truth value a drawer (true: open) -/
def sg (b : Bool) : Nat := if b = true then 111 else 115
def sstr (st : List Bool) : Str := ⟨(st.map sg).toArray⟩
def sat (st : List Bool) (i : Int) : Bool := st.getD i.toNat false
def sgn (b : Bool) : Str := if b = true then "s" else "o"
/-- whether the bar stands against the pull -/
def hind (b : Bar) (st : List Bool) (d : Int) : Bool := decide (b.d = d) && ((sat st d == b.w) && (sat st b.o == b.t))
def goesB (bs : List Bar) (st : List Bool) (d : Int) : Bool := !(bs.any fun b => hind b st d)
def flip (st : List Bool) (d : Int) : List Bool := st.set d.toNat (!sat st d)
theorem flip_len (st : List Bool) (d : Int) : (flip st d).length = st.length := by unfold flip; rw [List.length_set]
def drs (n : Nat) : List Int := (List.range n).map fun (i : Nat) => (i : Int)
def freeL (bs : List Bar) (st : List Bool) : List Int := (drs st.length).filter fun d => goesB bs st d
/-- the table of signs -/
structure SgT (K : PySem.W.Frag) (w : World) (mg : Str → Option Value) (aS : Addr) : Prop where
  g : mg "SIGNS" = some (.ref aS)
  o : KDct K w aS "open" (.str "o")
  s : KDct K w aS "shut" (.str "s")
theorem SgT.at {K : PySem.W.Frag} {w : World} {mg : Str → Option Value} {aS : Addr} (T : SgT K w mg aS) (b : Bool) : KDct K w aS (wd b) (.str (sgn b)) := by
  cases b
  · exact T.o
  · exact T.s
end DL

set_option Elab.async false
set_option maxRecDepth 100000
namespace DL
open PySem L2 HT TL
theorem new_at {H : Hp} {a : Addr} {o : HO} (h : H a = none) : Same H (upd H a o) ∧ (upd H a o) a = some o := ⟨same_upd h, upd_same⟩
/-! ### comprehensions that pick, in one word -/
theorem take_pick {α : Type} (p : α → Bool) (v : α → V) {l : List α} {i : Nat} {z : α} (h : l[i]? = some z) :
    ((l.take (i + 1)).filter p).map v = if p z = true then ((l.take i).filter p).map v ++ [v z] else ((l.take i).filter p).map v := by
  obtain ⟨hl, e⟩ := List.getElem?_eq_some_iff.mp h
  rw [List.take_succ_eq_append_getElem hl, List.filter_append, e]
  by_cases q : p z = true
  · rw [if_pos q, List.filter_cons_of_pos q, List.filter_nil, List.map_append]
    rfl
  · rw [if_neg q, List.filter_cons_of_neg q, List.filter_nil, List.append_nil]
theorem lc_pick {α : Type} {J : It} {n : Nat} {G : Hp → Prop} {Y : Nat → Hp → V → Hp → Prop} (wk : Walk J n G Y) (l : List α) (hl : l.length = n) (hn : n ≤ 3000) (p : α → Bool) (v : α → V) {g : TG} {tt : TT} {te : TE} {vs : List Nat} {σ : L2.St} {H1 : Hp} {D : Addr} {Qd : Hp → Prop}
    (hD : H1 D = none) (hG : ∀ H, Same H1 H → G H)
    (hs : ∀ i x z H H' (Tk : V → Hp → Prop) (Nk : Hp → Prop), l[i]? = some z → Same H1 H → Y i H x H' → (∀ H4, p z = true → Same H H4 → Tk (v z) H4) → (∀ H4, p z = false → Same H H4 → Nk H4) →
      g x (wipe σ vs) H' fun σ2 H2 => wipe σ2 vs = wipe σ vs ∧ tt σ2 H2 fun b H3 => if b = true then te σ2 H3 Tk else Nk H3)
    (hd : ∀ H, Same H1 H → H D = some (.lst ((l.filter p).map v)) → Qd H) :
    ∃ W : Nat → Nat → Hp → Prop, (∃ m, W 0 m (upd H1 D (.lst []))) ∧ ∀ i m H, W i m H →
      (J.stop i H ∧ Qd H) ∨ (J.go i H ∧ ∃ Nx : Hp → Prop, (∀ H', Nx H' → ∃ m', m' < m ∧ W (i + 1) m' H') ∧ ∀ x H', J.yld i H x H' → g x (wipe σ vs) H' fun σ2 H2 => wipe σ2 vs = wipe σ vs ∧ tt σ2 H2 fun b H3 =>
        if b = true then te σ2 H3 fun y H4 => ∃ acc, H4 D = some (.lst acc) ∧ acc.length < sizeLine ∧ Nx (upd H4 D (.lst (acc ++ [y]))) else Nx H3) := by
  refine lc_it wk (fun i H' => Same H1 H' ∧ H' D = some (.lst (((l.take i).filter p).map v))) ⟨same_upd hD, upd_same⟩ (fun i H' _ q => hG H' q.1) ?_ ?_
  · rintro i x H H' hi ⟨s1, hD1⟩ y
    have hi' : i < l.length := by omega
    have ez : l[i]? = some l[i] := List.getElem?_eq_getElem hi'
    refine hs i x l[i] H H' _ _ ez s1 y (fun H4 hp s4 => ?_) (fun H4 hp s4 => ?_)
    · refine ⟨_, s4 _ _ hD1, ?_, fun b o e => ?_, ?_⟩
      · rw [List.length_map]
        have h1 := List.length_filter_le p (l.take i)
        rw [List.length_take] at h1
        have h2 : (3000 : Nat) < sizeLine := by decide
        omega
      · rw [upd_ne (ne_of_none e hD)]
        exact s4 _ _ (s1 b o e)
      · rw [upd_same, take_pick p v ez, if_pos hp]
    · refine ⟨s1.trans s4, ?_⟩
      rw [take_pick p v ez, if_neg (by rw [hp]; exact Bool.false_ne_true)]
      exact s4 _ _ hD1
  · rintro H ⟨s1, hD1⟩
    rw [← hl, List.take_length] at hD1
    exact hd H s1 hD1
/-! ### walks over the bars of a tuple -/
end DL

set_option Elab.async false
set_option maxRecDepth 100000
namespace DL
open PySem L2 HT TL
structure CabOk (C : Addr) (H : Hp) (c : Addr) (n : Int) (bs : List Bar) : Prop where
  h : ∃ (t : Addr) (ks : List (Addr × Bar)), CabAt C H c n t ∧ BarsAt H t ks ∧ ks.map (·.2) = bs ∧ OkBars n bs ∧ 1 ≤ n ∧ n ≤ 7 ∧ bs.length ≤ 100
theorem tYes_of {σ : L2.St} {H : Hp} {Q : Bool → Hp → Prop} (h : Q true H) : tYes σ H Q := h
theorem CabOk.same {C : Addr} {H H' : Hp} {c : Addr} {n : Int} {bs : List Bar} (B : CabOk C H c n bs) (s : Same H H') : CabOk C H' c n bs := by
  obtain ⟨t, ks, ⟨dx, h1⟩, h2, h3⟩ := B.h
  exact ⟨⟨t, ks, ⟨dx, s _ _ h1⟩, h2.same s, h3⟩⟩
structure spGetD (C : Addr) (vs : List V) (H : Hp) (Q : VK) (_ : XK) : Prop where
  h : ∃ (c dx : Addr) (n : Int) (t : Addr), vs = [.ref c] ∧ H c = some (.ins C dx (cfl n t)) ∧ Q (.int n) H
structure spGetB (C : Addr) (vs : List V) (H : Hp) (Q : VK) (_ : XK) : Prop where
  h : ∃ (c dx : Addr) (n : Int) (t : Addr), vs = [.ref c] ∧ H c = some (.ins C dx (cfl n t)) ∧ Q (.ref t) H
/-- the two properties of the class -/
structure CabP (P : Program) (w : World) (K : PySem.W.Frag) (mg : Str → Option Value) (base : Heap) (C : Addr) : Prop where
  cl : Cls K C
  d : ∃ p g fd, PropOf K C "drawers" p g ∧ FnOk P w K mg base CX0 1 g fd ["self"] (spGetD C) ∧ Binds K fd ["self"] []
  b : ∃ p g fd, PropOf K C "bars" p g ∧ FnOk P w K mg base CX0 1 g fd ["self"] (spGetB C) ∧ Binds K fd ["self"] []
section
variable {P : Program} {w : World} {K : PySem.W.Frag} {mg : Str → Option Value} {base : Heap}
theorem scDrawers : FnScope ["self"] ["self"] (defScope sDrawers) := ⟨rfl, rfl, rfl, by decide +kernel, rfl, by decide +kernel, by decide +kernel⟩
theorem ok_getD {f C : Addr} {fd : FuncData} (F : Fun K "drawers" "Cabinet.drawers" sDrawers f fd) (T : CabT K mg C) : FnOk P w K mg base CX0 1 f fd ["self"] (spGetD C) := by
  refine F.ok scDrawers (fun vs H Q E h => ?_) (fun cdv A outer s H vs Q E hr h => ?_)
  · obtain ⟨c, dx, n, t, rfl, _⟩ := h.h
    rfl
  · obtain ⟨c, dx, n, t, rfl, hc, k⟩ := h.h
    exact ⟨_, pss_one (ps_ret (pe_fld (pv 0) rfl)), ⟨_, rfl, c, C, dx, _, _, rfl, hc, T.cl, T.nD, cfl_d n t, k⟩⟩
theorem scBars : FnScope ["self"] ["self"] (defScope sBars) := ⟨rfl, rfl, rfl, by decide +kernel, rfl, by decide +kernel, by decide +kernel⟩
theorem ok_getB {f C : Addr} {fd : FuncData} (F : Fun K "bars" "Cabinet.bars" sBars f fd) (T : CabT K mg C) : FnOk P w K mg base CX0 1 f fd ["self"] (spGetB C) := by
  refine F.ok scBars (fun vs H Q E h => ?_) (fun cdv A outer s H vs Q E hr h => ?_)
  · obtain ⟨c, dx, n, t, rfl, _⟩ := h.h
    rfl
  · obtain ⟨c, dx, n, t, rfl, hc, k⟩ := h.h
    exact ⟨_, pss_one (ps_ret (pe_fld (pv 0) rfl)), ⟨_, rfl, c, C, dx, _, _, rfl, hc, T.cl, T.nB, cfl_b n t, k⟩⟩
end
end DL

set_option Elab.async false
set_option maxRecDepth 100000
namespace DL
open PySem L2 HT TL
/-- a drawn cabinet's parts: the list at p -/
structure DrOk (H : Hp) (p : Addr) (n : Int) (bs : List Bar) : Prop where
  h : ∃ (t : Addr) (ks : List (Addr × Bar)) (zs : List V), H p = some (.lst (.int n :: .ref t :: zs)) ∧ BarsAt H t ks ∧ ks.map (·.2) = bs ∧ OkBars n bs ∧ 1 ≤ n ∧ n ≤ 7 ∧ bs.length ≤ 100
theorem DrOk.same {H H' : Hp} {p : Addr} {n : Int} {bs : List Bar} (B : DrOk H p n bs) (s : Same H H') : DrOk H' p n bs := by
  obtain ⟨t, ks, zs, h1, h2, h3⟩ := B.h
  exact ⟨⟨t, ks, zs, s _ _ h1, h2.same s, h3⟩⟩
end DL

set_option Elab.async false
set_option maxRecDepth 100000

set_option Elab.async false
set_option maxRecDepth 100000
namespace DL
open PySem L2 HT TL
/-! ### plain data: what == sees -/
/-- data of so many levels at most, whose texts are texts -/
def dok (k : Nat) (d : PyData) : Prop := d.canLay0 = true ∧ d.depth ≤ k
theorem dok_shaped {k : Nat} {d : PyData} (h : dok k d) (hk : k ≤ 64) : SeqAt.shaped d = true := by
  unfold SeqAt.shaped
  rw [h.1, decide_eq_true (Nat.le_trans h.2 hk)]
  rfl
theorem dok_all {k : Nat} : ∀ {ds : List PyData}, (∀ d ∈ ds, dok k d) → PyData.canLayAll0 ds = true ∧ PyData.depthAll ds ≤ k
  | [], _ => ⟨by simp [PyData.canLayAll0], by simp [PyData.depthAll]⟩
  | d :: ds, h => by
    obtain ⟨h1, h2⟩ := dok_all (ds := ds) fun e he => h e (List.mem_cons_of_mem _ he)
    obtain ⟨h3, h4⟩ := h d List.mem_cons_self
    refine ⟨by simp [PyData.canLayAll0, h1, h3], ?_⟩
    simp only [PyData.depthAll]
    omega
theorem dok_tuple {k : Nat} {ds : List PyData} (h : ∀ d ∈ ds, dok k d) : dok (k + 1) (.tuple ds) := by
  obtain ⟨h1, h2⟩ := dok_all h
  exact ⟨by simpa [PyData.canLay0] using h1, by simp only [PyData.depth]; omega⟩
theorem dok_int (i : Int) : dok 1 (.int i) := ⟨by simp [PyData.canLay0], by simp [PyData.depth]⟩
end DL
namespace DL
open PySem L2 HT TL
theorem dok_str {z : Str} (h : PyData.strOk z = true) : dok 1 (.str z) := ⟨by simpa [PyData.canLay0] using h, by simp [PyData.depth]⟩
theorem wd_strOk (b : Bool) : PyData.strOk (wd b) = true := by revert b; decide +kernel
def barD (b : Bar) : PyData := .tuple [.int b.d, .str (wd b.w), .int b.o, .str (wd b.t)]
theorem dok_bar (b : Bar) : dok 2 (barD b) := dok_tuple fun d hd => by
  simp only [List.mem_cons, List.not_mem_nil, or_false] at hd
  rcases hd with rfl | rfl | rfl | rfl
  · exact dok_int _
  · exact dok_str (wd_strOk _)
  · exact dok_int _
  · exact dok_str (wd_strOk _)
theorem dp_bar {K : PySem.W.Frag} {H : Hp} {a : Addr} {b : Bar} (h : SqT K H a b.vs) : Dp K H (.ref a) (barD b) := .tup h (.cons (.int _) (.cons (.str _) (.cons (.int _) (.cons (.str _) .nil))))
theorem dpAll_bars {K : PySem.W.Frag} {H : Hp} : ∀ {ks : List (Addr × Bar)}, (∀ k ∈ ks, H k.1 = some (.tup k.2.vs)) → DpAll K H (ks.map fun k => V.ref k.1) (ks.map fun k => barD k.2)
  | [], _ => .nil
  | k :: ks, h => .cons (dp_bar (SqT.of' (h k List.mem_cons_self))) (dpAll_bars fun j hj => h j (List.mem_cons_of_mem _ hj))
theorem dok_bars (ks : List (Addr × Bar)) : ∀ d ∈ ks.map (fun k => barD k.2), dok 2 d := fun d hd => by
  obtain ⟨k, _, rfl⟩ := List.mem_map.mp hd
  exact dok_bar k.2
theorem eqv_self {k : Nat} {d : PyData} (h : dok k d) : PyData.eqv d d = true := SeqAt.eqv_refl d h.1
end DL

set_option Elab.async false
set_option maxRecDepth 100000
namespace DL
open PySem L2 HT TL
/-! ### the checks -/
/-- isinstance of a cabinet -/
structure CabI (K : PySem.W.Frag) (mg : Str → Option Value) (C : Addr) : Prop where
  cl : Cls K C
  mgC : mg "Cabinet" = some (.ref C)
  ha : PySem.W.findIn K (.ref C) "__class__" = some (some (.builtin "object.__class__"))
  hn : PySem.W.specialIn K (.builtin "object.__class__") "__get__" = some (some (.builtin "getset_descriptor.__get__"))
  htk : PySem.W.takesIn K (.builtin "object.__class__") = some true
  hm : PySem.W.mroIn K C (.type "object") = some true
  kk : PySem.W.kitOne K (.ref C) (.ref C) = some true
structure spCkCab (C : Addr) (vs : List V) (H : Hp) (Q : VK) (_ : XK) : Prop where
  h : ∃ (c : Addr) (n : Int) (t : Addr), vs = [.ref c] ∧ CabAt C H c n t ∧ Q .non H
section
variable {P : Program} {w : World} {K : PySem.W.Frag} {mg : Str → Option Value} {base : Heap}
theorem scCkCab : FnScope ["cabinet"] ["cabinet"] (defScope s_check_cabinet) := ⟨rfl, rfl, rfl, by decide +kernel, rfl, by decide +kernel, by decide +kernel⟩
theorem ok_ckCab {f C : Addr} {fd : FuncData} (F : Fun K "check_cabinet" "check_cabinet" s_check_cabinet f fd) (T : Bt mg) (I : CabI K mg C) : FnOk P w K mg base CX0 1 f fd ["cabinet"] (spCkCab C) := by
  refine F.ok scCkCab (fun vs H Q E h => ?_) (fun cdv A outer s H vs Q E hr h => ?_)
  · obtain ⟨c, n, t, rfl, _⟩ := h.h
    rfl
  · obtain ⟨c, n, t, rfl, ⟨dx, hc⟩, k⟩ := h.h
    refine ⟨_, pss_one (ps_if (pt_not (pt_val (pe_callB call_isi (by rfl) T.isinstance (by decide +kernel) (pa_cons (pv 0) (pa_cons (pe_glob (v := .ref C) rfl I.mgC rfl) pa_nil))))) (pss_one ps_never) pss_nil), ?_⟩
    exact ⟨_, rfl, _, _, _, _, true, rfl, .own C, .base (.ins hc I.cl I.ha I.hn I.htk I.hm), I.kk, _, rfl, iteF k⟩
end
end DL

set_option Elab.async false
set_option maxRecDepth 100000
set_option maxHeartbeats 1000000

set_option Elab.async false
set_option maxRecDepth 100000
set_option maxHeartbeats 1000000
namespace DL
open PySem PySem.Spec PyProof.Rows L2
/-! ### {x}: None or a number -/
theorem small_log {i : Int} (h0 : 0 ≤ i) (h1 : i ≤ 1000) : i.natAbs.log2 < 1920 := by
  have : i.natAbs < 2 ^ 1920 := Nat.lt_of_le_of_lt (show i.natAbs ≤ 1000 by omega) (by decide +kernel)
  by_cases z : i.natAbs = 0
  · rw [z]; decide
  · exact (Nat.log2_lt z).mpr this
end DL

set_option Elab.async false
set_option maxRecDepth 100000
set_option maxHeartbeats 1000000
namespace DL
open PySem L2
/-! ### the checks with what they raise -/
/-- the raised error: its dict is new -/
def exBad (CB : Addr) (x : V) (H : Hp) (E : XK) : Prop := ∀ (d : Addr) (H' : Hp), H d = none → Same H H' → H' d = some (.xd [("index", x)]) → E (.ref CB) (some d) H'
structure spCkDX (K : PySem.W.Frag) (CD : Addr) (vs : List V) (H : Hp) (Q : VK) (E : XK) : Prop where
  h : (∃ n : Int, vs = [.int n] ∧ (1 ≤ n ∧ n ≤ 7 → Q .non H) ∧ (¬ (1 ≤ n ∧ n ≤ 7) → E (.ref CD) none H)) ∨
  ∃ (v : V) (t : Value) (b1 b2 : Bool), vs = [v] ∧ TyX K H v t ∧ PySem.W.kitOne K t (.type "int") = some b1 ∧ PySem.W.kitOne K t (.type "bool") = some b2 ∧ (b1 && !b2) = false ∧ E (.ref CD) none H
/-- what is_bar says False of -/
def NoBar (K : PySem.W.Frag) (H : Hp) (n : Int) (v : V) : Prop := (∃ t : Value, TyX K H v t ∧ PySem.W.kitOne K t (.type "tuple") = some false) ∨
  (∃ (a : Addr) (xs : List V), v = .ref a ∧ SqT K H a xs ∧ xs.length ≠ 4) ∨
  ∃ (a : Addr) (x0 x1 x2 x3 : V), v = .ref a ∧ SqT K H a [x0, x1, x2, x3] ∧ scV x0 = true ∧ scV x1 = true ∧ scV x2 = true ∧ scV x3 = true ∧ barB n x0 x1 x2 x3 = false
theorem NoBar.sp {K : PySem.W.Frag} {H : Hp} {n : Int} {v : V} {Q : VK} {E : XK} (h : NoBar K H n v) (k : Q (.bl false) H) : spIsBar K [.int n, v] H Q E := by
  rcases h with ⟨t, h1, h2⟩ | ⟨a, xs, rfl, h1, h2⟩ | ⟨a, x0, x1, x2, x3, rfl, h1, c0, c1, c2, c3, h2⟩
  · exact ⟨⟨n, .inl ⟨v, t, rfl, h1, h2, k⟩⟩⟩
  · exact ⟨⟨n, .inr (.inl ⟨a, xs, rfl, h1, h2, k⟩)⟩⟩
  · exact ⟨⟨n, .inr (.inr ⟨a, x0, x1, x2, x3, rfl, h1, c0, c1, c2, c3, by rw [h2]; exact k⟩)⟩⟩
/-- wrong bars, no tuple: None; else the first wrong one stands behind good ones -/
structure spCkBX (K : PySem.W.Frag) (CB : Addr) (vs : List V) (H : Hp) (Q : VK) (E : XK) : Prop where
  h : (∃ (n : Int) (t : Addr) (ks : List (Addr × Bar)), vs = [.int n, .ref t] ∧ n ≤ 7 ∧ BarsAt H t ks ∧ OkBars n (ks.map (·.2)) ∧ ∀ H', Same H H' → Q .non H') ∨
  (∃ (n : Int) (v : V) (t : Value), vs = [.int n, v] ∧ TyX K H v t ∧ PySem.W.kitOne K t (.type "tuple") = some false ∧ exBad CB .non H E) ∨
  ∃ (n : Int) (t : Addr) (ks : List (Addr × Bar)) (x : V) (ys : List V), vs = [.int n, .ref t] ∧ n ≤ 7 ∧ H t = some (.tup ((ks.map fun k => V.ref k.1) ++ x :: ys)) ∧ (∀ k ∈ ks, H k.1 = some (.tup k.2.vs)) ∧ OkBars n (ks.map (·.2)) ∧ ks.length ≤ 100 ∧
    ((∀ H', Same H H' → NoBar K H' n x) ∨ ∃ (a : Addr) (b : Bar) (kp : Addr × Bar), x = .ref a ∧ H a = some (.tup b.vs) ∧ b.ok n ∧ 0 < ks.length ∧ ks[ks.length - 1]? = some kp ∧ b.leq kp.2 = true) ∧ ∀ H', Same H H' → exBad CB (.int ks.length) H' E
end DL

set_option Elab.async false
set_option maxRecDepth 100000
set_option maxHeartbeats 1000000
namespace DL
open PySem L2
/-! ### == of cabinets, by their own def -/
/-- x == y, x a plain instance, its def for == at g; what y is, is known -/
def rEqOwn (K : PySem.W.Frag) (C : Addr) (sp : Sp) (E : XK) : R2 := fun x y H Q => ∃ (a dx : Addr) (fs : List (Str × V)) (t : Value), x = .ref a ∧ H a = some (.ins C dx fs) ∧ TyX K H y t ∧ PySem.W.notFirst K C t = true ∧ sp [x, y] H Q E
theorem op_eqOwn {X : Cx} {CX : CXT} {C g : Addr} {fd : FuncData} {n : Nat} {ps : List Str} {sp : Sp} {E : XK} (hs : PySem.W.findIn X.K (.ref C) "__eq__" = some (some (.ref g))) (hf : PySem.W.isFn X.K (.ref g) = true)
    (F : FnOk X.prog X.w X.K X.mg X.base CX n g fd ps sp) (hb : Binds X.K fd ps []) (hr : Room n X.A) (hx : Passes CX X E) : OpR X (compareOp .Eq) (rEqOwn X.K C sp E) := by
  rintro pins s σ H _ y v u Q I rx ry ⟨a, dx, fs, t, rfl, ha, ty, hn, q⟩
  obtain rfl : v = Value.ref a := rx
  obtain ⟨_, O, _⟩ := ins_get I.hok ha
  obtain ⟨_, J, _⟩ := O.look
  obtain ⟨_, Z, p, _⟩ := kit_of I ry ty
  obtain ⟨_, hF⟩ := I.fr
  refine PySem.W.cmp_K (op := .Eq) hr.units0 hF I.ok.mod.kin J (Z.ty _ _ I.kIn p) hn hs hf ?_
  refine wpAny_mono (run_fn (Q := Q) (us := [.ref a, u]) (vs := [.ref a, y]) F hr hb .nil hx I (.cons rfl (.cons ry .nil)) (by simpa using q)) (fun c s' hh => ?_) fun _ _ x => x
  obtain ⟨z, H', I', rz, k⟩ := hh
  exact SlX.cmpback rz ⟨z, H', I', rz, k⟩
/-- the class's own == -/
structure spEqC (K : PySem.W.Frag) (C : Addr) (vs : List V) (H : Hp) (Q : VK) (_ : XK) : Prop where
  h : ∃ (a dx : Addr) (n : Int) (t : Addr) (y : V), vs = [.ref a, y] ∧ H a = some (.ins C dx (cfl n t)) ∧
    ((∃ u : Value, TyX K H y u ∧ PySem.W.kitOne K u (.ref C) = some false ∧ Q (.bl false) H) ∨
     (∃ (b dy : Addr) (m : Int) (r : Addr) (ks js : List (Addr × Bar)), y = .ref b ∧ H b = some (.ins C dy (cfl m r)) ∧ BarsAt H t ks ∧ BarsAt H r js ∧
       Q (.bl (decide (n = m) && PyData.eqv (.tuple (ks.map fun k => barD k.2)) (.tuple (js.map fun k => barD k.2)))) H))
section
variable {P : Program} {w : World} {K : PySem.W.Frag} {mg : Str → Option Value} {base : Heap}
theorem scEq : FnScope ["self", "other"] ["self", "other"] (defScope sEq) := ⟨rfl, rfl, rfl, by decide +kernel, rfl, by decide +kernel, by decide +kernel⟩
theorem ok_eqC {f C : Addr} {fd : FuncData} (F : Fun K "__eq__" "Cabinet.__eq__" sEq f fd) (T : Bt mg) (T2 : CabT K mg C) (I : CabI K mg C) : FnOk P w K mg base CX0 1 f fd ["self", "other"] (spEqC K C) := by
  refine F.ok scEq (fun vs H Q E h => ?_) (fun cdv A outer s H vs Q E hr h => ?_)
  · obtain ⟨a, dx, n, t, y, rfl, _⟩ := h.h
    rfl
  · obtain ⟨a, dx, n, t, y, rfl, ha, h⟩ := h.h
    have hu : _ + 64 < cLine := hr.units
    refine ⟨_, pss_one (ps_ret (pe_and (pe_callB call_isi (by rfl) T.isinstance (by decide +kernel) (pa_cons (pv 1) (pa_cons (pe_glob (v := .ref C) rfl I.mgC rfl) pa_nil)))
      (pe_and (pe_cmpR op_eq (pe_fld (pv 0) rfl) (pe_fld (pv 1) rfl) (nomark _)) (pe_one (pe_cmpR (op_eqD hu) (pe_fld (pv 0) rfl) (pe_fld (pv 1) rfl) (nomark _)))))), ?_⟩
    rcases h with ⟨u, ty, ku, k⟩ | ⟨b, dy, m, r, ks, js, rfl, hb, hB, hJ, k⟩
    · refine ⟨_, rfl, _, _, _, _, false, rfl, .own C, ty, ku, _, rfl, iteF k⟩
    · refine ⟨_, rfl, _, _, _, _, true, rfl, .own C, .base (.ins hb I.cl I.ha I.hn I.htk I.hm), I.kk, _, rfl, iteT ?_⟩
      refine ⟨_, rfl, a, C, dx, _, _, rfl, ha, I.cl, T2.nD, cfl_d n t, _, rfl, b, C, dy, _, _, rfl, hb, I.cl, T2.nD, cfl_d m r, rfl, _, rfl, ?_⟩
      have e : decide ((.int n : V) = .int m) = decide (n = m) := by rw [dec_int]; rfl
      rw [e]
      cases d : decide (n = m) with
      | false => rw [d] at k; exact iteF k
      | true =>
        rw [d] at k
        refine iteT ⟨_, rfl, a, C, dx, _, _, rfl, ha, I.cl, T2.nB, cfl_b n t, _, rfl, b, C, dy, _, _, rfl, hb, I.cl, T2.nB, cfl_b m r, ?_⟩
        exact ⟨_, _, .tup (SqT.of' hB.tu) (dpAll_bars hB.el), .tup (SqT.of' hJ.tu) (dpAll_bars hJ.el), dok_shaped (dok_tuple (dok_bars ks)) (by decide), dok_shaped (dok_tuple (dok_bars js)) (by decide), k⟩
end
end DL

set_option Elab.async false
set_option maxRecDepth 100000

set_option Elab.async false
set_option maxRecDepth 100000
set_option maxHeartbeats 1000000

set_option Elab.async false
set_option maxRecDepth 100000
namespace DL
open PySem PySem.Spec PyProof.Rows L2
/-! ### text * number -/
theorem op_mul_str {X : Cx} : OpR X (binaryOp .Mult) (fun x y H Q => ∃ (z : Str) (n : Int), x = .str z ∧ y = .int n ∧ MulOk z n ∧ Q (.str (Txt.mul z n)) H) := by
  intro pins s σ H x y v u Q I rx ry h
  obtain ⟨z, n, rfl, rfl, ok, q⟩ := h
  obtain ⟨t, rfl⟩ := rx
  obtain ⟨t', rfl⟩ := ry
  exact SB.mul ok fun t2 k => ⟨.str _, H, I.tok k, ⟨_, rfl⟩, q⟩
/-! ### for a, b in zip(x, y), two texts -/
end DL

set_option Elab.async false
set_option maxRecDepth 100000
namespace DL
open PySem L2 HT TL
/-! ### patterns and rows -/
theorem pg_tupK {X : Cx} {K : PySem.W.Frag} {pos : Pos} {es : List Expr} {k : Nat} {t : TGs} {n : Nat} (hK : X.K = K) (hc : X.calm = true) (h : PGs X es t) (h1 : (assignEach es X.env).length = n := by rfl) (h2 : List.findIdx? (fun x => x.1) (assignEach es X.env) = none := by rfl) :
    PG X (.Tuple es k pos) (gTup K n t) := by subst hK; exact pg_tup hc h h1 h2
theorem SqT.same {K : PySem.W.Frag} {H H' : Hp} {a : Addr} {xs : List V} (s : Same H H') (h : SqT K H a xs) : SqT K H' a xs := by
  rcases h with (h | ⟨o, h⟩) | h
  · exact .inl (.inl (s _ _ h))
  · exact .inl (.inr ⟨o, s _ _ h⟩)
  · exact .inr h
def runB (bs : List Bar) (st : List Bool) : List Int → Option (List Bool)
  | [] => some st
  | d :: ds => if goesB bs st d = true then runB bs (flip st d) ds else none
theorem runB_cons (bs : List Bar) (st : List Bool) (d : Int) (ds : List Int) : runB bs st (d :: ds) = if goesB bs st d = true then runB bs (flip st d) ds else none := rfl
end DL

set_option Elab.async false
set_option maxRecDepth 100000

set_option Elab.async false
set_option maxRecDepth 100000
namespace DL
open PySem L2 HT TL
/-! ### a drawn cabinet: its parts at p, itself at c; the row of draws at r -/
structure Lay (C r p c : Addr) (H : Hp) (n : Int) (bs : List Bar) : Prop where
  h : ∃ (t : Addr) (ks : List (Addr × Bar)) (zs : List V), H p = some (.lst (.int n :: .ref t :: zs)) ∧ CabAt C H c n t ∧ BarsAt H t ks ∧ ks.map (·.2) = bs ∧ OkBars n bs ∧ 1 ≤ n ∧ n ≤ 7 ∧ bs.length ≤ 100 ∧ p ≠ r
theorem Lay.but {C r sc p c : Addr} {H H' : Hp} {n : Int} {bs : List Bar} (L : Lay C r p c H n bs) (R : RowOk H r sc) (B : But r H H') : Lay C r p c H' n bs := by
  obtain ⟨t, ks, zs, h1, ⟨dx, h2⟩, h3, h4, h5, h6, h7, h8, h9⟩ := L.h
  obtain ⟨i, m, e, hR, _⟩ := R.h
  exact ⟨⟨t, ks, zs, B _ _ h9 h1, ⟨dx, B _ _ (ne_of h2 hR (by intro z; cases z)) h2⟩, ⟨B.tup hR h3.tu, fun k hk => B.tup hR (h3.el k hk)⟩, h4, h5, h6, h7, h8, h9⟩⟩
theorem Lay.same {C r p c : Addr} {H H' : Hp} {n : Int} {bs : List Bar} (L : Lay C r p c H n bs) (s : Same H H') : Lay C r p c H' n bs := by
  obtain ⟨t, ks, zs, h1, ⟨dx, h2⟩, h3, h4⟩ := L.h
  exact ⟨⟨t, ks, zs, s _ _ h1, ⟨dx, s _ _ h2⟩, h3.same s, h4⟩⟩
theorem Lay.n1 {C r p c : Addr} {H : Hp} {n : Int} {bs : List Bar} (L : Lay C r p c H n bs) : 1 ≤ n ∧ n ≤ 7 := by
  obtain ⟨t, ks, zs, h1, h2, h3, h4, h5, h6, h7, h8⟩ := L.h
  exact ⟨h6, h7⟩
theorem free_in {bs : List Bar} {st : List Bool} {d : Int} (h : d ∈ freeL bs st) : 0 ≤ d ∧ d < st.length := by
  have hm := (List.mem_filter.mp h).1
  unfold drs at hm
  obtain ⟨i, hi, rfl⟩ := List.mem_map.mp hm
  have := List.mem_range.mp hi
  omega
end DL

set_option Elab.async false
set_option maxRecDepth 100000
set_option maxHeartbeats 1000000
namespace DL
open PySem L2 HT TL
/-! ### forms of single values: standings, tries, whatever they are -/
def sgnB (n : Int) (z : Str) : V → Bool
  | .str y => decide ((y.length : Int) = n) && y.cps.toList.all fun c => decide (c ∈ z.cps.toList)
  | _ => false
end DL

set_option Elab.async false
set_option maxRecDepth 100000
namespace DL
open PySem L2 HT TL RZ
/-! ### sets of drawers -/
/-- a set: its drawers stand at a -/
structure SetAt (K : PySem.W.Frag) (H : Hp) (n : Int) (a : Addr) (ns : List Int) : Prop where
  at' : SqT K H a (ns.map V.int)
  low : ∀ d ∈ ns, 0 ≤ d ∧ d < n
  asc : ns.Pairwise (· < ·)
theorem SetAt.same {K : PySem.W.Frag} {H H' : Hp} {n : Int} {a : Addr} {ns : List Int} (S : SetAt K H n a ns) (s : Same H H') : SetAt K H' n a ns := ⟨SqT.same s S.at', S.low, S.asc⟩
end DL

set_option Elab.async false
set_option maxRecDepth 100000

set_option Elab.async false
set_option maxRecDepth 100000
set_option maxHeartbeats 1000000

set_option Elab.async false
set_option maxRecDepth 100000
set_option maxHeartbeats 1000000

set_option Elab.async false
set_option maxRecDepth 100000
set_option maxHeartbeats 1000000
namespace DL
open PySem L2 HT TL
/-! ### standings, patterns, drawers, lengths that are refused, whatever they are -/
def NoStr (K : PySem.W.Frag) (H : Hp) (v : V) : Prop := ∃ t, (∀ H', Same H H' → TyX K H' v t) ∧ PySem.W.kitOne K t (.type "str") = some false
def BadSgn (K : PySem.W.Frag) (z : Str) (H : Hp) (n : Int) (v : V) : Prop := NoStr K H v ∨ ∃ y, v = .str y ∧ y.length ≤ 1000 ∧ sgnB n z (.str y) = false
theorem BadSgn.same {K : PySem.W.Frag} {z : Str} {H H' : Hp} {n : Int} {v : V} (h : BadSgn K z H n v) (s : Same H H') : BadSgn K z H' n v := by
  rcases h with ⟨t, h1, h2⟩ | h
  · exact .inl ⟨t, fun H2 s2 => h1 H2 (s.trans s2), h2⟩
  · exact .inr h
end DL

set_option Elab.async false
set_option maxRecDepth 100000
set_option maxHeartbeats 2000000
namespace DL
open PySem PySem.Spec PyProof.Rows L2 HT TL
/-! ### words and lines -/
/-- the words of a line: what stands between spaces, if anything -/
def wordsL (z : Str) : List Str := (Txt.split z " ").filter fun x => !decide (x = "")
structure spWordsOf (vs : List V) (H : Hp) (Q : VK) (_ : XK) : Prop where
  h : ∃ z : Str, vs = [.str z] ∧ z.length ≤ 1000 ∧ (Txt.split z " ").length ≤ 1000 ∧ ∀ (l : Addr) (H' : Hp), H l = none → Same H H' → H' l = some (.lst ((wordsL z).map V.str)) → Q (.ref l) H'
section
variable {P : Program} {w : World} {K : PySem.W.Frag} {mg : Str → Option Value} {base : Heap}
theorem scWOg : FnScope ["line", "word"] ["line"] (defScope s_words_of) := ⟨rfl, rfl, rfl, by decide +kernel, rfl, by decide +kernel, by decide +kernel⟩
theorem ok_wordsOf {f : Addr} {fd : FuncData} (F : Fun K "words_of" "words_of" s_words_of f fd) : FnOk P w K mg base CX0 1 f fd ["line"] spWordsOf := by
  refine F.ok scWOg (fun vs H Q E h => ?_) (fun cdv A outer s H vs Q E hr h => ?_)
  · obtain ⟨z, rfl, _⟩ := h.h
    rfl
  · obtain ⟨z, rfl, z1, z2, k⟩ := h.h
    refine ⟨_, pss_one (ps_ret (pe_lc (own := [("word", 1)]) (g := gName 1) (by rfl) scWOg.nd (pi_list (pe_m1 PySem.F.slot_str_split PySem.F.type_str_split mt_split (pv 0) pe_str)) (blkOk_by (N := ["line", "word"]) (sc := defScope s_words_of) (by decide +kernel)) (fun _ _ _ _ _ => pg_name (i := 1) scWOg.nd rfl (Or.inl rfl))
      (fun _ _ _ _ _ => pts_one (pt_cmpR op_ne (pv 1) pe_str (nomark _))) (fun _ _ _ _ _ => pv 1))), ?_⟩
    refine ⟨_, rfl, ⟨_, rfl⟩, z, " ", rfl, rfl, rfl, Nat.le_trans (Nat.add_le_add_right z1 2) (by decide), fun p hp => ?_⟩
    obtain ⟨s1, f1⟩ := new_at (o := .lst ((Txt.split z " ").map V.str)) hp
    generalize upd H p (.lst ((Txt.split z " ").map V.str)) = H1 at s1 f1 ⊢
    refine ⟨p, rfl, ⟨_, SqL.of f1⟩, fun D nD => ?_⟩
    refine lc_pick (walk_list (K := K) (a := p) (xs := (Txt.split z " ").map V.str)) (Txt.split z " ") (by rw [List.length_map]) (by rw [List.length_map]; omega) (fun x => !decide (x = "")) V.str nD (fun H' s => SqL.of (s _ _ f1)) ?_ ?_
    · rintro i x y H2 H3 Tk Nk ez s ⟨rfl, ex⟩ kT kF
      rw [List.getElem?_map, ez] at ex
      cases ex
      refine ⟨rfl, _, rfl, rfl, _, rfl, ?_⟩
      by_cases q : y = ""
      · subst q
        rw [decide_eq_true rfl]
        exact iteF (kF _ (by simp) (Same.refl _))
      · rw [decide_eq_false fun e => q (by injection e)]
        exact iteT ⟨_, rfl, kT _ (by simp [q]) (Same.refl _)⟩
    · intro H2 s2 hD
      refine k D H2 ?_ (s1.trans s2) hD
      cases q : H D with
      | none => rfl
      | some o => rw [s1 _ _ q] at nD; cases nD
/-- a choice: the texts that may stand there -/
def ChoAt (K : PySem.W.Frag) (H : Hp) (a : Addr) (cs : List Str) : Prop := SqL K H a (cs.map V.str) ∨ SqT K H a (cs.map V.str)
theorem op_notInK9 {X : Cx} {K : PySem.W.Frag} (hK : X.K = K) : OpR X (compareOp .NotIn) (rIn K true) := by subst hK; exact op_notIn_seq
theorem sl_listK9 {X : Cx} {K : PySem.W.Frag} (hK : X.K = K) : SlR X (rSlL K) := by subst hK; exact sl_list
structure spWordsIn (K : PySem.W.Frag) (vs : List V) (H : Hp) (Q : VK) (_ : XK) : Prop where
  h : ∃ (ln : Int) (l a : Addr) (ws : List Str) (cs : List (Addr × List Str)), vs = [.int ln, .ref l, .ref a] ∧ H l = some (.lst (ws.map V.str)) ∧ H a = some (.lst (cs.map fun c => V.ref c.1)) ∧ (∀ c ∈ cs, ∀ H', Same H H' → ChoAt K H' c.1 c.2) ∧ ws.length = cs.length ∧ ws.length ≤ 100 ∧
    (∀ (i : Nat) (x : Str) (c : Addr × List Str), ws[i]? = some x → cs[i]? = some c → x ∈ c.2) ∧ ∀ H', Same H H' → Q .non H'
abbrev nCkWs : List Str := ["line", "words", "allowed", "place", "word", "choices"]
theorem scCkWs : FnScope nCkWs ["line", "words", "allowed"] (defScope s_check_words) := ⟨rfl, rfl, rfl, by decide +kernel, rfl, by decide +kernel, by decide +kernel⟩
theorem inV_mem9 (x : Str) (cs : List Str) : inV (.str x) (cs.map V.str) = decide (x ∈ cs) := by
  unfold inV
  rw [Bool.eq_iff_iff, List.any_eq_true, decide_eq_true_eq]
  constructor
  · rintro ⟨y, hy, e⟩
    obtain ⟨z, hz, rfl⟩ := List.mem_map.mp hy
    have : z = x := by simpa [eqV] using e
    rw [← this]
    exact hz
  · intro h
    exact ⟨.str x, List.mem_map_of_mem h, by simp [eqV]⟩
theorem ok_ckWordsIn {f : Addr} {fd : FuncData} (F : Fun K "check_words" "check_words" s_check_words f fd) (T : Bt mg) (zZ : mg "zip" = none) : FnOk P w K mg base CX0 4 f fd ["line", "words", "allowed"] (spWordsIn K) := by
  refine F.ok scCkWs (fun vs H Q E h => ?_) (fun cdv A outer s H vs Q E hr h => ?_)
  · obtain ⟨ln, l, a, ws, cs, rfl, _⟩ := h.h
    rfl
  · obtain ⟨ln, l, a, ws, cs, rfl, hl, ha, hc, hlen, h100, hin, k⟩ := h.h
    refine ⟨_, pss_cons (ps_for PassesOwn.never rfl (pi_ez (by rfl) T.enumerate (by rfl) zZ (pa_cons (pv 1) (pa_cons (pv 2) pa_nil)) (by decide) (by decide)) (pg_tup (by rfl) (pgs_cons (pg_name (i := 3) scCkWs.nd rfl (Or.inl rfl)) (pgs_cons (pg_tup (by rfl) (pgs_cons (pg_name (i := 4) scCkWs.nd rfl (Or.inl rfl)) (pgs_cons (pg_name (i := 5) scCkWs.nd rfl (Or.inl rfl)) pgs_nil))) pgs_nil)))
        (pss_one (ps_if (pt_cmpR op_notIn_seq (pv 4) (pv 5) (by rfl)) pss_never pss_nil)))
      (pss_one (ps_if (pt_cmpR op_ne (pe_callB call_len_seq (by rfl) T.len (by decide +kernel) (pa_cons (pv 1) pa_nil)) (pe_callB call_len_seq (by rfl) T.len (by decide +kernel) (pa_cons (pv 2) pa_nil)) (nomark _)) pss_never pss_nil)), ?_⟩
    refine ⟨_, rfl, _, rfl, l, a, _, _, rfl, SqL.of hl, SqL.of ha, ?_⟩
    refine for_it (walk_ez (xs := ws.map V.str) (ys := cs.map fun c => V.ref c.1)) (fun i σ H' => ∃ v3 v4 v5 : Option V, σ = [some (.int ln), some (.ref l), some (.ref a), v3, v4, v5] ∧ Same H H') ⟨_, _, _, rfl, Same.refl _⟩ (fun i σ H' _ ⟨_, _, _, _, s⟩ => ⟨SqL.of (s _ _ hl), SqL.of (s _ _ ha)⟩) ?_ ?_
    · rintro i x σ H1 H2 hi ⟨v3, v4, v5, rfl, s1⟩ ⟨Tt, U, y, z, rfl, nT, nU, nTU, rfl, hy, hz⟩
      rw [List.getElem?_map] at hy hz
      cases ey : ws[i]? with
      | none => rw [ey] at hy; cases hy
      | some wd =>
        rw [ey] at hy
        cases hy
        cases ec : cs[i]? with
        | none => rw [ec] at hz; cases hz
        | some c =>
          rw [ec] at hz
          cases hz
          have nU' : (upd H1 Tt (.tup [.int (1 + (i : Nat)), .ref U])) U = none := by rw [upd_ne nTU.symm]; exact nU
          obtain ⟨s2, fU⟩ := new_at (o := .tup [.str wd, .ref c.1]) nU'
          have fT : (upd (upd H1 Tt (.tup [.int (1 + (i : Nat)), .ref U])) U (.tup [.str wd, .ref c.1])) Tt = some (.tup [.int (1 + (i : Nat)), .ref U]) := by rw [upd_ne nTU]; exact upd_same
          have s3 := (s1.trans (same_upd nT)).trans s2
          generalize upd (upd H1 Tt (.tup [.int (1 + (i : Nat)), .ref U])) U (.tup [.str wd, .ref c.1]) = H3 at fU fT s3 ⊢
          refine ⟨Tt, _, rfl, SqT.of' fT, rfl, _, _, rfl, _, _, rfl, ⟨U, _, rfl, SqT.of' fU, rfl, _, _, rfl, _, _, rfl, rfl, rfl, ?_⟩⟩
          have mem := hin i wd c ey ec
          refine ⟨_, rfl, _, rfl, c.1, c.2.map V.str, rfl, hc c (List.mem_of_getElem? ec) H3 s3, rfl, by simp [flatV], ?_⟩
          rw [inV_mem9, decide_eq_true mem]
          exact ⟨_, rfl, iteF ⟨_, _, _, rfl, s3⟩⟩
    · rintro σ H1 ⟨v3, v4, v5, rfl, s1⟩
      refine ⟨_, rfl, l, _, rfl, .inl (SqL.of (s1 _ _ hl)), _, rfl, a, _, rfl, .inl (SqL.of (s1 _ _ ha)), ?_⟩
      rw [List.length_map, List.length_map, hlen]
      refine ⟨rfl, _, rfl, ?_⟩
      rw [decide_eq_true rfl]
      exact iteF (k H1 s1)
/-- the text of a figure -/
def fig (n : Int) : Str := toString n
theorem fig_back {n : Int} (h0 : 0 ≤ n) (h7 : n ≤ 7) : PySem.intText? (fig n) = some n ∧ (fig n).length ≤ 640 := by
  have z : ∀ m : Fin 8, PySem.intText? (fig ((m.val : Nat) : Int)) = some ((m.val : Nat) : Int) ∧ (fig ((m.val : Nat) : Int)).length ≤ 640 := by decide +kernel
  have := z ⟨n.toNat, by omega⟩
  rw [show ((n.toNat : Nat) : Int) = n by omega] at this
  exact this
theorem fig_inj {a b : Int} (a0 : 0 ≤ a) (a7 : a ≤ 7) (b0 : 0 ≤ b) (b7 : b ≤ 7) (e : fig a = fig b) : a = b := by
  have h1 := (fig_back a0 a7).1
  rw [e, (fig_back b0 b7).1] at h1
  exact (Option.some.inj h1).symm
structure spReadDr (vs : List V) (H : Hp) (Q : VK) (_ : XK) : Prop where
  h : ∃ (l : Addr) (n : Int), vs = [.ref l] ∧ H l = some (.lst [.str "drawers", .str (fig n)]) ∧ 1 ≤ n ∧ n ≤ 7 ∧ ∀ H', Same H H' → Q (.int n) H'
theorem scRDg : FnScope ["words", "drawers"] ["words"] (defScope s_read_drawers) := ⟨rfl, rfl, rfl, by decide +kernel, rfl, by decide +kernel, by decide +kernel⟩
theorem ok_readDr {f f1 : Addr} {fd fd1 : FuncData} (F : Fun K "read_drawers" "read_drawers" s_read_drawers f fd) (T : Bt mg) (zS : mg "str" = none) (gM : ∃ t, mg "MOST_DRAWERS" = some (.int 7 t))
    (G : FnOk P w K mg base CX0 4 f1 fd1 ["line", "words", "allowed"] (spWordsIn K)) (g1 : mg "check_words" = some (.ref f1)) (k1 : PySem.W.keepIn K (.ref f1) = true) (b1 : Binds K fd1 ["line", "words", "allowed"] []) :
    FnOk P w K mg base CX0 6 f fd ["words"] spReadDr := by
  refine F.ok scRDg (fun vs H Q E h => ?_) (fun cdv A outer s H vs Q E hr h => ?_)
  · obtain ⟨l, n, rfl, _⟩ := h.h
    rfl
  · obtain ⟨l, n, rfl, hl, n1, n7, k⟩ := h.h
    obtain ⟨tM, gMt⟩ := gM
    refine ⟨_, pss_cons (ps_expr (pe_call G (hr.mono (by decide)) rfl g1 k1 b1 .nil pass0 (pa_cons pe_int (pa_cons (pv 0) (pa_cons (pe_lst (pa_cons (pe_lst (pa_cons pe_str pa_nil)) (pa_cons
      (pe_lc (own := [("drawers", 1)]) (g := gName 1) (tt := tYes) (by rfl) scRDg.nd (pi_range2 (by rfl) T.range (pa_cons pe_int (pa_cons (pe_op op_add (pe_glob (v := .int 7) (by rfl) gMt ⟨_, rfl⟩) pe_int) pa_nil))) (blkOk_by (N := ["words", "drawers"]) (sc := defScope s_read_drawers) (by decide +kernel)) (fun _ _ _ _ _ => pg_name (i := 1) scRDg.nd rfl (Or.inl rfl)) (fun _ _ _ _ _ => pts_nil)
        (fun _ _ _ _ _ => pe_callTy call_str_int (by rfl) zS (by decide +kernel) (pa_cons (pv 1) pa_nil))) pa_nil))) pa_nil)))))
      (pss_one (ps_ret (pe_callTy call_int_str (by rfl) T.int (by decide +kernel) (pa_cons (pe_ix ix_list (pv 0) pe_int (fun _ _ => rfl)) pa_nil)))), ?_⟩
    refine ⟨_, rfl, (by show 1 ≤ sizeLine; decide), fun l1 nl1 => ?_⟩
    obtain ⟨s1, f1⟩ := new_at (o := .lst [.str "drawers"]) nl1
    generalize upd H l1 (.lst [.str "drawers"]) = H1 at s1 f1 ⊢
    refine ⟨7, 1, rfl, rfl, 1, 8, rfl, ⟨by decide, by decide, by decide, by decide⟩, fun D nD => ?_⟩
    refine lc_pick (walk_range (lo := 1) (n := 7)) (List.range 7) List.length_range (by decide) (fun _ => true) (fun z => V.str (fig ((1 : Int) + (z : Nat)))) nD (fun _ _ => trivial) ?_ ?_
    · rintro i x z H2 H3 Tk Nk ez s ⟨rfl, ex⟩ kT kF
      have hz : z = i := by
        have := (List.getElem?_eq_some_iff.mp ez).2
        rw [List.getElem_range] at this
        exact this.symm
      have hi : i < 7 := by
        have := (List.getElem?_eq_some_iff.mp ez).1
        rw [List.length_range] at this
        exact this
      subst hz
      subst ex
      exact ⟨rfl, tYes_of (iteT ⟨_, rfl, _, rfl, small_log (by omega) (by omega), kT _ rfl (Same.refl _)⟩)⟩
    · intro H2 s2 hD
      rw [List.filter_eq_self.mpr fun _ _ => rfl] at hD
      refine ⟨(by show 2 ≤ sizeLine; decide), fun l2 nl2 => ?_⟩
      obtain ⟨s3, f3⟩ := new_at (o := .lst [.ref l1, .ref D]) nl2
      have f1' := s3 _ _ (s2 _ _ f1)
      have hD' := s3 _ _ hD
      have hl' := s3 _ _ (s2 _ _ (s1 _ _ hl))
      refine ⟨⟨1, l, l2, ["drawers", fig n], [(l1, ["drawers"]), (D, (List.range 7).map fun z => fig ((1 : Int) + (z : Nat)))], rfl, hl', f3, fun c hc H' s => ?_, rfl, (by show 2 ≤ 100; decide), fun i x c ex ec => ?_, fun H' s => ?_⟩⟩
      · rcases List.mem_cons.mp hc with rfl | hc
        · exact .inl (SqL.of (s _ _ f1'))
        · rw [List.mem_singleton.mp hc]
          exact .inl (SqL.of (by rw [s _ _ hD', List.map_map]; rfl))
      · match i, ex, ec with
        | 0, ex, ec =>
          cases ex
          cases ec
          exact List.mem_singleton.mpr rfl
        | 1, ex, ec =>
          cases ex
          cases ec
          refine List.mem_map.mpr ⟨(n - 1).toNat, List.mem_range.mpr (by omega), ?_⟩
          rw [show (1 : Int) + ((n - 1).toNat : Nat) = n by omega]
      · obtain ⟨b1', b2'⟩ := fig_back (by omega) n7
        exact ⟨_, rfl, l, _, 1, .str (fig n), rfl, rfl, SqL.of (s _ _ hl'), atI_nat (j := 1) rfl, fig n, n, rfl, b1', b2', k H' ((((s1.trans s2).trans s3)).trans s)⟩
/-- the words of a bar's line -/
def barW (b : Bar) : List Str := ["bar", fig b.d, wd b.w, fig b.o, wd b.t]
structure spReadBar (vs : List V) (H : Hp) (Q : VK) (_ : XK) : Prop where
  h : ∃ (l : Addr) (n ln : Int) (b : Bar), vs = [.int n, .int ln, .ref l] ∧ H l = some (.lst ((barW b).map V.str)) ∧ 1 ≤ n ∧ n ≤ 7 ∧ b.ok n ∧ ∀ (t : Addr) (H' : Hp), H t = none → Same H H' → H' t = some (.tup b.vs) → Q (.ref t) H'
abbrev nRB : List Str := ["drawers", "line", "words", "names", "others", "drawer", "name"]
theorem scRB : FnScope nRB ["drawers", "line", "words"] (defScope s_read_bar) := ⟨rfl, rfl, rfl, by decide +kernel, rfl, by decide +kernel, by decide +kernel⟩
theorem ok_readBar {f f1 fW : Addr} {fd fd1 : FuncData} (F : Fun K "read_bar" "read_bar" s_read_bar f fd) (T : Bt mg) (zS : mg "str" = none) (gW : mg "WORDS" = some (.ref fW)) (hW : ∀ H, SqT K H fW [.str "open", .str "shut"])
    (G : FnOk P w K mg base CX0 4 f1 fd1 ["line", "words", "allowed"] (spWordsIn K)) (g1 : mg "check_words" = some (.ref f1)) (k1 : PySem.W.keepIn K (.ref f1) = true) (b1 : Binds K fd1 ["line", "words", "allowed"] []) :
    FnOk P w K mg base CX0 6 f fd ["drawers", "line", "words"] spReadBar := by
  refine F.ok scRB (fun vs H Q E h => ?_) (fun cdv A outer s H vs Q E hr h => ?_)
  · obtain ⟨l, n, ln, b, rfl, _⟩ := h.h
    rfl
  · obtain ⟨l, n, ln, b, rfl, hl, n1, n7, hb, k⟩ := h.h
    refine ⟨_, pss_cons (ps_setLc (i := 3) (own := [("drawer", 5)]) (g := gName 5) (tt := tYes) (by rfl) scRB.nd rfl rfl (by rfl) (pi_range1 (by rfl) T.range (pa_cons (pv 0) pa_nil)) (blkOk_by (N := nRB) (sc := defScope s_read_bar) (by decide +kernel)) (fun _ _ _ _ _ => pg_name (i := 5) scRB.nd rfl (Or.inl rfl)) (fun _ _ _ _ _ => pts_nil)
        (fun _ _ _ _ _ => pe_callTy call_str_int (by rfl) zS (by decide +kernel) (pa_cons (pv 5) pa_nil)))
      (pss_cons (ps_setLc (i := 4) (own := [("name", 6)]) (g := gName 6) (by rfl) scRB.nd rfl rfl (by rfl) (pi_list (pv 3)) (blkOk_by (N := nRB) (sc := defScope s_read_bar) (by decide +kernel)) (fun _ _ _ _ _ => pg_name (i := 6) scRB.nd rfl (Or.inl rfl))
        (fun _ _ _ _ _ => pts_one (pt_cmpR (op_notInK9 (K := K) rfl) (pv 6) (pe_slice (sl_listK9 (K := K) rfl) (pv 2) (po_some pe_int) (po_some pe_int)) (by rfl))) (fun _ _ _ _ _ => pv 6))
      (pss_cons (ps_expr (pe_call G (hr.mono (by decide)) rfl g1 k1 b1 .nil pass0 (pa_cons (pv 1) (pa_cons (pv 2) (pa_cons (pe_lst (pa_cons (pe_lst (pa_cons pe_str pa_nil)) (pa_cons (pv 3) (pa_cons (pe_glob (v := .ref fW) (by rfl) gW rfl) (pa_cons (pv 4) (pa_cons (pe_glob (v := .ref fW) (by rfl) gW rfl) pa_nil)))))) pa_nil)))))
      (pss_one (ps_ret (pe_tup (pa_cons (pe_callTy call_int_str (by rfl) T.int (by decide +kernel) (pa_cons (pe_ix ix_list (pv 2) pe_int (fun _ _ => rfl)) pa_nil)) (pa_cons (pe_ix ix_list (pv 2) pe_int (fun _ _ => rfl)) (pa_cons (pe_callTy call_int_str (by rfl) T.int (by decide +kernel) (pa_cons (pe_ix ix_list (pv 2) pe_int (fun _ _ => rfl)) pa_nil)) (pa_cons (pe_ix ix_list (pv 2) pe_int (fun _ _ => rfl)) pa_nil))))))))), ?_⟩
    obtain ⟨N, rfl⟩ : ∃ N : Nat, n = N := ⟨n.toNat, by omega⟩
    obtain ⟨d0, d1, o0, o1, ne⟩ := hb
    refine ⟨_, rfl, _, rfl, by omega, by omega, fun D1 nD1 => ?_⟩
    rw [Int.toNat_natCast]
    refine lc_pick (walk_range (lo := 0) (n := N)) (List.range N) List.length_range (by omega) (fun _ => true) (fun z => V.str (fig ((0 : Int) + (z : Nat)))) nD1 (fun _ _ => trivial) ?_ ?_
    · rintro i x z H2 H3 Tk Nk ez s ⟨rfl, ex⟩ kT kF
      have hz : z = i := by
        have := (List.getElem?_eq_some_iff.mp ez).2
        rw [List.getElem_range] at this
        exact this.symm
      have hi : i < N := by
        have := (List.getElem?_eq_some_iff.mp ez).1
        rw [List.length_range] at this
        exact this
      subst hz
      subst ex
      exact ⟨rfl, tYes_of (iteT ⟨_, rfl, _, rfl, small_log (by omega) (by omega), kT _ rfl (Same.refl _)⟩)⟩
    intro H1 s1 hD1
    obtain ⟨nm, hnm⟩ : ∃ nm : List Str, nm = (List.range N).map fun z => fig ((0 : Int) + (z : Nat)) := ⟨_, rfl⟩
    have hD1' : H1 D1 = some (.lst (nm.map V.str)) := by
      rw [hD1, List.filter_eq_self.mpr fun _ _ => rfl, hnm, List.map_map]
      rfl
    have nml : nm.length = N := by rw [hnm, List.length_map, List.length_range]
    have hl1 := s1 _ _ hl
    refine ⟨_, rfl, D1, rfl, ⟨_, SqL.of hD1'⟩, fun D2 nD2 => ?_⟩
    refine lc_pick (walk_list (K := K) (a := D1) (xs := nm.map V.str)) nm (by rw [List.length_map]) (by rw [List.length_map]; omega) (fun x => !decide (x = fig b.d)) V.str nD2 (fun H' s => SqL.of (s _ _ hD1')) ?_ ?_
    · rintro i x y H2 H3 Tk Nk ez s ⟨rfl, ex⟩ kT kF
      rw [List.getElem?_map, ez] at ex
      cases ex
      refine ⟨rfl, _, rfl, _, rfl, 1, rfl, 2, rfl, l, _, rfl, SqL.of (s _ _ hl1), fun sl nsl => ?_⟩
      have ec : cutV ((barW b).map V.str) (some 1) (some 2) = [V.str (fig b.d)] := rfl
      rw [ec]
      obtain ⟨s5, f5⟩ := new_at (o := .lst [V.str (fig b.d)]) nsl
      generalize upd H3 sl (.lst [V.str (fig b.d)]) = H5 at s5 f5 ⊢
      refine ⟨sl, _, rfl, .inl (SqL.of f5), rfl, rfl, ?_⟩
      have ei : inV (V.str y) [V.str (fig b.d)] = decide (y = fig b.d) := by
        have := inV_mem9 y [fig b.d]
        simp only [List.map_cons, List.map_nil, List.mem_singleton] at this
        exact this
      rw [ei]
      refine ⟨_, rfl, ?_⟩
      show if (if true = true then !decide (y = fig b.d) else decide (y = fig b.d)) = true then _ else _
      rw [if_pos rfl]
      by_cases q : y = fig b.d
      · rw [decide_eq_true q]
        exact iteF (kF _ (by simp [q]) s5)
      · rw [decide_eq_false q]
        exact iteT ⟨_, rfl, kT _ (by simp [q]) s5⟩
    intro H2 s2 hD2
    have hD1'' := s2 _ _ hD1'
    have hl2 := s2 _ _ hl1
    have inN : ∀ d : Int, 0 ≤ d → d < N → fig d ∈ nm := fun d q0 q1 => by
      rw [hnm]
      refine List.mem_map.mpr ⟨d.toNat, List.mem_range.mpr (by omega), ?_⟩
      rw [show (0 : Int) + (d.toNat : Nat) = d by omega]
    have inO : fig b.o ∈ nm.filter fun x => !decide (x = fig b.d) := by
      refine List.mem_filter.mpr ⟨inN _ o0 o1, ?_⟩
      have : fig b.o ≠ fig b.d := fun e => ne (fig_inj o0 (by omega) d0 (by omega) e).symm
      simp [this]
    refine ⟨_, rfl, _, rfl, (by show 1 ≤ sizeLine; decide), fun l1 nl1 => ?_⟩
    obtain ⟨s3, f3⟩ := new_at (o := .lst [.str "bar"]) nl1
    generalize upd H2 l1 (.lst [.str "bar"]) = H3 at s3 f3 ⊢
    refine ⟨_, rfl, _, rfl, (by show 5 ≤ sizeLine; decide), fun l2 nl2 => ?_⟩
    obtain ⟨s4, f4⟩ := new_at (o := .lst [.ref l1, .ref D1, .ref fW, .ref D2, .ref fW]) nl2
    generalize upd H3 l2 (.lst [.ref l1, .ref D1, .ref fW, .ref D2, .ref fW]) = H4 at s4 f4 ⊢
    have g1' := s4 _ _ f3
    have g2' := s4 _ _ (s3 _ _ hD1'')
    have g4' := s4 _ _ (s3 _ _ hD2)
    have hl4 := s4 _ _ (s3 _ _ hl2)
    have s04 := ((s1.trans s2).trans s3).trans s4
    have wds : ∀ x : Bool, wd x ∈ [("open" : Str), "shut"] := by decide +kernel
    refine ⟨⟨ln, l, l2, barW b, [(l1, ["bar"]), (D1, nm), (fW, ["open", "shut"]), (D2, nm.filter fun x => !decide (x = fig b.d)), (fW, ["open", "shut"])], rfl, hl4, f4, fun c hc H' s => ?_, rfl, (by show 5 ≤ 100; decide), fun i x c ex ec => ?_, fun H' s => ?_⟩⟩
    · simp only [List.mem_cons, List.not_mem_nil, or_false] at hc
      rcases hc with rfl | rfl | rfl | rfl | rfl
      · exact .inl (SqL.of (s _ _ g1'))
      · exact .inl (SqL.of (s _ _ g2'))
      · exact .inr (hW H')
      · exact .inl (SqL.of (s _ _ g4'))
      · exact .inr (hW H')
    · match i, ex, ec with
      | 0, ex, ec =>
        cases ex
        cases ec
        exact List.mem_singleton.mpr rfl
      | 1, ex, ec =>
        cases ex
        cases ec
        exact inN _ d0 d1
      | 2, ex, ec =>
        cases ex
        cases ec
        exact wds _
      | 3, ex, ec =>
        cases ex
        cases ec
        exact inO
      | 4, ex, ec =>
        cases ex
        cases ec
        exact wds _
    · obtain ⟨x1, x2⟩ := fig_back d0 (show b.d ≤ 7 by omega)
      obtain ⟨y1, y2⟩ := fig_back o0 (show b.o ≤ 7 by omega)
      have hl5 := s _ _ hl4
      refine ⟨_, rfl, l, _, 1, .str (fig b.d), rfl, rfl, SqL.of hl5, atI_nat (j := 1) rfl, fig b.d, b.d, rfl, x1, x2, ?_⟩
      refine ⟨_, rfl, l, _, 2, .str (wd b.w), rfl, rfl, SqL.of hl5, atI_nat (j := 2) rfl, ?_⟩
      refine ⟨_, rfl, l, _, 3, .str (fig b.o), rfl, rfl, SqL.of hl5, atI_nat (j := 3) rfl, fig b.o, b.o, rfl, y1, y2, ?_⟩
      refine ⟨_, rfl, l, _, 4, .str (wd b.t), rfl, rfl, SqL.of hl5, atI_nat (j := 4) rfl, (by show 4 ≤ sizeLine; decide), fun t nt => ?_⟩
      have s9 := same_upd (o := .tup b.vs) nt
      refine k t _ ?_ ((s04.trans s).trans s9) upd_same
      cases q : H t with
      | none => rfl
      | some o => rw [(s04.trans s) _ _ q] at nt; cases nt
end
end DL

set_option Elab.async false
set_option maxRecDepth 100000
set_option maxHeartbeats 1000000
namespace DL
open PySem L2
/-! ### Cabinet.__init__ with what it raises -/
theorem spCkDX.imp {K : PySem.W.Frag} {CD : Addr} {vs : List V} {H : Hp} {Q Q' : VK} {E : XK} (h : spCkDX K CD vs H Q E) (hq : ∀ u H', Q u H' → Q' u H') : spCkDX K CD vs H Q' E := by
  rcases h.h with ⟨n, e, k1, k2⟩ | h1
  · exact ⟨.inl ⟨n, e, fun z => hq _ _ (k1 z), k2⟩⟩
  · exact ⟨.inr h1⟩
theorem spCkBX.imp {K : PySem.W.Frag} {CB : Addr} {vs : List V} {H : Hp} {Q Q' : VK} {E : XK} (h : spCkBX K CB vs H Q E) (hq : ∀ u H', Q u H' → Q' u H') : spCkBX K CB vs H Q' E := by
  rcases h.h with ⟨n, t, ks, e, h1, h2, h3, k⟩ | h1
  · exact ⟨.inl ⟨n, t, ks, e, h1, h2, h3, fun H' s => hq _ _ (k H' s)⟩⟩
  · exact ⟨.inr h1⟩
end DL

set_option Elab.async false
set_option maxRecDepth 100000

set_option Elab.async false
set_option maxRecDepth 100000
namespace DL
open PySem L2 HT TL
/-! ### rows in their order: by their number of pulls, then by their pulls; as numbers -/
def rcode (r : List Int) : Int := r.foldl (fun a d => a * 8 + (d + 1)) 0
theorem rcode_snoc (r : List Int) (d : Int) : rcode (r ++ [d]) = rcode r * 8 + (d + 1) := by
  unfold rcode
  rw [List.foldl_append]
  rfl
theorem rcode_nil : rcode [] = 0 := rfl
def Low7 (r : List Int) : Prop := ∀ d ∈ r, 0 ≤ d ∧ d ≤ 6
theorem snoc_ind {α : Type} {p : List α → Prop} (h0 : p []) (hs : ∀ l a, p l → p (l ++ [a])) (l : List α) : p l := by
  have : ∀ m : List α, p m.reverse := fun m => by
    induction m with
    | nil => exact h0
    | cons a m ih =>
      rw [List.reverse_cons]
      exact hs _ _ ih
  have h := this l.reverse
  rw [List.reverse_reverse] at h
  exact h
theorem Low7.init {r : List Int} {d : Int} (h : Low7 (r ++ [d])) : Low7 r ∧ 0 ≤ d ∧ d ≤ 6 := ⟨fun x hx => h x (List.mem_append_left _ hx), h d (List.mem_append_right _ (List.mem_singleton.mpr rfl))⟩
theorem rcode_nn : ∀ {r : List Int}, Low7 r → 0 ≤ rcode r := by
  intro r
  refine snoc_ind (p := fun r => Low7 r → 0 ≤ rcode r) (fun _ => Int.le_refl _) (fun l a ih h => ?_) r
  obtain ⟨h1, h2, h3⟩ := h.init
  have := ih h1
  rw [rcode_snoc]
  omega
theorem rcode_inj' : ∀ a b : List Int, Low7 a → Low7 b → rcode a = rcode b → a = b := by
  intro a
  refine snoc_ind (p := fun a => ∀ b, Low7 a → Low7 b → rcode a = rcode b → a = b) (fun b _ hb e => ?_) (fun l x ih b ha hb e => ?_) a
  · revert hb e
    refine snoc_ind (p := fun b => Low7 b → rcode [] = rcode b → [] = b) (fun _ _ => rfl) (fun l y _ hb e => ?_) b
    obtain ⟨h1, h2, h3⟩ := hb.init
    have := rcode_nn h1
    rw [rcode_snoc, rcode_nil] at e
    omega
  · obtain ⟨h1, h2, h3⟩ := ha.init
    have p1 := rcode_nn h1
    revert hb e
    refine snoc_ind (p := fun b => Low7 b → rcode (l ++ [x]) = rcode b → l ++ [x] = b) (fun _ e => ?_) (fun m y _ hb e => ?_) b
    · rw [rcode_snoc, rcode_nil] at e
      omega
    · obtain ⟨g1, g2, g3⟩ := hb.init
      have p2 := rcode_nn g1
      rw [rcode_snoc, rcode_snoc] at e
      rw [ih m h1 g1 (by omega), show x = y by omega]
theorem rcode_inj {a b : List Int} (ha : Low7 a) (hb : Low7 b) (h : rcode a = rcode b) : a = b := rcode_inj' a b ha hb h
/-- a row is before another -/
def Bef (a b : List Int) : Prop := rcode a < rcode b ∧ a.length ≤ b.length
/-- rows in order, each behind the first one but one pull longer than one of those ahead of the i-th -/
structure Asc (rs : List (List Int)) (i : Nat) : Prop where
  pw : rs.Pairwise Bef
  low : ∀ x ∈ rs, Low7 x
  par : ∀ x ∈ rs, x = [] ∨ ∃ (j : Nat) (q : List Int) (d : Int), j < i ∧ rs[j]? = some q ∧ x = q ++ [d]
structure AscD (rs : List (List Int)) (i : Nat) (p : List Int) (D : Int) : Prop where
  pw : rs.Pairwise Bef
  low : ∀ x ∈ rs, Low7 x
  at' : rs[i]? = some p
  par : ∀ x ∈ rs, x = [] ∨ (∃ (j : Nat) (q : List Int) (d : Int), j < i ∧ rs[j]? = some q ∧ x = q ++ [d]) ∨ ∃ d : Int, d < D ∧ x = p ++ [d]
theorem AscD.done {rs : List (List Int)} {i : Nat} {p : List Int} {D : Int} (A : AscD rs i p D) : Asc rs (i + 1) := by
  refine ⟨A.pw, A.low, fun x hx => ?_⟩
  rcases A.par x hx with q | ⟨j, q, d, h1, h2, h3⟩ | ⟨d, h1, h2⟩
  · exact .inl q
  · exact .inr ⟨j, q, d, by omega, h2, h3⟩
  · exact .inr ⟨i, p, d, by omega, A.at', h2⟩
theorem AscD.up {rs : List (List Int)} {i : Nat} {p : List Int} {D D' : Int} (A : AscD rs i p D) (h : D ≤ D') : AscD rs i p D' := by
  refine ⟨A.pw, A.low, A.at', fun x hx => ?_⟩
  rcases A.par x hx with q | q | ⟨d, h1, h2⟩
  · exact .inl q
  · exact .inr (.inl q)
  · exact .inr (.inr ⟨d, by omega, h2⟩)
theorem AscD.below {rs : List (List Int)} {i : Nat} {p : List Int} {D d : Int} (A : AscD rs i p D) (hD : D ≤ d) (h0 : 0 ≤ d) : ∀ x ∈ rs, Bef x (p ++ [d]) := by
  intro x hx
  have hp : Low7 p := A.low p (List.mem_of_getElem? A.at')
  have pn := rcode_nn hp
  have lx := A.low x hx
  rcases A.par x hx with rfl | ⟨j, q, e, h1, h2, rfl⟩ | ⟨e, h1, rfl⟩
  · refine ⟨?_, by simp⟩
    rw [rcode_snoc, rcode_nil]
    omega
  · obtain ⟨g1, g2, g3⟩ := lx.init
    obtain ⟨l1, e1⟩ := List.getElem?_eq_some_iff.mp h2
    obtain ⟨l2, e2⟩ := List.getElem?_eq_some_iff.mp A.at'
    have := List.pairwise_iff_getElem.mp A.pw j i l1 l2 h1
    rw [e1, e2] at this
    obtain ⟨b1, b2⟩ := this
    refine ⟨?_, by rw [List.length_append, List.length_append]; exact Nat.add_le_add_right b2 _⟩
    rw [rcode_snoc, rcode_snoc]
    omega
  · refine ⟨?_, by rw [List.length_append, List.length_append]; exact Nat.le_refl _⟩
    rw [rcode_snoc, rcode_snoc]
    omega
theorem AscD.add {rs : List (List Int)} {i : Nat} {p : List Int} {D d : Int} (A : AscD rs i p D) (hD : D ≤ d) (h0 : 0 ≤ d) (h6 : d ≤ 6) : AscD (rs ++ [p ++ [d]]) i p (d + 1) := by
  have hp : Low7 p := A.low p (List.mem_of_getElem? A.at')
  have keep : ∀ (j : Nat) (q : List Int), rs[j]? = some q → (rs ++ [p ++ [d]])[j]? = some q := fun j q h => by
    rw [List.getElem?_append_left (List.getElem?_eq_some_iff.mp h).1]
    exact h
  refine ⟨?_, fun x hx => ?_, keep i p A.at', fun x hx => ?_⟩
  · rw [List.pairwise_append]
    refine ⟨A.pw, List.pairwise_singleton _ _, fun x hx y hy => ?_⟩
    rw [List.mem_singleton.mp hy]
    exact A.below hD h0 x hx
  · rcases List.mem_append.mp hx with hx | hx
    · exact A.low x hx
    · rw [List.mem_singleton.mp hx]
      intro e he
      rcases List.mem_append.mp he with he | he
      · exact hp e he
      · rw [List.mem_singleton.mp he]; exact ⟨h0, h6⟩
  · rcases List.mem_append.mp hx with hx | hx
    · rcases A.par x hx with q | ⟨j, q, e, h1, h2, h3⟩ | ⟨e, h1, h2⟩
      · exact .inl q
      · exact .inr (.inl ⟨j, q, e, h1, keep j q h2, h3⟩)
      · exact .inr (.inr ⟨e, by omega, h2⟩)
    · exact .inr (.inr ⟨d, by omega, List.mem_singleton.mp hx⟩)
/-! ### the pulls that go, one after another -/
theorem drs_pw (n : Nat) : (drs n).Pairwise (· < ·) := by
  unfold drs
  rw [List.pairwise_map]
  exact List.pairwise_lt_range.imp fun h => by omega
theorem free_pw (bs : List Bar) (st : List Bool) : (freeL bs st).Pairwise (· < ·) := (drs_pw st.length).filter _
theorem free_mem {bs : List Bar} {st : List Bool} {d : Int} : d ∈ freeL bs st ↔ (0 ≤ d ∧ d < st.length) ∧ goesB bs st d = true := by
  refine ⟨fun h => ⟨free_in h, (List.mem_filter.mp h).2⟩, fun h => ?_⟩
  refine List.mem_filter.mpr ⟨?_, h.2⟩
  unfold drs
  exact List.mem_map.mpr ⟨d.toNat, List.mem_range.mpr (by omega), by omega⟩
theorem pw_drop {l : List Int} (h : l.Pairwise (· < ·)) {t : Nat} {d : Int} (hd : l[t]? = some d) : (∀ x ∈ l.drop (t + 1), d + 1 ≤ x) ∧ l.drop t = d :: l.drop (t + 1) := by
  obtain ⟨h1, h2⟩ := List.getElem?_eq_some_iff.mp hd
  have e : l.drop t = d :: l.drop (t + 1) := by rw [List.drop_eq_getElem_cons h1, h2]
  refine ⟨fun x hx => ?_, e⟩
  have hp : (l.drop t).Pairwise (· < ·) := List.Pairwise.sublist (List.drop_sublist t l) h
  rw [e, List.pairwise_cons] at hp
  have := hp.1 x hx
  omega
theorem mem_take_succ {α : Type} {l : List α} {t : Nat} {d x : α} (hd : l[t]? = some d) (h : x ∈ l.take (t + 1)) : x ∈ l.take t ∨ x = d := by
  obtain ⟨h1, h2⟩ := List.getElem?_eq_some_iff.mp hd
  rw [List.take_succ_eq_append_getElem h1, h2] at h
  rcases List.mem_append.mp h with h | h
  · exact .inl h
  · exact .inr (List.mem_singleton.mp h)
/-! ### the queue: an entry is a standing and its row -/
abbrev Ent := List Bool × List Int
def Led (bs : List Bar) (s0 : List Bool) (e : Ent) : Prop := runB bs s0 e.2 = some e.1 ∧ (Low7 e.2 ∧ ∀ d ∈ e.2, 0 ≤ d ∧ d < s0.length) ∧ e.1.length = s0.length
theorem runB_snoc {bs : List Bar} : ∀ {r : List Int} {st : List Bool} {d : Int}, runB bs st (r ++ [d]) = (runB bs st r).bind fun s => if goesB bs s d = true then some (flip s d) else none
  | [], st, d => by
    show runB bs st [d] = _
    rw [runB_cons]
    rfl
  | x :: r, st, d => by
    show runB bs st (x :: (r ++ [d])) = _
    rw [runB_cons, runB_cons]
    by_cases q : goesB bs st x = true
    · rw [if_pos q, if_pos q]
      exact runB_snoc
    · rw [if_neg q, if_neg q]
      rfl
theorem Led.step {bs : List Bar} {s0 : List Bool} {p : Ent} {d : Int} (L : Led bs s0 p) (hd : d ∈ freeL bs p.1) (h7 : s0.length ≤ 7) : Led bs s0 (flip p.1 d, p.2 ++ [d]) := by
  obtain ⟨⟨d0, d1⟩, hg⟩ := free_mem.mp hd
  refine ⟨?_, ⟨fun x hx => ?_, fun x hx => ?_⟩, by rw [flip_len]; exact L.2.2⟩
  · show runB bs s0 (p.2 ++ [d]) = _
    rw [runB_snoc, L.1, Option.bind_some, if_pos hg]
  · rcases List.mem_append.mp hx with hx | hx
    · exact L.2.1.1 x hx
    · rw [List.mem_singleton.mp hx]
      have := L.2.2
      omega
  · rcases List.mem_append.mp hx with hx | hx
    · exact L.2.1.2 x hx
    · rw [List.mem_singleton.mp hx]
      have := L.2.2
      omega
structure BI (bs : List Bar) (s0 : List Bool) (i : Nat) (es : List Ent) : Prop where
  nd : (es.map (·.1)).Nodup
  asc : Asc (es.map (·.2)) i
  led : ∀ e ∈ es, Led bs s0 e
  ex : ∀ (j : Nat) (p : Ent), j < i → es[j]? = some p → ∀ d ∈ freeL bs p.1, ∃ e ∈ es, e.1 = flip p.1 d ∧ rcode e.2 ≤ rcode (p.2 ++ [d]) ∧ e.2.length ≤ p.2.length + 1
  root : (s0, []) ∈ es
structure BD (bs : List Bar) (s0 : List Bool) (i : Nat) (p : Ent) (t : Nat) (D : Int) (es : List Ent) : Prop where
  nd : (es.map (·.1)).Nodup
  asc : AscD (es.map (·.2)) i p.2 D
  led : ∀ e ∈ es, Led bs s0 e
  at' : es[i]? = some p
  ex : ∀ (j : Nat) (p : Ent), j < i → es[j]? = some p → ∀ d ∈ freeL bs p.1, ∃ e ∈ es, e.1 = flip p.1 d ∧ rcode e.2 ≤ rcode (p.2 ++ [d]) ∧ e.2.length ≤ p.2.length + 1
  exd : ∀ d ∈ (freeL bs p.1).take t, ∃ e ∈ es, e.1 = flip p.1 d ∧ rcode e.2 ≤ rcode (p.2 ++ [d]) ∧ e.2.length ≤ p.2.length + 1
  dle : ∀ d ∈ (freeL bs p.1).drop t, D ≤ d
  root : (s0, []) ∈ es
theorem BD.done {bs : List Bar} {s0 : List Bool} {i : Nat} {p : Ent} {D : Int} {es : List Ent} (B : BD bs s0 i p (freeL bs p.1).length D es) : BI bs s0 (i + 1) es := by
  refine ⟨B.nd, B.asc.done, B.led, fun j q hj hq => ?_, B.root⟩
  by_cases e : j = i
  · subst e
    rw [B.at'] at hq
    cases hq
    have := B.exd
    rw [List.take_length] at this
    exact this
  · exact B.ex j q (by omega) hq
theorem BD.free {bs : List Bar} {s0 : List Bool} {i : Nat} {p : Ent} {t : Nat} {D : Int} {es : List Ent} (B : BD bs s0 i p t D es) {d : Int} (hd : (freeL bs p.1)[t]? = some d) (h7 : s0.length ≤ 7) :
    d ∈ freeL bs p.1 ∧ D ≤ d ∧ 0 ≤ d ∧ d ≤ 6 := by
  have hm := List.mem_of_getElem? hd
  obtain ⟨d0, d1⟩ := free_in hm
  have := (B.led p (List.mem_of_getElem? B.at')).2.2
  obtain ⟨_, e⟩ := pw_drop (free_pw bs p.1) hd
  exact ⟨hm, B.dle d (by rw [e]; exact List.mem_cons_self), d0, by omega⟩
theorem BD.old {bs : List Bar} {s0 : List Bool} {i : Nat} {p : Ent} {t : Nat} {D : Int} {es : List Ent} (B : BD bs s0 i p t D es) {d : Int} (hd : (freeL bs p.1)[t]? = some d) (h7 : s0.length ≤ 7) (h : flip p.1 d ∈ es.map (·.1)) : BD bs s0 i p (t + 1) (d + 1) es := by
  obtain ⟨hm, hD, d0, d6⟩ := B.free hd h7
  refine ⟨B.nd, B.asc.up (by omega), B.led, B.at', B.ex, fun x hx => ?_, (pw_drop (free_pw bs p.1) hd).1, B.root⟩
  rcases mem_take_succ hd hx with hx | rfl
  · exact B.exd x hx
  · obtain ⟨e, he, h1⟩ := List.mem_map.mp h
    obtain ⟨b1, b2⟩ := B.asc.below hD d0 e.2 (List.mem_map.mpr ⟨e, he, rfl⟩)
    rw [List.length_append] at b2
    exact ⟨e, he, h1, Int.le_of_lt b1, b2⟩
theorem BD.new {bs : List Bar} {s0 : List Bool} {i : Nat} {p : Ent} {t : Nat} {D : Int} {es : List Ent} (B : BD bs s0 i p t D es) {d : Int} (hd : (freeL bs p.1)[t]? = some d) (h7 : s0.length ≤ 7) (h : ¬ flip p.1 d ∈ es.map (·.1)) : BD bs s0 i p (t + 1) (d + 1) (es ++ [(flip p.1 d, p.2 ++ [d])]) := by
  obtain ⟨hm, hD, d0, d6⟩ := B.free hd h7
  have mono : ∀ {e : Ent}, e ∈ es → e ∈ es ++ [(flip p.1 d, p.2 ++ [d])] := fun he => List.mem_append_left _ he
  refine ⟨?_, ?_, fun e he => ?_, ?_, fun j q hj hq x hx => ?_, fun x hx => ?_, (pw_drop (free_pw bs p.1) hd).1, mono B.root⟩
  · rw [List.map_append, List.nodup_append]
    refine ⟨B.nd, by simp, fun x hx y hy => ?_⟩
    rw [List.mem_singleton.mp hy]
    intro z
    have z' : x = flip p.1 d := z
    rw [z'] at hx
    exact h hx
  · rw [List.map_append]
    exact B.asc.add hD d0 d6
  · rcases List.mem_append.mp he with he | he
    · exact B.led e he
    · rw [List.mem_singleton.mp he]
      exact (B.led p (List.mem_of_getElem? B.at')).step hm h7
  · rw [List.getElem?_append_left (List.getElem?_eq_some_iff.mp B.at').1]
    exact B.at'
  · have hq' : es[j]? = some q := by
      have := (List.getElem?_eq_some_iff.mp B.at').1
      rw [List.getElem?_append_left (by omega)] at hq
      exact hq
    obtain ⟨e, he, h1⟩ := B.ex j q hj hq' x hx
    exact ⟨e, mono he, h1⟩
  · rcases mem_take_succ hd hx with hx | rfl
    · obtain ⟨e, he, h1⟩ := B.exd x hx
      exact ⟨e, mono he, h1⟩
    · exact ⟨_, List.mem_append_right _ (List.mem_singleton.mpr rfl), rfl, Int.le_refl _, by rw [List.length_append]; exact Nat.le_refl _⟩
/-- every row that goes ends where an entry stands whose row is not behind it -/
theorem BI.opt {bs : List Bar} {s0 : List Bool} {es : List Ent} (B : BI bs s0 es.length es) (h7 : s0.length ≤ 7) : ∀ (r : List Int), (∀ d ∈ r, 0 ≤ d ∧ d < s0.length) → ∀ st, runB bs s0 r = some st → ∃ e ∈ es, e.1 = st ∧ rcode e.2 ≤ rcode r ∧ e.2.length ≤ r.length := by
  intro r
  refine snoc_ind (p := fun (r : List Int) => (∀ d ∈ r, 0 ≤ d ∧ d < s0.length) → ∀ st, runB bs s0 r = some st → ∃ e ∈ es, e.1 = st ∧ rcode e.2 ≤ rcode r ∧ e.2.length ≤ r.length) (fun _ st h => ?_) (fun l d ih hl st h => ?_) r
  · cases h
    exact ⟨_, B.root, rfl, Int.le_refl _, Nat.le_refl _⟩
  · rw [runB_snoc] at h
    cases hr : runB bs s0 l with
    | none => rw [hr] at h; cases h
    | some s1 =>
      rw [hr, Option.bind_some] at h
      by_cases hg : goesB bs s1 d = true
      · rw [if_pos hg] at h
        cases h
        obtain ⟨e, he, h1, h2, h3⟩ := ih (fun x hx => hl x (List.mem_append_left _ hx)) s1 hr
        obtain ⟨j, hj⟩ := List.getElem?_of_mem he
        have el := (B.led e he).2.2
        have hdm : d ∈ freeL bs e.1 := free_mem.mpr ⟨by have := hl d (List.mem_append_right _ (List.mem_singleton.mpr rfl)); omega, by rw [h1]; exact hg⟩
        obtain ⟨f, hf, g1, g2, g3⟩ := B.ex j e (List.getElem?_eq_some_iff.mp hj).1 hj d hdm
        refine ⟨f, hf, by rw [g1, h1], ?_, ?_⟩
        · rw [rcode_snoc] at g2 ⊢
          omega
        · rw [List.length_append]
          show f.2.length ≤ l.length + 1
          omega
      · rw [if_neg hg] at h
        cases h
/-! ### there are not many standings -/
end DL

set_option Elab.async false
set_option maxRecDepth 100000
namespace DL
open PySem L2 HT TL
/-! ### a dict that is made within a for's head is read only from then on -/
/-! ### rows in a dict -/
abbrev KEnt := Addr × Ent
def kvsOf (ks : List KEnt) : List (Key × V) := ks.map fun k => (.inr (sstr k.2.1), .ref k.1)
structure RowsEl (H : Hp) (ks : List KEnt) : Prop where
  el : ∀ k ∈ ks, H k.1 = some (.tup (k.2.2.map V.int))
theorem RowsEl.same {H H' : Hp} {ks : List KEnt} (R : RowsEl H ks) (s : Same H H') : RowsEl H' ks := ⟨fun k hk => s _ _ (R.el k hk)⟩
end DL

set_option Elab.async false
set_option maxRecDepth 100000
namespace DL
open PySem L2 HT TL
/-! ### all rows, one pull longer at each turn; the first one that leads to a standing -/
theorem nd_eq {es : List Ent} (nd : (es.map (·.1)).Nodup) : ∀ {a b : Ent}, a ∈ es → b ∈ es → a.1 = b.1 → a = b := by
  induction es with
  | nil => intro a b ha; cases ha
  | cons x es ih =>
    intro a b ha hb e
    rw [List.map_cons, List.nodup_cons] at nd
    rcases List.mem_cons.mp ha with qa | ha'
    · rcases List.mem_cons.mp hb with qb | hb'
      · rw [qa, qb]
      · have hm : x.1 ∈ es.map (·.1) := List.mem_map.mpr ⟨b, hb', by rw [← e, qa]⟩
        exact absurd hm nd.1
    · rcases List.mem_cons.mp hb with qb | hb'
      · have hm : x.1 ∈ es.map (·.1) := List.mem_map.mpr ⟨a, ha', by rw [e, qb]⟩
        exact absurd hm nd.1
      · exact ih nd.2 ha' hb' e
structure LI (bs : List Bar) (s0 : List Bool) (i : Nat) (cat fst : List Ent) : Prop where
  asc : Asc (cat.map (·.2)) i
  led : ∀ e ∈ cat, Led bs s0 e
  ex : ∀ (j : Nat) (p : Ent), j < i → cat[j]? = some p → ∀ d ∈ freeL bs p.1, (flip p.1 d, p.2 ++ [d]) ∈ cat
  root : (s0, []) ∈ cat
  fnd : (fst.map (·.1)).Nodup
  fin : ∀ e ∈ fst, e ∈ cat
  fco : ∀ x ∈ cat, ∃ e ∈ fst, e.1 = x.1 ∧ rcode e.2 ≤ rcode x.2
structure LD (bs : List Bar) (s0 : List Bool) (i : Nat) (p : Ent) (t : Nat) (D : Int) (cat fst : List Ent) : Prop where
  asc : AscD (cat.map (·.2)) i p.2 D
  led : ∀ e ∈ cat, Led bs s0 e
  at' : cat[i]? = some p
  ex : ∀ (j : Nat) (p : Ent), j < i → cat[j]? = some p → ∀ d ∈ freeL bs p.1, (flip p.1 d, p.2 ++ [d]) ∈ cat
  exd : ∀ d ∈ (freeL bs p.1).take t, (flip p.1 d, p.2 ++ [d]) ∈ cat
  dle : ∀ d ∈ (freeL bs p.1).drop t, D ≤ d
  root : (s0, []) ∈ cat
  fnd : (fst.map (·.1)).Nodup
  fin : ∀ e ∈ fst, e ∈ cat
  fco : ∀ x ∈ cat, ∃ e ∈ fst, e.1 = x.1 ∧ rcode e.2 ≤ rcode x.2
theorem LD.done {bs : List Bar} {s0 : List Bool} {i : Nat} {p : Ent} {D : Int} {cat fst : List Ent} (B : LD bs s0 i p (freeL bs p.1).length D cat fst) : LI bs s0 (i + 1) cat fst := by
  refine ⟨B.asc.done, B.led, fun j q hj hq => ?_, B.root, B.fnd, B.fin, B.fco⟩
  by_cases e : j = i
  · subst e
    rw [B.at'] at hq
    cases hq
    have := B.exd
    rw [List.take_length] at this
    exact this
  · exact B.ex j q (by omega) hq
theorem LD.free {bs : List Bar} {s0 : List Bool} {i : Nat} {p : Ent} {t : Nat} {D : Int} {cat fst : List Ent} (B : LD bs s0 i p t D cat fst) {d : Int} (hd : (freeL bs p.1)[t]? = some d) (h7 : s0.length ≤ 7) :
    d ∈ freeL bs p.1 ∧ D ≤ d ∧ 0 ≤ d ∧ d ≤ 6 := by
  have hm := List.mem_of_getElem? hd
  obtain ⟨d0, d1⟩ := free_in hm
  have := (B.led p (List.mem_of_getElem? B.at')).2.2
  obtain ⟨_, e⟩ := pw_drop (free_pw bs p.1) hd
  exact ⟨hm, B.dle d (by rw [e]; exact List.mem_cons_self), d0, by omega⟩
def addF (fst : List Ent) (e : Ent) : List Ent := if e.1 ∈ fst.map (·.1) then fst else fst ++ [e]
theorem LD.add {bs : List Bar} {s0 : List Bool} {i : Nat} {p : Ent} {t : Nat} {D : Int} {cat fst : List Ent} (B : LD bs s0 i p t D cat fst) {d : Int} (hd : (freeL bs p.1)[t]? = some d) (h7 : s0.length ≤ 7) :
    LD bs s0 i p (t + 1) (d + 1) (cat ++ [(flip p.1 d, p.2 ++ [d])]) (addF fst (flip p.1 d, p.2 ++ [d])) := by
  obtain ⟨hm, hD, d0, d6⟩ := B.free hd h7
  have mono : ∀ {e : Ent}, e ∈ cat → e ∈ cat ++ [(flip p.1 d, p.2 ++ [d])] := fun he => List.mem_append_left _ he
  have last : (flip p.1 d, p.2 ++ [d]) ∈ cat ++ [(flip p.1 d, p.2 ++ [d])] := List.mem_append_right _ (List.mem_singleton.mpr rfl)
  have fsub : ∀ {e : Ent}, e ∈ fst → e ∈ addF fst (flip p.1 d, p.2 ++ [d]) := fun he => by
    unfold addF
    by_cases z : (flip p.1 d, p.2 ++ [d]).1 ∈ fst.map (·.1)
    · rw [if_pos z]; exact he
    · rw [if_neg z]; exact List.mem_append_left _ he
  refine ⟨?_, fun e he => ?_, ?_, fun j q hj hq x hx => ?_, fun x hx => ?_, (pw_drop (free_pw bs p.1) hd).1, mono B.root, ?_, fun e he => ?_, fun x hx => ?_⟩
  · rw [List.map_append]
    exact B.asc.add hD d0 d6
  · rcases List.mem_append.mp he with he | he
    · exact B.led e he
    · rw [List.mem_singleton.mp he]
      exact (B.led p (List.mem_of_getElem? B.at')).step hm h7
  · rw [List.getElem?_append_left (List.getElem?_eq_some_iff.mp B.at').1]
    exact B.at'
  · have hq' : cat[j]? = some q := by
      have := (List.getElem?_eq_some_iff.mp B.at').1
      rw [List.getElem?_append_left (by omega)] at hq
      exact hq
    exact mono (B.ex j q hj hq' x hx)
  · rcases mem_take_succ hd hx with hx | rfl
    · exact mono (B.exd x hx)
    · exact last
  · unfold addF
    by_cases z : (flip p.1 d, p.2 ++ [d]).1 ∈ fst.map (·.1)
    · rw [if_pos z]; exact B.fnd
    · rw [if_neg z, List.map_append, List.nodup_append]
      refine ⟨B.fnd, by simp, fun x hx y hy q => ?_⟩
      have e1 : y = (flip p.1 d, p.2 ++ [d]).1 := List.mem_singleton.mp hy
      rw [← e1, ← q] at z
      exact z hx
  · unfold addF at he
    by_cases z : (flip p.1 d, p.2 ++ [d]).1 ∈ fst.map (·.1)
    · rw [if_pos z] at he; exact mono (B.fin e he)
    · rw [if_neg z] at he
      rcases List.mem_append.mp he with he | he
      · exact mono (B.fin e he)
      · rw [List.mem_singleton.mp he]; exact last
  · rcases List.mem_append.mp hx with hx | hx
    · obtain ⟨e, he, h1⟩ := B.fco x hx
      exact ⟨e, fsub he, h1⟩
    · rw [List.mem_singleton.mp hx]
      by_cases z : (flip p.1 d, p.2 ++ [d]).1 ∈ fst.map (·.1)
      · obtain ⟨e, he, h1⟩ := List.mem_map.mp z
        have := (B.asc.below hD d0 e.2 (List.mem_map.mpr ⟨e, B.fin e he, rfl⟩)).1
        exact ⟨e, fsub he, h1, Int.le_of_lt this⟩
      · refine ⟨_, ?_, rfl, Int.le_refl _⟩
        unfold addF
        rw [if_neg z]
        exact List.mem_append_right _ (List.mem_singleton.mpr rfl)
/-- those from the i-th on have k pulls, none has more -/
structure LV (k i : Nat) (cat : List Ent) : Prop where
  le : ∀ x ∈ cat, x.2.length ≤ k
  eq : ∀ x ∈ cat.drop i, x.2.length = k
theorem LI.all {bs : List Bar} {s0 : List Bool} {i k : Nat} {cat fst : List Ent} (B : LI bs s0 i cat fst) (V : LV k i cat) : ∀ (r : List Int), (∀ d ∈ r, 0 ≤ d ∧ d < s0.length) → r.length ≤ k → ∀ st, runB bs s0 r = some st → (st, r) ∈ cat := by
  intro r
  refine snoc_ind (p := fun (r : List Int) => (∀ d ∈ r, 0 ≤ d ∧ d < s0.length) → r.length ≤ k → ∀ st, runB bs s0 r = some st → (st, r) ∈ cat) (fun _ _ st h => ?_) (fun l d ih hl hk st h => ?_) r
  · cases h
    exact B.root
  · rw [List.length_append] at hk
    have hk : l.length + 1 ≤ k := hk
    rw [runB_snoc] at h
    cases hr : runB bs s0 l with
    | none => rw [hr] at h; cases h
    | some s1 =>
      rw [hr, Option.bind_some] at h
      by_cases hg : goesB bs s1 d = true
      · rw [if_pos hg] at h
        cases h
        have hm := ih (fun x hx => hl x (List.mem_append_left _ hx)) (by omega) s1 hr
        obtain ⟨j, hj⟩ := List.getElem?_of_mem hm
        have el := (B.led _ hm).2.2
        have el : s1.length = s0.length := el
        have hji : j < i := by
          rcases Nat.lt_or_ge j i with h | h
          · exact h
          · have : (s1, l) ∈ cat.drop i := by
              have e : (cat.drop i)[j - i]? = some (s1, l) := by
                rw [List.getElem?_drop, show i + (j - i) = j by omega]
                exact hj
              exact List.mem_of_getElem? e
            have := V.eq _ this
            have : l.length = k := this
            omega
        exact B.ex j _ hji hj d (free_mem.mpr ⟨by have := hl d (List.mem_append_right _ (List.mem_singleton.mpr rfl)); show 0 ≤ d ∧ d < s1.length; omega, hg⟩)
      · rw [if_neg hg] at h
        cases h
/-! ### a standing as a pattern -/
end DL

set_option Elab.async false
set_option maxRecDepth 100000

set_option Elab.async false
set_option maxRecDepth 100000
namespace DL
open PySem L2 HT TL
/-! ### two queues that came to their end hold the same -/
theorem sub_asc {es es' : List Ent} (h1 : (es.map (·.2)).Pairwise Bef) (h2 : (es'.map (·.2)).Pairwise Bef) (hs : ∀ e, e ∈ es ↔ e ∈ es') : es = es' := by
  induction es generalizing es' with
  | nil =>
    cases es' with
    | nil => rfl
    | cons b es' => exact absurd ((hs b).mpr List.mem_cons_self) (by simp)
  | cons a es ih =>
    cases es' with
    | nil => exact absurd ((hs a).mp List.mem_cons_self) (by simp)
    | cons b es' =>
      rw [List.map_cons, List.pairwise_cons] at h1 h2
      have hab : a = b := by
        rcases List.mem_cons.mp ((hs a).mp List.mem_cons_self) with q | q
        · exact q
        · rcases List.mem_cons.mp ((hs b).mpr List.mem_cons_self) with q' | q'
          · exact q'.symm
          · have z1 := (h1.1 b.2 (List.mem_map.mpr ⟨b, q', rfl⟩)).1
            have z2 := (h2.1 a.2 (List.mem_map.mpr ⟨a, q, rfl⟩)).1
            omega
      subst hab
      congr 1
      refine ih h1.2 h2.2 fun e => ⟨fun he => ?_, fun he => ?_⟩
      · rcases List.mem_cons.mp ((hs e).mp (List.mem_cons_of_mem _ he)) with q | q
        · have z1 := (h1.1 e.2 (List.mem_map.mpr ⟨e, he, rfl⟩)).1
          rw [q] at z1
          omega
        · exact q
      · rcases List.mem_cons.mp ((hs e).mpr (List.mem_cons_of_mem _ he)) with q | q
        · have z1 := (h2.1 e.2 (List.mem_map.mpr ⟨e, he, rfl⟩)).1
          rw [q] at z1
          omega
        · exact q
theorem BI.sub {bs : List Bar} {s0 : List Bool} {es es' : List Ent} (I : BI bs s0 es.length es) (I' : BI bs s0 es'.length es') (h7 : s0.length ≤ 7) {e : Ent} (he : e ∈ es) : e ∈ es' := by
  obtain ⟨m1, ⟨m2, m3⟩, m4⟩ := I.led e he
  obtain ⟨f, hf, g1, g2, _⟩ := I'.opt h7 e.2 m3 e.1 m1
  obtain ⟨n1, ⟨n2, n3⟩, n4⟩ := I'.led f hf
  obtain ⟨e', he', k1, k2, _⟩ := I.opt h7 f.2 n3 f.1 n1
  have : e' = e := nd_eq I.nd he' he (by rw [k1, g1])
  subst this
  have : f = e' := Prod.ext g1 (rcode_inj n2 m2 (by omega))
  rw [← this]
  exact hf
theorem BI.same {bs : List Bar} {s0 : List Bool} {es es' : List Ent} (I : BI bs s0 es.length es) (I' : BI bs s0 es'.length es') (h7 : s0.length ≤ 7) : es = es' :=
  sub_asc I.asc.pw I'.asc.pw fun _ => ⟨I.sub I' h7, I'.sub I h7⟩
/-! ### sorted texts -/
/-! ### (len(a), a) < (len(b), b) -/
end DL

set_option Elab.async false
set_option maxRecDepth 100000

set_option Elab.async false
set_option maxRecDepth 100000

set_option Elab.async false
set_option maxRecDepth 100000
namespace DL
open PySem L2 HT TL
/-! ### walks over a dict of rows -/
/-- a dict of rows, locked from its making on -/
structure RowsFrz (H : Hp) (a : Addr) (od : Obj) (ks : List KEnt) : Prop where
  at' : H a = some (.frz od (.dK (kvsOf ks)))
  el : RowsEl H ks
theorem RowsFrz.same {H H' : Hp} {a : Addr} {od : Obj} {ks : List KEnt} (R : RowsFrz H a od ks) (s : Same H H') : RowsFrz H' a od ks := ⟨s _ _ R.at', R.el.same s⟩
theorem RowsFrz.but {r sc : Addr} {H H' : Hp} {a : Addr} {od : Obj} {ks : List KEnt} (R : RowsFrz H a od ks) (hR : RowOk H r sc) (B : But r H H') : RowsFrz H' a od ks := by
  obtain ⟨_, _, _, h, _⟩ := hR.h
  exact ⟨B _ _ (ne_of R.at' h (by intro z; cases z)) R.at', ⟨fun k hk => B.tup h (R.el.el k hk)⟩⟩
end DL

set_option Elab.async false
set_option maxRecDepth 100000
namespace DL
open PySem L2 HT TL RZ
/-! ### the first row that parts two cabinets -/
def InR (n : Nat) (r : List Int) : Prop := ∀ d ∈ r, 0 ≤ d ∧ d < n
section
variable {b1 b2 : List Bar} {s0 : List Bool} {es : List Ent}
theorem InR.init {n : Nat} {r : List Int} {d : Int} (h : InR n (r ++ [d])) : InR n r ∧ 0 ≤ d ∧ d < n := ⟨fun x hx => h x (List.mem_append_left _ hx), h d (List.mem_append_right _ (List.mem_singleton.mpr rfl))⟩
theorem InR.low {n : Nat} {r : List Int} (h : InR n r) (h7 : n ≤ 7) : Low7 r := fun d hd => by
  have := h d hd
  omega
end
end DL

set_option Elab.async false
set_option maxRecDepth 100000

set_option Elab.async false
set_option maxRecDepth 100000
namespace DL
open PySem L2 HT TL RZ
/-! ### == of bars as data -/
/-! ### the bars against each pull that does not go -/
structure NeedsAt (H : Hp) (x : Addr) (ks : List (Addr × Bar)) (gs : List (Addr × List (Addr × Bar))) : Prop where
  el : ∀ g ∈ gs, H g.1 = some (.lst (g.2.map fun k => V.ref k.1)) ∧ g.1 ≠ x ∧ ∀ k ∈ g.2, k ∈ ks
theorem NeedsAt.same {H H' : Hp} {x : Addr} {ks : List (Addr × Bar)} {gs : List (Addr × List (Addr × Bar))} (N : NeedsAt H x ks gs) (s : Same H H') : NeedsAt H' x ks gs := ⟨fun g hg => ⟨s _ _ (N.el g hg).1, (N.el g hg).2⟩⟩
end DL

set_option Elab.async false
set_option maxRecDepth 100000
set_option maxHeartbeats 2000000
namespace DL
open PySem PySem.Spec PyProof.Rows L2 HT TL
theorem cut_tail (x : V) (xs : List V) : cutV (x :: xs) (some 1) none = xs := by
  unfold cutV
  have e : HT.sIx (x :: xs).length 0 (some 1) = 1 := by
    show (if (1 : Int) < 0 then ((1 : Int) + ((x :: xs).length : Int)).toNat else min (1 : Int).toNat (x :: xs).length) = 1
    rw [if_neg (by decide), List.length_cons]
    show min 1 (xs.length + 1) = 1
    omega
  rw [HT.sIx_none, e, List.length_cons, List.drop_succ_cons, List.drop_zero]
  exact List.take_of_length_le (by omega)
structure spRead (C : Addr) (vs : List V) (H : Hp) (Q : VK) (_ : XK) : Prop where
  h : ∃ (z z0 : Str) (zs : List Str) (n : Int) (bs : List Bar), vs = [.str z] ∧ z.length ≤ 100000 ∧ Txt.split z "\n" = z0 :: zs ∧ (∀ y ∈ z0 :: zs, y.length ≤ 1000 ∧ (Txt.split y " ").length ≤ 1000) ∧ wordsL z0 = [("drawers" : Str), fig n] ∧ zs.map wordsL = bs.map barW ∧ 1 ≤ n ∧ n ≤ 7 ∧ OkBars n bs ∧ bs.length ≤ 100 ∧
    ∀ (c : Addr) (H' : Hp), Same H H' → CabOk C H' c n bs → Q (.ref c) H'
section
variable {P : Program} {w : World} {K : PySem.W.Frag} {mg : Str → Option Value} {base : Heap}
abbrev nRdg : List Str := ["text", "line", "lines", "drawers", "bars", "words", "bar"]
theorem scRdg : FnScope nRdg ["text"] (defScope s_read) := ⟨rfl, rfl, rfl, by decide +kernel, rfl, by decide +kernel, by decide +kernel⟩
theorem ok_read {f f1 f2 f3 fI C : Addr} {fd fd1 fd2 fd3 fdI : FuncData} (F : Fun K "read" "read" s_read f fd) (T : Bt mg) (gC : mg "Cabinet" = some (.ref C)) (MC : Mk K C fI) (GI : FnOk P w K mg base CX0 5 fI fdI ["self", "drawers", "bars"] (spInit C)) (bI : Binds K fdI ["self", "drawers", "bars"] [])
    (G1 : FnOk P w K mg base CX0 1 f1 fd1 ["line"] spWordsOf) (g1 : mg "words_of" = some (.ref f1)) (k1 : PySem.W.keepIn K (.ref f1) = true) (b1 : Binds K fd1 ["line"] [])
    (G2 : FnOk P w K mg base CX0 6 f2 fd2 ["words"] spReadDr) (g2 : mg "read_drawers" = some (.ref f2)) (k2 : PySem.W.keepIn K (.ref f2) = true) (b2 : Binds K fd2 ["words"] [])
    (G3 : FnOk P w K mg base CX0 6 f3 fd3 ["drawers", "line", "words"] spReadBar) (g3 : mg "read_bar" = some (.ref f3)) (k3 : PySem.W.keepIn K (.ref f3) = true) (b3 : Binds K fd3 ["drawers", "line", "words"] []) :
    FnOk P w K mg base CX0 8 f fd ["text"] (spRead C) := by
  refine F.ok scRdg (fun vs H Q E h => ?_) (fun cdv A outer s H vs Q E hr h => ?_)
  · obtain ⟨z, z0, zs, n, bs, rfl, _⟩ := h.h
    rfl
  · obtain ⟨z, z0, zs, n, bs, rfl, zl, ez, hy, e0, eb, n1, n7, hO, b100, k⟩ := h.h
    have hu : _ < cLine := Nat.lt_of_le_of_lt (Nat.le_add_right _ 64) hr.units
    refine ⟨_, pss_cons (ps_setLc (i := 2) (own := [("line", 1)]) (g := gName 1) (tt := tYes) (by rfl) scRdg.nd rfl rfl (by rfl) (pi_list (pe_m1 PySem.F.slot_str_split PySem.F.type_str_split mt_split (pv 0) pe_str)) (blkOk_by (N := nRdg) (sc := defScope s_read) (by decide +kernel)) (fun _ _ _ _ _ => pg_name (i := 1) scRdg.nd rfl (Or.inl rfl)) (fun _ _ _ _ _ => pts_nil)
        (fun _ _ _ _ _ => pe_call G1 (hr.mono (by decide)) rfl g1 k1 b1 .nil pass0 (pa_cons (pv 1) pa_nil)))
      (pss_cons (ps_set (i := 3) scRdg.nd rfl (Or.inl rfl) (pe_call G2 (hr.mono (by decide)) rfl g2 k2 b2 .nil pass0 (pa_cons (pe_ix ix_list (pv 2) pe_int (fun _ _ => rfl)) pa_nil)))
      (pss_cons (ps_set (i := 4) scRdg.nd rfl (Or.inl rfl) (pe_lst pa_nil))
      (pss_cons (ps_for PassesOwn.never rfl (pi_es (by rfl) T.enumerate (pe_slice sl_list (pv 2) (po_some pe_int) po_none) (by decide) (by decide)) (pg_tup (by rfl) (pgs_cons (pg_name (i := 1) scRdg.nd rfl (Or.inl rfl)) (pgs_cons (pg_name (i := 5) scRdg.nd rfl (Or.inl rfl)) pgs_nil)))
        (pss_cons (ps_set (i := 6) scRdg.nd rfl (Or.inl rfl) (pe_call G3 (hr.mono (by decide)) rfl g3 k3 b3 .nil pass0 (pa_cons (pv 3) (pa_cons (pv 1) (pa_cons (pv 5) pa_nil)))))
        (pss_cons (ps_if (PW.pt (pw_and (pt_truth (pv 4) (by intro _; rfl)) (pw_and1 (pt_cmpR (op_leB hu) (pv 6) (pe_ix ix_list (pv 4) (pe_un un_neg pe_int) (fun _ _ => rfl)) (nomark _))))) pss_never pss_nil)
        (pss_one (ps_expr (pe_bm PySem.F.plainAttrs_list PySem.F.slot_list_append PySem.F.type_list_append mt_append (pv 4) (pa_cons (pv 6) pa_nil)))))))
      (pss_one (ps_ret (pe_make MC GI (hr.mono (by decide)) rfl gC bI .nil pass0 (pa_cons (pv 3) (pa_cons (pe_tupleOf (by rfl) T.tuple (pv 4)) pa_nil)))))))), ?_⟩
    refine ⟨_, rfl, ⟨_, rfl⟩, z, "\n", rfl, rfl, rfl, Nat.le_trans (Nat.add_le_add_right zl 2) (by decide), fun p hp => ?_⟩
    rw [ez]
    obtain ⟨sp, fp⟩ := new_at (o := .lst ((z0 :: zs).map V.str)) hp
    generalize upd H p (.lst ((z0 :: zs).map V.str)) = H1 at sp fp ⊢
    have len0 : zs.length = bs.length := by
      have := congrArg List.length eb
      rw [List.length_map, List.length_map] at this
      exact this
    refine ⟨p, rfl, ⟨_, SqL.of fp⟩, fun D nD => ?_⟩
    have npD : p ≠ D := ne_of_none fp nD
    refine lc_it (walk_list (K := K) (a := p) (xs := (z0 :: zs).map V.str)) (fun i H' => Same H1 H' ∧ ∃ ts : List (Addr × List Str), H' D = some (.lst (ts.map fun t => V.ref t.1)) ∧ ts.map (·.2) = ((z0 :: zs).take i).map wordsL ∧ ∀ t ∈ ts, H' t.1 = some (.lst (t.2.map V.str)) ∧ t.1 ≠ D)
      ⟨same_upd nD, [], upd_same, rfl, fun t ht => (by cases ht)⟩ (fun i H' _ q => SqL.of (q.1 _ _ fp)) ?_ ?_
    · rintro i x H2 H3 hi ⟨s2, ts, hD, et, ht⟩ ⟨rfl, ex⟩
      rw [List.getElem?_map] at ex
      cases ey : (z0 :: zs)[i]? with
      | none => rw [ey] at ex; cases ex
      | some y =>
        rw [ey] at ex
        cases ex
        obtain ⟨y1, y2⟩ := hy y (List.mem_of_getElem? ey)
        have tl : ts.length = i := by
          have := congrArg List.length et
          rw [List.length_map, List.length_map, List.length_take] at this
          have := (List.getElem?_eq_some_iff.mp ey).1
          omega
        have i101 : i ≤ 101 := by
          have := (List.getElem?_eq_some_iff.mp ey).1
          rw [List.length_cons] at this
          omega
        refine ⟨rfl, tYes_of (iteT ⟨_, rfl, ⟨⟨y, rfl, y1, y2, fun l H4 nl s4 hl => ?_⟩⟩⟩)⟩
        have hD4 := s4 _ _ hD
        have nlD : l ≠ D := (ne_of_none hD nl).symm
        refine ⟨_, hD4, by rw [List.length_map]; exact small1000 (by omega), fun b o e => ?_, ts ++ [(l, wordsL y)], by rw [upd_same, List.map_append]; rfl, ?_, fun t h => ?_⟩
        · rw [upd_ne (ne_of_none e nD)]
          exact s4 _ _ (s2 _ _ e)
        · obtain ⟨h1, h2⟩ := List.getElem?_eq_some_iff.mp ey
          rw [List.map_append, et, List.take_succ_eq_append_getElem h1, h2, List.map_append]
          rfl
        · rcases List.mem_append.mp h with h | h
          · obtain ⟨q1, q2⟩ := ht t h
            exact ⟨by rw [upd_ne q2]; exact s4 _ _ q1, q2⟩
          · rw [List.mem_singleton.mp h]
            exact ⟨by rw [upd_ne nlD]; exact hl, nlD⟩
    rintro H2 ⟨s2, ts, hD, et, ht⟩
    have ez2 : ((z0 :: zs).map V.str).length = (z0 :: zs).length := List.length_map _
    rw [ez2, List.take_length, List.map_cons, e0, eb] at et
    match ts, et, hD, ht with
    | t0 :: ts, et, hD, ht =>
    rw [List.map_cons] at et
    injection et with et0 et1
    obtain ⟨h0, _⟩ := ht t0 List.mem_cons_self
    rw [et0] at h0
    refine ⟨_, rfl, D, _, 0, .ref t0.1, rfl, rfl, SqL.of hD, atI_nat (j := 0) rfl, ⟨⟨t0.1, n, rfl, h0, n1, n7, fun H3 s3 => ?_⟩⟩⟩
    have tsl : ts.length = bs.length := by
      have := congrArg List.length et1
      rw [List.length_map, List.length_map] at this
      exact this
    have hD3 := s3 _ _ hD
    have ht3 : ∀ t ∈ ts, H3 t.1 = some (.lst (t.2.map V.str)) := fun t h => s3 _ _ (ht t (List.mem_cons_of_mem _ h)).1
    have s03 := (sp.trans s2).trans s3
    clear ht hD h0 s3 s2 fp nD npD sp
    refine ⟨(by show 0 ≤ sizeLine; decide), fun B nB => ?_⟩
    obtain ⟨s4, f4⟩ := new_at (o := .lst []) nB
    have ntB : ∀ t ∈ ts, t.1 ≠ B := fun t h => ne_of_none (ht3 t h) nB
    have nDB : D ≠ B := ne_of_none hD3 nB
    have nB0 : H B = none := by
      cases q : H B with
      | none => rfl
      | some o => rw [s03 _ _ q] at nB; cases nB
    have hD4 := s4 _ _ hD3
    have ht4 : ∀ t ∈ ts, (upd H3 B (.lst [])) t.1 = some (.lst (t.2.map V.str)) := fun t h => s4 _ _ (ht3 t h)
    have s04 := s03.trans s4
    generalize upd H3 B (.lst []) = H4 at s4 f4 hD4 ht4 s04 ⊢
    refine ⟨_, rfl, 1, rfl, D, _, rfl, SqL.of hD4, fun S nS => ?_⟩
    rw [List.map_cons, cut_tail]
    obtain ⟨s5, f5⟩ := new_at (o := .lst (ts.map fun t => V.ref t.1)) nS
    have nSB : S ≠ B := (ne_of_none f4 nS).symm
    have f45 := s5 _ _ f4
    have ht5 : ∀ t ∈ ts, (upd H4 S (.lst (ts.map fun t => V.ref t.1))) t.1 = some (.lst (t.2.map V.str)) := fun t h => s5 _ _ (ht4 t h)
    have s05 := s04.trans s5
    generalize upd H4 S (.lst (ts.map fun t => V.ref t.1)) = H5 at s5 f5 f45 ht5 s05 ⊢
    refine ⟨S, _, rfl, SqL.of f5, ?_⟩
    refine for_it (walk_es (xs := ts.map fun t => V.ref t.1)) (fun i σ H' => ∃ (v1 v5 v6 : Option V) (ks : List (Addr × Bar)), σ = [some (.str z), v1, some (.ref D), some (.int n), some (.ref B), v5, v6] ∧ But B H5 H' ∧ ks.map (·.2) = bs.take i ∧ H' B = some (.lst (ks.map fun k => V.ref k.1)) ∧ ∀ k ∈ ks, H' k.1 = some (.tup k.2.vs))
      ⟨_, _, _, [], rfl, But.refl _ _, rfl, f45, fun k hk => by cases hk⟩ (fun i σ H' _ ⟨_, _, _, _, _, b, _⟩ => SqL.of (b _ _ nSB f5)) ?_ ?_
    · rintro i x σ H6 H7 hi ⟨v1, v5, v6, ks, rfl, B6, eks, hB6, hks⟩ ⟨Tp, y1, y2, rfl, nT, rfl, ey1, ey2⟩
      cases ey1
      have ey2 : (ts.map fun t => V.ref t.1)[i]? = some y2 := ey2
      rw [List.getElem?_map] at ey2
      cases etk : ts[i]? with
      | none => rw [etk] at ey2; cases ey2
      | some t =>
        rw [etk] at ey2
        cases ey2
        have hi2 : i < bs.length := by
          rw [← tsl]
          exact (List.getElem?_eq_some_iff.mp etk).1
        obtain ⟨b, ebk⟩ : ∃ b, bs[i]? = some b := ⟨_, List.getElem?_eq_getElem hi2⟩
        have tb : t.2 = barW b := by
          have h1 : (ts.map (·.2))[i]? = some t.2 := by rw [List.getElem?_map, etk]; rfl
          rw [et1, List.getElem?_map, ebk] at h1
          exact (Option.some.inj h1).symm
        have hbm : b ∈ bs := List.mem_of_getElem? ebk
        have htm : t ∈ ts := List.mem_of_getElem? etk
        have etake : bs.take (i + 1) = bs.take i ++ [b] := by
          obtain ⟨h1, h2⟩ := List.getElem?_eq_some_iff.mp ebk
          rw [List.take_succ_eq_append_getElem h1, h2]
        have lower : ∀ x ∈ bs.take i, x.code < b.code := fun x hx => by
          have := hO.asc.sublist (List.take_sublist (i + 1) bs)
          rw [etake, List.pairwise_append] at this
          exact this.2.2 x hx b (List.mem_singleton.mpr rfl)
        have hT7 : (upd H6 Tp (.tup [.int (2 + (i : Nat)), .ref t.1])) Tp = some (.tup [.int (2 + (i : Nat)), .ref t.1]) := upd_same
        have s67 := same_upd (o := .tup [.int (2 + (i : Nat)), .ref t.1]) nT
        have hl7 := s67 _ _ (B6 _ _ (ntB t htm) (ht5 t htm))
        have hB7 := s67 _ _ hB6
        have hks7 : ∀ k ∈ ks, (upd H6 Tp (.tup [.int (2 + (i : Nat)), .ref t.1])) k.1 = some (.tup k.2.vs) := fun k hk => s67 _ _ (hks k hk)
        have B7 := B6.trans (sbut s67)
        generalize upd H6 Tp (.tup [.int (2 + (i : Nat)), .ref t.1]) = H7 at hT7 hl7 hB7 hks7 B7 ⊢
        rw [tb] at hl7
        refine ⟨Tp, _, rfl, SqT.of' hT7, rfl, _, _, rfl, _, _, rfl, rfl, ?_⟩
        refine ⟨_, rfl, _, rfl, _, rfl, ⟨⟨t.1, n, 2 + (i : Nat), b, rfl, hl7, n1, n7, hO.ok b hbm, fun q H8 nq s8 hq => ?_⟩⟩⟩
        have hB8 := s8 _ _ hB7
        have B8 := B7.trans (sbut s8)
        have hks8 : ∀ k ∈ ks, H8 k.1 = some (.tup k.2.vs) := fun k hk => s8 _ _ (hks7 k hk)
        have ksl : ks.length ≤ 100 := by
          have := congrArg List.length eks
          rw [List.length_map, List.length_take] at this
          omega
        have fin : ∃ (v1 v5 v6 : Option V) (ks' : List (Addr × Bar)), [some (V.str z), some (.int (2 + (i : Nat))), some (.ref D), some (.int n), some (.ref B), some (.ref t.1), some (.ref q)] = [some (.str z), v1, some (.ref D), some (.int n), some (.ref B), v5, v6] ∧ But B H5 (upd H8 B (.lst (ks.map (fun k => V.ref k.1) ++ [.ref q]))) ∧
            ks'.map (·.2) = bs.take (i + 1) ∧ (upd H8 B (.lst (ks.map (fun k => V.ref k.1) ++ [.ref q]))) B = some (.lst (ks'.map fun k => V.ref k.1)) ∧ ∀ k ∈ ks', (upd H8 B (.lst (ks.map (fun k => V.ref k.1) ++ [.ref q]))) k.1 = some (.tup k.2.vs) := by
          refine ⟨_, _, _, ks ++ [(q, b)], rfl, fun c o hc e => by rw [upd_ne hc]; exact B8 c o hc e, by rw [List.map_append, eks, etake]; rfl, by rw [upd_same, List.map_append]; rfl, fun k hk => ?_⟩
          rcases List.mem_append.mp hk with h | h
          · have e := hks8 k h
            rw [upd_ne (ne_of e hB8 (by intro z; cases z))]
            exact e
          · rw [List.mem_singleton.mp h, upd_ne (ne_of hq hB8 (by intro z; cases z))]
            exact hq
        have room : (ks.map fun k => V.ref k.1).length < sizeLine := by
          rw [List.length_map]
          exact small1000 (by omega)
        rcases List.eq_nil_or_concat ks with hk0 | ⟨ks0, kl, hk0⟩
        · refine ⟨_, rfl, _, .inl ⟨_, SqL.of hB8, rfl⟩, ?_⟩
          rw [hk0]
          refine iteF (iteF ?_)
          rw [hk0] at hB8 fin room
          exact ⟨_, rfl, .inl ⟨rfl, _, .inl (.inl hB8)⟩, _, rfl, B, _, _, rfl, rfl, hB8, room, fin⟩
        · have hklm : kl ∈ ks := by rw [hk0]; simp
          have klc : kl.2.code < b.code := lower _ (by rw [← eks]; exact List.mem_map_of_mem (f := (·.2)) hklm)
          have klo : kl.2.ok n := hO.ok _ (List.mem_of_mem_take (by rw [← eks]; exact List.mem_map_of_mem (f := (·.2)) hklm))
          have ex : (ks.map fun k => V.ref k.1) = (ks0.map fun k => V.ref k.1) ++ [V.ref kl.1] := by rw [hk0]; simp
          have tru : (!(ks.map fun k => V.ref k.1).isEmpty) = true := by rw [ex]; simp
          refine ⟨_, rfl, _, .inl ⟨_, SqL.of hB8, rfl⟩, ?_⟩
          rw [tru]
          refine iteT ?_
          refine ⟨_, rfl, _, rfl, 1, rfl, B, _, -1, .ref kl.1, rfl, rfl, SqL.of hB8, by rw [ex]; exact atI_last _ _, q, kl.1, b, kl.2, rfl, rfl, SqT.of' hq, SqT.of' (hks8 kl hklm), _, rfl, ?_⟩
          rw [not_leq n7 klo (hO.ok b hbm) klc]
          exact iteF ⟨_, rfl, .inl ⟨rfl, _, .inl (.inl hB8)⟩, _, rfl, B, _, _, rfl, rfl, hB8, room, fin⟩
    · rintro σ H6 ⟨v1, v5, v6, ks, rfl, B6, eks, hB6, hks⟩
      rw [List.length_map, tsl, List.take_length] at eks
      refine ⟨_, rfl, _, rfl, .inl ⟨B, _, rfl, SqL.of hB6, fun q nq => ?_⟩⟩
      obtain ⟨s7, f7⟩ := new_at (o := .tup (ks.map fun k => V.ref k.1)) nq
      have hks7 : ∀ k ∈ ks, (upd H6 q (.tup (ks.map fun k => V.ref k.1))) k.1 = some (.tup k.2.vs) := fun k hk => s7 _ _ (hks k hk)
      have s07 : Same H (upd H6 q (.tup (ks.map fun k => V.ref k.1))) := fun c o e => s7 _ _ (B6 _ _ (ne_of_none e nB0) (s05 _ _ e))
      generalize upd H6 q (.tup (ks.map fun k => V.ref k.1)) = H7 at f7 hks7 s07 ⊢
      intro c dx nc ndx nex
      have s8 : Same H7 (upd (upd H7 dx (.own c)) c (.ins C dx [])) := fun b o e => by
        rw [upd_ne (ne_of_none e nc), upd_ne (ne_of_none e ndx)]
        exact e
      have hBr : BarsAt H7 q ks := ⟨f7, hks7⟩
      refine ⟨⟨c, dx, n, q, ks, rfl, upd_same, n1, n7, hBr.same s8, by rw [eks]; exact hO, fun H9 hx kp => ⟨rfl, ?_⟩⟩⟩
      have s79 : Same H7 H9 := fun b o e => kp b o (ne_of_none e nc) (s8 b o e)
      exact k c H9 (s07.trans s79) ⟨⟨q, ks, ⟨dx, hx⟩, hBr.same s79, eks, hO, n1, n7, b100⟩⟩
end
end DL

set_option Elab.async false
set_option maxRecDepth 100000
set_option maxHeartbeats 2000000
namespace DL
open PySem PySem.Spec PyProof.Rows L2 HT TL
/-! ### lines -/
def headT (n : Int) : Str := (Str.empty ++ ("drawers " : Str)) ++ fig n
def barT (b : Bar) : Str := (((((((Str.empty ++ ("bar " : Str)) ++ fig b.d) ++ (" " : Str)) ++ wd b.w) ++ (" " : Str)) ++ fig b.o) ++ (" " : Str)) ++ wd b.t
theorem app_len (a b : Str) : (a ++ b).length = a.length + b.length := by
  show (a ++ b).cps.size = a.cps.size + b.cps.size
  rw [← Array.length_toList, ← Array.length_toList, ← Array.length_toList]
  exact (congrArg List.length (TL.tl_append a b)).trans (List.length_append ..)
theorem fig_one {n : Int} (h0 : 0 ≤ n) (h7 : n ≤ 7) : (fig n).length = 1 := by
  have z : ∀ m : Fin 8, (fig ((m.val : Nat) : Int)).length = 1 := by decide +kernel
  have := z ⟨n.toNat, by omega⟩
  rw [show ((n.toNat : Nat) : Int) = n by omega] at this
  exact this
theorem wd_len (b : Bool) : (wd b).length = 4 := by revert b; decide +kernel
theorem head_len {n : Int} (h0 : 0 ≤ n) (h7 : n ≤ 7) : (headT n).length = 9 := by
  have e0 : (Str.empty).length = 0 := by decide +kernel
  have e1 : ("drawers " : Str).length = 8 := by decide +kernel
  unfold headT
  rw [app_len, app_len, e0, e1, fig_one h0 h7]
theorem bar_len {b : Bar} (d0 : 0 ≤ b.d) (d7 : b.d ≤ 7) (o0 : 0 ≤ b.o) (o7 : b.o ≤ 7) : (barT b).length = 17 := by
  have e0 : (Str.empty).length = 0 := by decide +kernel
  have e1 : ("bar " : Str).length = 4 := by decide +kernel
  have e2 : (" " : Str).length = 1 := by decide +kernel
  unfold barT
  simp only [app_len, e0, e1, e2, fig_one d0 d7, fig_one o0 o7, wd_len]
theorem tl_inj9 {a b : Str} (h : TL.tl a = TL.tl b) : a = b := PyProof.Rows.ext_toList h
theorem join_one (y a : Str) : Txt.join y [a] = a := by
  refine tl_inj9 ?_
  rw [join_eq, tl_join]
  rfl
theorem join_more (y a b : Str) (l : List Str) : Txt.join y (a :: b :: l) = a ++ (y ++ Txt.join y (b :: l)) := by
  refine tl_inj9 ?_
  rw [join_eq, tl_join, TL.tl_append, TL.tl_append, join_eq, tl_join]
  rfl
theorem head_join (n : Int) : headT n = Txt.join " " [("drawers" : Str), fig n] := by
  rw [join_more, join_one]
  refine tl_inj9 ?_
  unfold headT
  have e1 : TL.tl ("drawers " : Str) = TL.tl ("drawers" : Str) ++ TL.tl (" " : Str) := by decide +kernel
  have e0 : TL.tl Str.empty = [] := rfl
  rw [TL.tl_append, TL.tl_append, TL.tl_append, TL.tl_append, e0, e1, List.nil_append, List.append_assoc]
theorem bar_join (b : Bar) : barT b = Txt.join " " (barW b) := by
  unfold barW
  rw [join_more, join_more, join_more, join_more, join_one]
  refine tl_inj9 ?_
  unfold barT
  have e1 : TL.tl ("bar " : Str) = TL.tl ("bar" : Str) ++ TL.tl (" " : Str) := by decide +kernel
  have e0 : TL.tl Str.empty = [] := rfl
  simp only [TL.tl_append, e0, e1, List.nil_append, List.append_assoc]
/-! ### words between spaces -/
def noSp (x : Str) : Prop := (32 : Nat) ∉ TL.tl x
theorem spaces_split {ps : List Str} (ne : ps ≠ []) (h : ∀ p ∈ ps, noSp p) : Txt.split (Txt.join " " ps) " " = ps := split_join (s := 32) (S := []) rfl (by decide +kernel) ne h
theorem words_join {ps : List Str} (ne : ps ≠ []) (h : ∀ p ∈ ps, noSp p) : wordsL (Txt.join " " ps) = ps.filter (fun x : Str => !decide (x = ("" : Str))) := by
  unfold wordsL
  rw [spaces_split ne h]
theorem fig_noSp {n : Int} (h0 : 0 ≤ n) (h7 : n ≤ 7) : noSp (fig n) ∧ fig n ≠ "" ∧ (10 : Nat) ∉ TL.tl (fig n) := by
  have z : ∀ m : Fin 8, ((32 : Nat) ∉ TL.tl (fig ((m.val : Nat) : Int))) ∧ fig ((m.val : Nat) : Int) ≠ "" ∧ (10 : Nat) ∉ TL.tl (fig ((m.val : Nat) : Int)) := by decide +kernel
  have := z ⟨n.toNat, by omega⟩
  rw [show ((n.toNat : Nat) : Int) = n by omega] at this
  exact this
theorem wd_noSp (b : Bool) : noSp (wd b) ∧ wd b ≠ "" ∧ (10 : Nat) ∉ TL.tl (wd b) := by
  have z : ∀ b : Bool, ((32 : Nat) ∉ TL.tl (wd b)) ∧ wd b ≠ "" ∧ (10 : Nat) ∉ TL.tl (wd b) := by decide +kernel
  exact z b
/-- good words: no spaces, no line ends, not empty -/
def Wd (x : Str) : Prop := noSp x ∧ x ≠ "" ∧ (10 : Nat) ∉ TL.tl x
theorem wd_bar {n : Int} {b : Bar} (n7 : n ≤ 7) (h : b.ok n) : ∀ x ∈ barW b, Wd x := fun x hx => by
  obtain ⟨d0, d1, o0, o1, _⟩ := h
  have g : ((32 : Nat) ∉ TL.tl ("bar" : Str)) ∧ ("bar" : Str) ≠ "" ∧ (10 : Nat) ∉ TL.tl ("bar" : Str) := by decide +kernel
  unfold barW at hx
  simp only [List.mem_cons, List.not_mem_nil, or_false] at hx
  rcases hx with rfl | rfl | rfl | rfl | rfl
  · exact g
  · exact fig_noSp d0 (by omega)
  · exact wd_noSp _
  · exact fig_noSp o0 (by omega)
  · exact wd_noSp _
theorem wd_head {n : Int} (n1 : 1 ≤ n) (n7 : n ≤ 7) : ∀ x ∈ [("drawers" : Str), fig n], Wd x := fun x hx => by
  have g : ((32 : Nat) ∉ TL.tl ("drawers" : Str)) ∧ ("drawers" : Str) ≠ "" ∧ (10 : Nat) ∉ TL.tl ("drawers" : Str) := by decide +kernel
  rcases List.mem_cons.mp hx with rfl | hx
  · exact g
  · rw [List.mem_singleton.mp hx]
    exact fig_noSp (by omega) n7
structure spWrite (C : Addr) (vs : List V) (H : Hp) (Q : VK) (_ : XK) : Prop where
  h : ∃ (c : Addr) (n : Int) (bs : List Bar), vs = [.ref c] ∧ CabOk C H c n bs ∧ ∀ H', Same H H' → Q (.str (Txt.join "\n" (headT n :: bs.map barT))) H'
section
variable {P : Program} {w : World} {K : PySem.W.Frag} {mg : Str → Option Value} {base : Heap}
abbrev nWr : List Str := ["cabinet", "lines", "drawer", "way", "other", "stand"]
theorem scWr : FnScope nWr ["cabinet"] (defScope s_write) := ⟨rfl, rfl, rfl, by decide +kernel, rfl, by decide +kernel, by decide +kernel⟩
theorem ok_write {f f0 C : Addr} {fd fd0 : FuncData} (F : Fun K "write" "write" s_write f fd) (CP : CabP P w K mg base C)
    (G0 : FnOk P w K mg base CX0 1 f0 fd0 ["cabinet"] (spCkCab C)) (g0 : mg "check_cabinet" = some (.ref f0)) (k0 : PySem.W.keepIn K (.ref f0) = true) (b0 : Binds K fd0 ["cabinet"] []) :
    FnOk P w K mg base CX0 4 f fd ["cabinet"] (spWrite C) := by
  refine F.ok scWr (fun vs H Q E h => ?_) (fun cdv A outer s H vs Q E hr h => ?_)
  · obtain ⟨c, n, bs, rfl, _⟩ := h.h
    rfl
  · obtain ⟨c, n, bs, rfl, hC, k⟩ := h.h
    obtain ⟨t, ks, ⟨dx, hc⟩, hB, ebs, hO, n1, n7, b100⟩ := hC.h
    obtain ⟨pD, gD, fdD, hpD, GD, bD⟩ := CP.d
    obtain ⟨pB, gB, fdB, hpB, GB, bB⟩ := CP.b
    refine ⟨_, pss_cons (ps_expr (pe_call G0 (hr.mono (by decide)) rfl g0 k0 b0 .nil pass0 (pa_cons (pv 0) pa_nil)))
      (pss_cons (ps_set (i := 1) scWr.nd rfl (Or.inl rfl) (pe_lst (pa_cons (pe_joined (.cons pe_str (.cons (pe_fmt (pe_prop (pv 0) CP.cl hpD GD (hr.mono (by decide)) bD .nil pass0 rfl)) .nil))) pa_nil)))
      (pss_cons (ps_expr (pe_bm PySem.F.plainAttrs_list PySem.F.slot_list_extend PySem.F.type_list_extend mt_extend (pv 1) (pa_cons
        (pe_lc (own := [("drawer", 2), ("way", 3), ("other", 4), ("stand", 5)]) (g := gTup K 4 (gCons (gName 2) (gCons (gName 3) (gCons (gName 4) (gCons (gName 5) gNil))))) (tt := tYes) (by rfl) scWr.nd (pi_tup (pe_prop (pv 0) CP.cl hpB GB (hr.mono (by decide)) bB .nil pass0 rfl)) (blkOk_by (N := nWr) (sc := defScope s_write) (by decide +kernel))
          (fun _ _ _ _ _ => pg_tupK (K := K) rfl rfl (pgs_cons (pg_name (i := 2) scWr.nd rfl (Or.inl rfl)) (pgs_cons (pg_name (i := 3) scWr.nd rfl (Or.inl rfl)) (pgs_cons (pg_name (i := 4) scWr.nd rfl (Or.inl rfl)) (pgs_cons (pg_name (i := 5) scWr.nd rfl (Or.inl rfl)) pgs_nil))))) (fun _ _ _ _ _ => pts_nil)
          (fun _ _ _ _ _ => pe_joined (.cons pe_str (.cons (pe_fmt (pv 2)) (.cons pe_str (.cons (pe_fmt (pv 3)) (.cons pe_str (.cons (pe_fmt (pv 4)) (.cons pe_str (.cons (pe_fmt (pv 5)) .nil)))))))))) pa_nil)))
      (pss_one (ps_ret (pe_m1 PySem.F.slot_str_join PySem.F.type_str_join mt_join pe_str (pv 1)))))), ?_⟩
    have e0 : (Str.empty).length = 0 := by decide +kernel
    have e1 : ("drawers " : Str).length = 8 := by decide +kernel
    have big : (100 : Nat) ≤ sizeLine := by decide
    have h1 : (Str.empty ++ ("drawers " : Str)).length ≤ sizeLine := by rw [app_len, e0, e1]; omega
    have h2 : (headT n).length ≤ sizeLine := by rw [head_len (by omega) n7]; omega
    refine ⟨_, rfl, ⟨⟨c, n, t, rfl, ⟨dx, hc⟩, ?_⟩⟩⟩
    refine ⟨_, rfl, h1, _, rfl, c, dx, _, rfl, hc, ⟨⟨c, dx, n, t, rfl, hc, .inr ⟨n, rfl, small_log (by omega) (by omega), _, rfl, h2, (by show 1 ≤ sizeLine; decide), fun L nL => ?_⟩⟩⟩⟩
    obtain ⟨s1, f1⟩ := new_at (o := .lst [.str ((Str.empty ++ ("drawers " : Str)) ++ (toString n : Str))]) nL
    have hc1 := s1 _ _ hc
    have hB1 := hB.same s1
    refine ⟨_, rfl, .inl ⟨rfl, _, .inl (.inl f1)⟩, _, rfl, c, dx, _, rfl, hc1, ⟨⟨c, dx, n, t, rfl, hc1, t, rfl, ⟨_, SqT.of' hB1.tu⟩, fun D nD => ?_⟩⟩⟩
    have ksl : ks.length = bs.length := by rw [← ebs, List.length_map]
    refine lc_pick (te := fun σ H Q => tJs [tC (V.str "bar "), tFmt (tVar 2), tC (V.str " "), tFmt (tVar 3), tC (V.str " "), tFmt (tVar 4), tC (V.str " "), tFmt (tVar 5)] Str.empty σ H fun out H1 => Q (V.str out) H1) (walk_tup (K := K) (a := t) (xs := ks.map fun k => V.ref k.1)) ks (by rw [List.length_map]) (by rw [List.length_map]; omega) (fun _ => true) (fun k => V.str (barT k.2)) nD (fun H' s => SqT.of' (s _ _ hB1.tu)) ?_ ?_
    · rintro i x kk H2 H3 Tk Nk ez s ⟨rfl, ex⟩ kT kF
      rw [List.getElem?_map, ez] at ex
      cases ex
      have hm := List.mem_of_getElem? ez
      have hel := s _ _ (hB1.el kk hm)
      obtain ⟨d0, d1, o0, o1, _⟩ := hO.ok kk.2 (by rw [← ebs]; exact List.mem_map_of_mem (f := (·.2)) hm)
      have g1 : ("bar " : Str).length = 4 := by decide +kernel
      have g2 : (" " : Str).length = 1 := by decide +kernel
      have fd := fig_one d0 (show kk.2.d ≤ 7 by omega)
      have fo := fig_one o0 (show kk.2.o ≤ 7 by omega)
      have q1 : (Str.empty ++ ("bar " : Str)).length ≤ sizeLine := by simp only [app_len, e0, g1]; omega
      have q2 : ((Str.empty ++ ("bar " : Str)) ++ fig kk.2.d).length ≤ sizeLine := by simp only [app_len, e0, g1, fd]; omega
      have q3 : (((Str.empty ++ ("bar " : Str)) ++ fig kk.2.d) ++ (" " : Str)).length ≤ sizeLine := by simp only [app_len, e0, g1, g2, fd]; omega
      have q4 : ((((Str.empty ++ ("bar " : Str)) ++ fig kk.2.d) ++ (" " : Str)) ++ wd kk.2.w).length ≤ sizeLine := by simp only [app_len, e0, g1, g2, fd, wd_len]; omega
      have q5 : (((((Str.empty ++ ("bar " : Str)) ++ fig kk.2.d) ++ (" " : Str)) ++ wd kk.2.w) ++ (" " : Str)).length ≤ sizeLine := by simp only [app_len, e0, g1, g2, fd, wd_len]; omega
      have q6 : ((((((Str.empty ++ ("bar " : Str)) ++ fig kk.2.d) ++ (" " : Str)) ++ wd kk.2.w) ++ (" " : Str)) ++ fig kk.2.o).length ≤ sizeLine := by simp only [app_len, e0, g1, g2, fd, fo, wd_len]; omega
      have q7 : (((((((Str.empty ++ ("bar " : Str)) ++ fig kk.2.d) ++ (" " : Str)) ++ wd kk.2.w) ++ (" " : Str)) ++ fig kk.2.o) ++ (" " : Str)).length ≤ sizeLine := by simp only [app_len, e0, g1, g2, fd, fo, wd_len]; omega
      have q8 : (barT kk.2).length ≤ sizeLine := by rw [bar_len d0 (by omega) o0 (by omega)]; omega
      have ww : ∀ b : Bool, (wd b).length ≤ sizeLine := fun b => by rw [wd_len]; omega
      refine ⟨kk.1, _, rfl, SqT.of' hel, rfl, _, _, rfl, _, _, rfl, _, _, rfl, _, _, rfl, rfl, rfl, tYes_of (iteT ?_)⟩
      exact ⟨_, rfl, q1, _, rfl, .inr ⟨_, rfl, small_log d0 (by omega), _, rfl, q2, _, rfl, q3, _, rfl, .inl ⟨_, rfl, ww _, _, rfl, q4, _, rfl, q5, _, rfl, .inr ⟨_, rfl, small_log o0 (by omega), _, rfl, q6, _, rfl, q7, _, rfl, .inl ⟨_, rfl, ww _, _, rfl, q8, kT _ rfl (Same.refl _)⟩⟩⟩⟩⟩
    intro H2 s2 hD
    rw [List.filter_eq_self.mpr fun _ _ => rfl] at hD
    have ebT : (ks.map fun k => V.str (barT k.2)) = (bs.map barT).map V.str := by rw [← ebs, List.map_map, List.map_map]; rfl
    rw [ebT] at hD
    have f2 : H2 L = some (.lst [V.str (headT n)]) := s2 _ _ f1
    refine ⟨L, D, _, _, rfl, rfl, f2, hD, by rw [List.length_map, List.length_map]; exact Nat.le_of_lt (small1000 (n := 1 + bs.length) (by omega)), ?_⟩
    have nL0 : H L = none := nL
    have s3 : Same H (upd H2 L (.lst ([V.str (headT n)] ++ (bs.map barT).map V.str))) := fun b o e => by
      rw [upd_ne (ne_of_none e nL0)]
      exact s2 _ _ (s1 _ _ e)
    refine ⟨⟨_, rfl⟩, _, rfl, "\n", L, headT n :: bs.map barT, rfl, rfl, .inl (SqL.of upd_same), ?_, k _ s3⟩
    have sum : ∀ l : List Bar, (∀ b ∈ l, b.ok n) → ((l.map barT).map (·.length)).sum = 17 * l.length := fun l h => by
      induction l with
      | nil => rfl
      | cons b l ih =>
        obtain ⟨d0, d1, o0, o1, _⟩ := h b List.mem_cons_self
        rw [List.map_cons, List.map_cons, List.sum_cons, ih fun x hx => h x (List.mem_cons_of_mem _ hx), bar_len d0 (by omega) o0 (by omega), List.length_cons]
        omega
    have g3 : ("\n" : Str).length = 1 := by decide +kernel
    rw [List.map_cons, List.sum_cons, sum bs fun b hb => hO.ok b hb, head_len (by omega) n7, List.length_cons, List.length_map, g3]
    omega
end
end DL

set_option Elab.async false
set_option maxRecDepth 100000
set_option maxHeartbeats 1000000
namespace DL
open PySem PySem.Spec PyProof.Rows L2 HT TL
/-! ### lines with more spaces, by their codes -/
theorem joinL_put (w : List Nat) : ∀ (j : Nat) (rest : List (List Nat)), joinL [32] ((w ++ List.replicate j 32) :: rest) = joinL [32] (w :: (List.replicate j [] ++ rest)) := by
  intro j
  induction j generalizing w with
  | zero => intro rest; simp
  | succ j ih =>
    intro rest
    have h := ih [] rest
    rw [List.nil_append] at h
    show _ = joinL [32] (w :: ([] :: (List.replicate j [] ++ rest)))
    show _ = w ++ ([32] ++ joinL [32] ([] :: (List.replicate j [] ++ rest)))
    rw [← h]
    cases rest with
    | nil =>
      show w ++ List.replicate (j + 1) 32 = w ++ ([32] ++ List.replicate j 32)
      rfl
    | cons q r =>
      show (w ++ List.replicate (j + 1) 32) ++ ([32] ++ joinL [32] (q :: r)) = w ++ ([32] ++ (List.replicate j 32 ++ ([32] ++ joinL [32] (q :: r))))
      rw [List.replicate_succ]
      simp
theorem joinL_lead (ps : List (List Nat)) (ne : ps ≠ []) : ∀ k : Nat, List.replicate k 32 ++ joinL [32] ps = joinL [32] (List.replicate k [] ++ ps)
  | 0 => rfl
  | k + 1 => by
    have ih := joinL_lead ps ne k
    have e : ∃ q r, List.replicate k ([] : List Nat) ++ ps = q :: r := by
      cases h : List.replicate k ([] : List Nat) ++ ps with
      | nil => exact absurd (List.append_eq_nil_iff.mp h).2 ne
      | cons q r => exact ⟨q, r, rfl⟩
    obtain ⟨q, r, e⟩ := e
    show (32 :: List.replicate k 32) ++ joinL [32] ps = joinL [32] ([] :: (List.replicate k [] ++ ps))
    rw [e]
    show 32 :: (List.replicate k 32 ++ joinL [32] ps) = [] ++ ([32] ++ joinL [32] (q :: r))
    rw [ih, e]
    rfl
/-- the pieces of a line with more spaces -/
def piecesL : List (Str × Nat) → List Str
  | [] => []
  | (w, j) :: l => w :: (List.replicate j ("" : Str) ++ piecesL l)
theorem joinL_pieces : ∀ l : List (Str × Nat), joinL [32] (l.map fun e => TL.tl e.1 ++ List.replicate e.2 32) = joinL [32] ((piecesL l).map TL.tl)
  | [] => rfl
  | [(w, j)] => by
    show joinL [32] [TL.tl w ++ List.replicate j 32] = joinL [32] (TL.tl w :: ((List.replicate j ("" : Str) ++ []).map TL.tl))
    rw [joinL_put]
    simp
    rfl
  | (w, j) :: e :: l => by
    have ih := joinL_pieces (e :: l)
    have he : ∃ q r, ((e :: l).map fun e => TL.tl e.1 ++ List.replicate e.2 32) = q :: r := ⟨_, _, rfl⟩
    have hp : ∃ q r, (piecesL (e :: l)).map TL.tl = q :: r := ⟨_, _, rfl⟩
    show joinL [32] ((TL.tl w ++ List.replicate j 32) :: ((e :: l).map fun e => TL.tl e.1 ++ List.replicate e.2 32)) = joinL [32] (TL.tl w :: ((List.replicate j ("" : Str) ++ piecesL (e :: l)).map TL.tl))
    rw [joinL_put, List.map_append, List.map_replicate]
    have cong : ∀ (j : Nat) (w : List Nat) (A B : List (List Nat)), A ≠ [] → B ≠ [] → joinL [32] A = joinL [32] B → joinL [32] (w :: (List.replicate j [] ++ A)) = joinL [32] (w :: (List.replicate j [] ++ B)) := by
      intro j
      induction j with
      | zero =>
        intro w A B hA hB h
        obtain ⟨a, A', rfl⟩ := List.exists_cons_of_ne_nil hA
        obtain ⟨b, B', rfl⟩ := List.exists_cons_of_ne_nil hB
        show w ++ ([32] ++ joinL [32] (a :: A')) = w ++ ([32] ++ joinL [32] (b :: B'))
        rw [h]
      | succ j ih2 =>
        intro w A B hA hB h
        show w ++ ([32] ++ joinL [32] ([] :: (List.replicate j [] ++ A))) = w ++ ([32] ++ joinL [32] ([] :: (List.replicate j [] ++ B)))
        rw [ih2 [] A B hA hB h]
    obtain ⟨q, r, eq⟩ := he
    obtain ⟨q2, r2, eq2⟩ := hp
    exact cong j _ _ _ (by rw [eq]; exact List.cons_ne_nil _ _) (by rw [eq2]; exact List.cons_ne_nil _ _) ih
theorem pieces_filter : ∀ l : List (Str × Nat), (∀ e ∈ l, e.1 ≠ ("" : Str)) → (piecesL l).filter (fun x : Str => !decide (x = ("" : Str))) = l.map (·.1)
  | [], _ => rfl
  | (w, j) :: l, h => by
    have hw := h (w, j) List.mem_cons_self
    have rep : (List.replicate j ("" : Str)).filter (fun x : Str => !decide (x = ("" : Str))) = [] := List.filter_eq_nil_iff.mpr fun x hx => by
      rw [List.eq_of_mem_replicate hx]
      simp
    show (w :: (List.replicate j ("" : Str) ++ piecesL l)).filter _ = w :: l.map (·.1)
    rw [List.filter_cons_of_pos (by simp [hw]), List.filter_append, rep, List.nil_append, pieces_filter l fun e he => h e (List.mem_cons_of_mem _ he)]
theorem pieces_noSp : ∀ l : List (Str × Nat), (∀ e ∈ l, noSp e.1) → ∀ x ∈ piecesL l, noSp x
  | [], _, x, hx => by cases hx
  | (w, j) :: l, h, x, hx => by
    rcases List.mem_cons.mp hx with rfl | hx
    · exact h _ List.mem_cons_self
    · rcases List.mem_append.mp hx with hx | hx
      · rw [List.eq_of_mem_replicate hx]
        intro z
        cases z
      · exact pieces_noSp l (fun e he => h e (List.mem_cons_of_mem _ he)) x hx
end DL

set_option Elab.async false
set_option maxRecDepth 100000
set_option maxHeartbeats 2000000
namespace DL
open PySem PySem.Spec PyProof.Rows L2 HT TL
/-- the words of the lines of a cabinet's text, each in its own list -/
structure spText (vs : List V) (H : Hp) (Q : VK) (_ : XK) : Prop where
  h : ∃ (p t : Addr) (n : Int) (ks : List (Addr × Bar)), vs = [.ref p] ∧ H p = some (.lst [.int n, .ref t]) ∧ BarsAt H t ks ∧ 1 ≤ n ∧ n ≤ 7 ∧ OkBars n (ks.map (·.2)) ∧ ks.length ≤ 13 ∧
    ∀ (l : Addr) (ts : List (Addr × List Str)) (H' : Hp), Same H H' → H' l = some (.lst (ts.map fun t => V.ref t.1)) → ts.map (·.2) = [("drawers" : Str), fig n] :: (ks.map (·.2)).map barW → (∀ t ∈ ts, H' t.1 = some (.lst (t.2.map V.str))) → Q (.ref l) H'
section
variable {P : Program} {w : World} {K : PySem.W.Frag} {mg : Str → Option Value} {base : Heap}
abbrev nTx : List Str := ["_law_d", "_law_bar"]
theorem scTx : FnScope nTx ["_law_d"] (defScope s__law_text) := ⟨rfl, rfl, rfl, by decide +kernel, rfl, by decide +kernel, by decide +kernel⟩
theorem ok_lawText {f : Addr} {fd : FuncData} (F : Fun K "_law_text" "_law_text" s__law_text f fd) (zS : mg "str" = none) : FnOk P w K mg base CX0 1 f fd ["_law_d"] spText := by
  refine F.ok scTx (fun vs H Q E h => ?_) (fun cdv A outer s H vs Q E hr h => ?_)
  · obtain ⟨p, t, n, ks, rfl, _⟩ := h.h
    rfl
  · obtain ⟨p, t, n, ks, rfl, hp, hB, n1, n7, hO, k13, k⟩ := h.h
    refine ⟨_, pss_one (ps_ret (pe_op op_cat
      (pe_lst (pa_cons (pe_lst (pa_cons pe_str (pa_cons (pe_callTy call_str_int (by rfl) zS (by decide +kernel) (pa_cons (pe_ix ix_list (pv 0) pe_int (fun _ _ => rfl)) pa_nil)) pa_nil))) pa_nil))
      (pe_lc (own := [("_law_bar", 1)]) (g := gName 1) (tt := tYes) (by rfl) scTx.nd (pi_tup (pe_ix ix_list (pv 0) pe_int (fun _ _ => rfl))) (blkOk_by (N := nTx) (sc := defScope s__law_text) (by decide +kernel)) (fun _ _ _ _ _ => pg_name (i := 1) scTx.nd rfl (Or.inl rfl)) (fun _ _ _ _ _ => pts_nil)
        (fun _ _ _ _ _ => pe_lst (pa_cons pe_str (pa_cons (pe_callTy call_str_int (by rfl) zS (by decide +kernel) (pa_cons (pe_ix (ix_tupK (K := K) rfl) (pv 1) pe_int (fun _ _ => rfl)) pa_nil)) (pa_cons (pe_ix (ix_tupK (K := K) rfl) (pv 1) pe_int (fun _ _ => rfl)) (pa_cons (pe_callTy call_str_int (by rfl) zS (by decide +kernel) (pa_cons (pe_ix (ix_tupK (K := K) rfl) (pv 1) pe_int (fun _ _ => rfl)) pa_nil)) (pa_cons (pe_ix (ix_tupK (K := K) rfl) (pv 1) pe_int (fun _ _ => rfl)) pa_nil))))))))), ?_⟩
    refine ⟨_, rfl, p, _, 0, .int n, rfl, rfl, SqL.of hp, atI_nat (j := 0) rfl, n, rfl, small_log (by omega) (by omega), (by show 2 ≤ sizeLine; decide), fun l0 n0 => ?_⟩
    obtain ⟨s0, f0⟩ := new_at (o := .lst [.str ("drawers" : Str), .str (fig n)]) n0
    have e0 : (upd H l0 (.lst [.str ("drawers" : Str), .str (toString n)])) = upd H l0 (.lst [.str ("drawers" : Str), .str (fig n)]) := rfl
    rw [e0]
    have hp0 := s0 _ _ hp
    have hB0 := hB.same s0
    generalize upd H l0 (.lst [.str ("drawers" : Str), .str (fig n)]) = H0 at s0 f0 hp0 hB0 ⊢
    refine ⟨(by show 1 ≤ sizeLine; decide), fun a na => ?_⟩
    obtain ⟨s1, f1⟩ := new_at (o := .lst [.ref l0]) na
    have hp1 := s1 _ _ hp0
    have hB1 := hB0.same s1
    have f01 := s1 _ _ f0
    have s01 := s0.trans s1
    generalize upd H0 a (.lst [.ref l0]) = H1 at s1 f1 hp1 hB1 f01 s01 ⊢
    refine ⟨_, rfl, p, _, 1, .ref t, rfl, rfl, SqL.of hp1, atI_nat (j := 1) rfl, t, rfl, ⟨_, SqT.of' hB1.tu⟩, fun D nD => ?_⟩
    have nDl0 : l0 ≠ D := ne_of_none f01 nD
    refine lc_it (walk_tup (K := K) (a := t) (xs := ks.map fun k => V.ref k.1)) (fun i H' => Same H1 H' ∧ ∃ ts : List (Addr × List Str), H' D = some (.lst (ts.map fun t => V.ref t.1)) ∧ ts.map (·.2) = ((ks.map (·.2)).take i).map barW ∧ ∀ t ∈ ts, H' t.1 = some (.lst (t.2.map V.str)) ∧ t.1 ≠ D)
      ⟨same_upd nD, [], upd_same, rfl, fun t ht => (by cases ht)⟩ (fun i H' _ q => SqT.of' (q.1 _ _ hB1.tu)) ?_ ?_
    · rintro i x H2 H3 hi ⟨s2, ts, hD, et, ht⟩ ⟨rfl, ex⟩
      rw [List.getElem?_map] at ex
      cases ey : ks[i]? with
      | none => rw [ey] at ex; cases ex
      | some y =>
        rw [ey] at ex
        cases ex
        have hm := List.mem_of_getElem? ey
        have hel := s2 _ _ (hB1.el y hm)
        obtain ⟨d0, d1, o0, o1, _⟩ := hO.ok y.2 (List.mem_map_of_mem (f := (·.2)) hm)
        have tl : ts.length = i := by
          have := congrArg List.length et
          rw [List.length_map, List.length_map, List.length_take, List.length_map] at this
          have := (List.getElem?_eq_some_iff.mp ey).1
          omega
        have i13 : i < 13 := by
          have := (List.getElem?_eq_some_iff.mp ey).1
          omega
        refine ⟨rfl, tYes_of (iteT ?_)⟩
        refine ⟨_, rfl, y.1, _, 0, .int y.2.d, rfl, rfl, SqT.of' hel, atI_nat (j := 0) rfl, _, rfl, small_log d0 (by omega), _, rfl, y.1, _, 1, .str (wd y.2.w), rfl, rfl, SqT.of' hel, atI_nat (j := 1) rfl, _, rfl, y.1, _, 2, .int y.2.o, rfl, rfl, SqT.of' hel, atI_nat (j := 2) rfl, _, rfl, small_log o0 (by omega), _, rfl, y.1, _, 3, .str (wd y.2.t), rfl, rfl, SqT.of' hel, atI_nat (j := 3) rfl, (by show 5 ≤ sizeLine; decide), fun l nl => ?_⟩
        obtain ⟨s3, f3⟩ := new_at (o := .lst ((barW y.2).map V.str)) nl
        show ∃ acc, (upd H3 l (.lst ((barW y.2).map V.str))) D = some (.lst acc) ∧ _
        have hD3 := s3 _ _ hD
        have nlD : l ≠ D := (ne_of_none hD nl).symm
        refine ⟨_, hD3, by rw [List.length_map]; exact small1000 (by omega), fun b o e => ?_, ts ++ [(l, barW y.2)], by rw [upd_same, List.map_append]; rfl, ?_, fun t h => ?_⟩
        · rw [upd_ne (ne_of_none e nD)]
          exact s3 _ _ (s2 _ _ e)
        · have ey2 : (ks.map (·.2))[i]? = some y.2 := by rw [List.getElem?_map, ey]; rfl
          obtain ⟨h1, h2⟩ := List.getElem?_eq_some_iff.mp ey2
          rw [List.map_append, et, List.take_succ_eq_append_getElem h1, h2, List.map_append]
          rfl
        · rcases List.mem_append.mp h with h | h
          · obtain ⟨q1, q2⟩ := ht t h
            exact ⟨by rw [upd_ne q2]; exact s3 _ _ q1, q2⟩
          · rw [List.mem_singleton.mp h]
            exact ⟨by rw [upd_ne nlD]; exact f3, nlD⟩
    rintro H2 ⟨s2, ts, hD, et, ht⟩
    rw [List.length_map] at et
    rw [show ks.length = (ks.map (·.2)).length from (List.length_map _).symm, List.take_length] at et
    have tl : ts.length = ks.length := by
      have := congrArg List.length et
      rw [List.length_map, List.length_map, List.length_map] at this
      exact this
    refine ⟨a, D, _, _, rfl, rfl, s2 _ _ f1, hD, by rw [List.length_map]; exact Nat.le_of_lt (small1000 (n := 1 + ts.length) (by omega)), fun q nq => ?_⟩
    obtain ⟨s3, f3⟩ := new_at (o := .lst ([V.ref l0] ++ ts.map fun t => V.ref t.1)) nq
    have e3 : ([V.ref l0] ++ ts.map fun t => V.ref t.1) = ((l0, [("drawers" : Str), fig n]) :: ts).map fun t => V.ref t.1 := rfl
    rw [e3] at f3 s3 ⊢
    refine k q ((l0, [("drawers" : Str), fig n]) :: ts) _ ((s01.trans s2).trans s3) f3 (by rw [List.map_cons, et]) fun t h => ?_
    rcases List.mem_cons.mp h with rfl | h
    · exact s3 _ _ (s2 _ _ f01)
    · exact s3 _ _ (ht t h).1
end
end DL

set_option Elab.async false
set_option maxRecDepth 100000
set_option maxHeartbeats 2000000
namespace DL
open PySem PySem.Spec PyProof.Rows L2 HT TL
theorem sp_mul {v : Int} (v0 : 0 ≤ v) (v3 : v < 3) : MulOk " " v ∧ (Txt.mul " " v).length ≤ 2 ∧ TL.tl (Txt.mul " " v) = List.replicate v.toNat 32 := by
  have : v = 0 ∨ v = 1 ∨ v = 2 := by omega
  refine ⟨⟨?_, fun a1 a2 => ?_, fun a1 a2 => ?_⟩, ?_, ?_⟩
  · rcases this with rfl | rfl | rfl <;> decide +kernel
  · rcases this with rfl | rfl | rfl <;> first | decide +kernel | exact absurd a1 (by decide +kernel) | exact absurd a2 (by decide +kernel)
  · rcases this with rfl | rfl | rfl <;> first | decide +kernel | exact absurd a1 (by decide +kernel) | exact absurd a2 (by decide +kernel)
  · rcases this with rfl | rfl | rfl <;> decide +kernel
  · rcases this with rfl | rfl | rfl <;> decide +kernel
theorem join_len (y : Str) : ∀ l : List Str, (Txt.join y l).length ≤ (l.map (·.length)).sum + l.length * y.length
  | [] => by
    have e : (Txt.join y []).length = 0 := by
      have : Txt.join y [] = Str.empty := by
        refine tl_inj9 ?_
        rw [join_eq, tl_join]
        rfl
      rw [this]
      decide +kernel
    rw [e]
    exact Nat.zero_le _
  | [a] => by
    rw [join_one]
    simp
  | a :: b :: l => by
    have ih := join_len y (b :: l)
    rw [join_more, app_len, app_len, List.map_cons, List.sum_cons, List.length_cons (as := b :: l), Nat.add_mul, Nat.one_mul]
    omega
theorem sum_le {l : List Nat} {m : Nat} (h : ∀ x ∈ l, x ≤ m) : l.sum ≤ l.length * m := by
  induction l with
  | nil => exact Nat.zero_le _
  | cons a l ih =>
    have h1 := h a List.mem_cons_self
    have h2 := ih fun x hx => h x (List.mem_cons_of_mem _ hx)
    rw [List.sum_cons, List.length_cons, Nat.add_mul, Nat.one_mul]
    omega
/-- a word with spaces behind it -/
def padW (e : Str × Nat) : Str := e.1 ++ Txt.mul " " (e.2 : Int)
structure spWide (K : PySem.W.Frag) (vs : List V) (H : Hp) (Q : VK) (_ : XK) : Prop where
  h : ∃ (r sc : Addr) (ns : List Int) (ps : List Str), vs = [.ref r, .str (Txt.join " " ps)] ∧ RowOk H r sc ∧ SqL K H sc (ns.map V.int) ∧ ps ≠ [] ∧ (∀ p ∈ ps, noSp p ∧ p.length ≤ 100) ∧ ps.length ≤ 5 ∧ (Txt.join " " ps).length ≤ 1000 ∧
    ∀ (es : List (Str × Nat)) (k : Nat) (H' : Hp), es.map (·.1) = ps → (∀ e ∈ es, e.2 ≤ 2) → k ≤ 2 → RowOk H' r sc → But r H H' → Q (.str (Txt.mul " " (k : Int) ++ Txt.join " " (es.map padW))) H'
section
variable {P : Program} {w : World} {K : PySem.W.Frag} {mg : Str → Option Value} {base : Heap}
abbrev nWi : List Str := ["_law_row", "_law_line", "_law_words", "_law_word"]
theorem scWi : FnScope nWi ["_law_row", "_law_line"] (defScope s__law_wide) := ⟨rfl, rfl, rfl, by decide +kernel, rfl, by decide +kernel, by decide +kernel⟩
theorem ok_lawWide {f fT : Addr} {fd dT : FuncData} (F : Fun K "_law_wide" "_law_wide" s__law_wide f fd)
    (GT : FnOk P w K mg base CX0 1 fT dT ["_law_row", "_law_many"] (spTaken K)) (gT : mg "_law_taken" = some (.ref fT)) (kT : PySem.W.keepIn K (.ref fT) = true) (bT : Binds K dT ["_law_row", "_law_many"] []) :
    FnOk P w K mg base CX0 3 f fd ["_law_row", "_law_line"] (spWide K) := by
  refine F.ok scWi (fun vs H Q E h => ?_) (fun cdv A outer s H vs Q E hr h => ?_)
  · obtain ⟨r, sc, ns, ps, rfl, _⟩ := h.h
    rfl
  · obtain ⟨r, sc, ns, ps, rfl, R0, S0, ne, hps, l5, l1000, k⟩ := h.h
    refine ⟨_, pss_cons (ps_setLc (i := 2) (own := [("_law_word", 3)]) (g := gName 3) (tt := tYes) (by rfl) scWi.nd rfl rfl (by rfl) (pi_list (pe_m1 PySem.F.slot_str_split PySem.F.type_str_split mt_split (pv 1) pe_str)) (blkOk_by (N := nWi) (sc := defScope s__law_wide) (by decide +kernel)) (fun _ _ _ _ _ => pg_name (i := 3) scWi.nd rfl (Or.inl rfl)) (fun _ _ _ _ _ => pts_nil)
        (fun _ _ _ _ _ => pe_op op_add_str (pv 3) (pe_op op_mul_str pe_str (pe_call GT (hr.mono (by decide)) rfl gT kT bT .nil pass0 (pa_cons (pv 0) (pa_cons pe_int pa_nil))))))
      (pss_one (ps_ret (pe_op op_add_str (pe_op op_mul_str pe_str (pe_call GT (hr.mono (by decide)) rfl gT kT bT .nil pass0 (pa_cons (pv 0) (pa_cons pe_int pa_nil)))) (pe_m1 PySem.F.slot_str_join PySem.F.type_str_join mt_join pe_str (pv 2))))), ?_⟩
    refine ⟨_, rfl, ⟨_, rfl⟩, _, " ", rfl, rfl, rfl, Nat.le_trans (Nat.add_le_add_right l1000 2) (by decide), fun q hq => ?_⟩
    rw [spaces_split ne fun p hp => (hps p hp).1]
    obtain ⟨s1, f1⟩ := new_at (o := .lst (ps.map V.str)) hq
    obtain ⟨_, _, _, hR0, _⟩ := id R0.h
    have nqr : q ≠ r := (ne_of_none hR0 hq).symm
    have R1 := R0.same s1
    have S1 := s1.seq S0
    generalize upd H q (.lst (ps.map V.str)) = H1 at s1 f1 R1 S1 ⊢
    refine ⟨q, rfl, ⟨_, SqL.of f1⟩, fun D nD => ?_⟩
    obtain ⟨_, _, _, hR1, _⟩ := id R1.h
    have nDr : D ≠ r := (ne_of_none hR1 nD).symm
    refine lc_it (walk_list (K := K) (a := q) (xs := ps.map V.str)) (fun i H' => RowOk H' r sc ∧ But r H1 H' ∧ ∃ es : List (Str × Nat), H' D = some (.lst (es.map fun e => V.str (padW e))) ∧ es.map (·.1) = ps.take i ∧ ∀ e ∈ es, e.2 ≤ 2)
      ⟨R1.same (same_upd nD), sbut (same_upd nD), [], upd_same, rfl, fun e he => (by cases he)⟩ (fun i H' _ h => SqL.of (h.2.1 _ _ nqr f1)) ?_ ?_
    · rintro i x H2 H3 hi ⟨R2, B2, es, hD, ee, he⟩ ⟨rfl, ex⟩
      rw [List.getElem?_map] at ex
      cases ey : ps[i]? with
      | none => rw [ey] at ex; cases ex
      | some y =>
        rw [ey] at ex
        cases ex
        have hy := (hps y (List.mem_of_getElem? ey)).2
        have il := (List.getElem?_eq_some_iff.mp ey).1
        have tl : es.length = i := by
          have := congrArg List.length ee
          rw [List.length_map, List.length_take] at this
          omega
        refine ⟨rfl, tYes_of (iteT ?_)⟩
        refine ⟨_, rfl, _, rfl, ⟨⟨r, sc, ns, 3, rfl, R2, B2.seqR R1 S1, by decide, by decide, fun v H4 v0 v3 R4 B4 => ?_⟩⟩⟩
        obtain ⟨m1, m2, _⟩ := sp_mul v0 v3
        have ev : ((v.toNat : Nat) : Int) = v := by omega
        refine ⟨_, v, rfl, rfl, m1, _, _, rfl, rfl, Nat.le_trans (Nat.add_le_add hy m2) (by decide), ?_⟩
        have hD4 := B4 _ _ nDr hD
        refine ⟨_, hD4, by rw [List.length_map]; exact small1000 (by omega), by obtain ⟨a1, a2, a3, hR, rest⟩ := R4.h; exact ⟨⟨a1, a2, a3, by rw [upd_ne nDr.symm]; exact hR, rest⟩⟩, fun b o nb e => ?_, es ++ [(y, v.toNat)], ?_, ?_, fun e h => ?_⟩
        · rw [upd_ne (ne_of_none e nD)]
          exact B4 _ _ nb (B2 _ _ nb e)
        · rw [upd_same, List.map_append]
          show _ = some (HO.lst ((es.map fun e => V.str (padW e)) ++ [V.str (y ++ Txt.mul " " ((v.toNat : Nat) : Int))]))
          rw [ev]
        · obtain ⟨h1, h2⟩ := List.getElem?_eq_some_iff.mp ey
          rw [List.map_append, ee, List.take_succ_eq_append_getElem h1, h2]
          rfl
        · rcases List.mem_append.mp h with h | h
          · exact he e h
          · rw [List.mem_singleton.mp h]
            show v.toNat ≤ 2
            omega
    rintro H2 ⟨R2, B2, es, hD, ee, he⟩
    rw [List.length_map, List.take_length] at ee
    refine ⟨_, rfl, ⟨⟨r, sc, ns, 3, rfl, R2, B2.seqR R1 S1, by decide, by decide, fun v H4 v0 v3 R4 B4 => ?_⟩⟩⟩
    obtain ⟨m1, m2, _⟩ := sp_mul v0 v3
    have ev : ((v.toNat : Nat) : Int) = v := by omega
    have hD4 := B4 _ _ nDr hD
    have el : es.length = ps.length := by
      have := congrArg List.length ee
      rw [List.length_map] at this
      exact this
    have each : ∀ x ∈ (es.map padW).map (·.length), x ≤ 102 := fun x hx => by
      obtain ⟨z, hz, rfl⟩ := List.mem_map.mp hx
      obtain ⟨e, hem, rfl⟩ := List.mem_map.mp hz
      have g1 := (hps e.1 (by rw [← ee]; exact List.mem_map_of_mem (f := (·.1)) hem)).2
      have g2 := he e hem
      have g3 := (sp_mul (v := (e.2 : Int)) (by omega) (by omega)).2.1
      show (e.1 ++ Txt.mul " " (e.2 : Int)).length ≤ 102
      rw [app_len]
      omega
    have sm := sum_le each
    rw [List.length_map, List.length_map] at sm
    have sm2 : ((es.map padW).map (·.length)).sum ≤ 510 := Nat.le_trans sm (by omega)
    have g1 : (" " : Str).length = 1 := by decide +kernel
    have jl := join_len " " (es.map padW)
    rw [List.length_map, g1] at jl
    have big : (1000 : Nat) ≤ sizeLine := by decide
    refine ⟨_, v, rfl, rfl, m1, ⟨_, rfl⟩, _, rfl, " ", D, es.map padW, rfl, rfl, .inl (SqL.of (by rw [List.map_map]; exact hD4)), by rw [List.length_map, g1]; omega, _, _, rfl, rfl, by omega, ?_⟩
    rw [← ev]
    refine k es v.toNat H4 ee he (by omega) R4 fun b o nb e => B4 _ _ nb (B2 _ _ nb (s1 _ _ e))
end
/-! ### what such a line reads as -/
theorem wide_tl {es : List (Str × Nat)} (h : ∀ e ∈ es, e.2 ≤ 2) (ne : es ≠ []) {k : Nat} (hk : k ≤ 2) : Txt.mul " " (k : Int) ++ Txt.join " " (es.map padW) = Txt.join " " (List.replicate k ("" : Str) ++ piecesL es) := by
  refine tl_inj9 ?_
  have e1 : ∀ l : List (Str × Nat), (∀ e ∈ l, e.2 ≤ 2) → (l.map padW).map TL.tl = l.map fun e => TL.tl e.1 ++ List.replicate e.2 32 := fun l => by
    induction l with
    | nil => intro _; rfl
    | cons a l ih =>
      intro hl
      rw [List.map_cons, List.map_cons, List.map_cons, ih fun e he => hl e (List.mem_cons_of_mem _ he)]
      have g := (sp_mul (v := (a.2 : Int)) (by omega) (by have := hl a List.mem_cons_self; omega)).2.2
      show TL.tl (a.1 ++ Txt.mul " " (a.2 : Int)) :: _ = _
      rw [TL.tl_append, g]
      rfl
  have g := (sp_mul (v := (k : Int)) (by omega) (by omega)).2.2
  rw [TL.tl_append, g, join_eq, tl_join, join_eq, tl_join, e1 es h, List.map_append, List.map_replicate]
  have t1 : TL.tl (" " : Str) = [32] := by decide +kernel
  have t0 : TL.tl ("" : Str) = [] := by decide +kernel
  rw [t1, t0, Int.toNat_natCast, joinL_pieces]
  refine joinL_lead _ ?_ k
  intro z
  cases es with
  | nil => exact ne rfl
  | cons a l => cases z
theorem wide_words {es : List (Str × Nat)} (h : ∀ e ∈ es, e.2 ≤ 2) (ne : es ≠ []) {k : Nat} (hk : k ≤ 2) (hw : ∀ e ∈ es, Wd e.1) :
    wordsL (Txt.mul " " (k : Int) ++ Txt.join " " (es.map padW)) = es.map (·.1) ∧ (Txt.split (Txt.mul " " (k : Int) ++ Txt.join " " (es.map padW)) " ").length = k + (piecesL es).length := by
  rw [wide_tl h ne hk]
  have nn : List.replicate k ("" : Str) ++ piecesL es ≠ [] := by
    intro z
    cases es with
    | nil => exact ne rfl
    | cons a l => exact absurd (List.append_eq_nil_iff.mp z).2 (by intro y; cases y)
  have ns : ∀ p ∈ List.replicate k ("" : Str) ++ piecesL es, noSp p := fun p hp => by
    rcases List.mem_append.mp hp with hp | hp
    · rw [List.eq_of_mem_replicate hp]
      intro z
      cases z
    · exact pieces_noSp es (fun e he => (hw e he).1) p hp
  refine ⟨?_, by rw [spaces_split nn ns, List.length_append, List.length_replicate]⟩
  have rep : (List.replicate k ("" : Str)).filter (fun x : Str => !decide (x = ("" : Str))) = [] := List.filter_eq_nil_iff.mpr fun x hx => by
    rw [List.eq_of_mem_replicate hx]
    simp
  rw [words_join nn ns, List.filter_append, rep, List.nil_append, pieces_filter es fun e he => (hw e he).2.1]
theorem pieces_len : ∀ es : List (Str × Nat), (∀ e ∈ es, e.2 ≤ 2) → (piecesL es).length ≤ 3 * es.length
  | [], _ => Nat.le_refl _
  | (w, j) :: l, h => by
    have ih := pieces_len l fun e he => h e (List.mem_cons_of_mem _ he)
    have hj := h (w, j) List.mem_cons_self
    show (w :: (List.replicate j ("" : Str) ++ piecesL l)).length ≤ _
    rw [List.length_cons, List.length_append, List.length_replicate, List.length_cons]
    have : j ≤ 2 := hj
    omega
/-- no line end in such a line -/
theorem wide_nl {es : List (Str × Nat)} (h : ∀ e ∈ es, e.2 ≤ 2) (ne : es ≠ []) {k : Nat} (hk : k ≤ 2) (hw : ∀ e ∈ es, Wd e.1) : (10 : Nat) ∉ TL.tl (Txt.mul " " (k : Int) ++ Txt.join " " (es.map padW)) := by
  rw [wide_tl h ne hk, join_eq, tl_join]
  have t1 : TL.tl (" " : Str) = [32] := by decide +kernel
  rw [t1]
  have gen : ∀ l : List (List Nat), (∀ x ∈ l, (10 : Nat) ∉ x) → (10 : Nat) ∉ joinL [32] l := fun l => by
    induction l with
    | nil => intro _ z; cases z
    | cons a l ih =>
      intro hl
      cases l with
      | nil => exact hl a List.mem_cons_self
      | cons b l =>
        show (10 : Nat) ∉ a ++ ([32] ++ joinL [32] (b :: l))
        intro z
        rcases List.mem_append.mp z with z | z
        · exact hl a List.mem_cons_self z
        · rcases List.mem_append.mp z with z | z
          · exact absurd (List.mem_singleton.mp z) (by decide)
          · exact ih (fun x hx => hl x (List.mem_cons_of_mem _ hx)) z
  have pc : ∀ l : List (Str × Nat), (∀ e ∈ l, Wd e.1) → ∀ x ∈ piecesL l, (10 : Nat) ∉ TL.tl x := fun l => by
    induction l with
    | nil => intro _ x hx; cases hx
    | cons a l ih =>
      intro hl x hx
      have hx : x ∈ a.1 :: (List.replicate a.2 ("" : Str) ++ piecesL l) := hx
      rcases List.mem_cons.mp hx with rfl | hx
      · exact (hl a List.mem_cons_self).2.2
      · rcases List.mem_append.mp hx with hx | hx
        · rw [List.eq_of_mem_replicate hx]
          intro z
          cases z
        · exact ih (fun e he => hl e (List.mem_cons_of_mem _ he)) x hx
  refine gen _ fun x hx => ?_
  obtain ⟨p, hp, rfl⟩ := List.mem_map.mp hx
  rcases List.mem_append.mp hp with hp | hp
  · rw [List.eq_of_mem_replicate hp]
    intro z
    cases z
  · exact pc es hw p hp
end DL

set_option Elab.async false
set_option maxRecDepth 100000
set_option maxHeartbeats 1000000

set_option Elab.async false
set_option maxRecDepth 100000
set_option maxHeartbeats 1000000
namespace DL
open PySem L2
/-! ### what the law's helper answers, by the fault of the parts -/
/-- the first wrong place of the tuple at t: behind the good ones ks -/
def WrongAt (K : PySem.W.Frag) (H : Hp) (n : Int) (ks : List (Addr × Bar)) (x : V) : Prop :=
  (∀ H', Same H H' → NoBar K H' n x) ∨ ∃ (a : Addr) (b : Bar) (kp : Addr × Bar), x = .ref a ∧ H a = some (.tup b.vs) ∧ b.ok n ∧ 0 < ks.length ∧ ks[ks.length - 1]? = some kp ∧ b.leq kp.2 = true
theorem WrongAt.same {K : PySem.W.Frag} {H H' : Hp} {n : Int} {ks : List (Addr × Bar)} {x : V} (h : WrongAt K H n ks x) (s : Same H H') : WrongAt K H' n ks x := by
  rcases h with h | ⟨a, b, kp, e, h1, h2⟩
  · exact .inl fun H2 s2 => h H2 (s.trans s2)
  · exact .inr ⟨a, b, kp, e, s _ _ h1, h2⟩
/-! ### lists of unlike length are not equal -/
/-! ### the law's odd values -/
end DL

set_option Elab.async false
set_option maxRecDepth 100000
set_option maxHeartbeats 1000000
namespace DL
open PySem L2
/-! ### each of the law's odd values is no bar -/
/-! ### a tuple of bars, cut at a place -/
theorem OkBars.take {n : Int} {bs : List Bar} (h : OkBars n bs) (j : Nat) : OkBars n (bs.take j) := ⟨fun b hb => h.ok b (List.mem_of_mem_take hb), h.asc.sublist (List.take_sublist j bs)⟩
end DL

set_option Elab.async false
set_option maxRecDepth 100000
set_option maxHeartbeats 1000000

set_option Elab.async false
set_option maxRecDepth 100000
set_option maxHeartbeats 4000000
namespace DL
open PySem PySem.Spec PyProof.Rows L2 HT TL
theorem mt_joinK {X : Cx} {K : PySem.W.Frag} (hK : X.K = K) : MtR X "str.join" (fun x xs H Q => ∃ a p, ∃ ys : List Str, x = .str a ∧ xs = [.ref p] ∧ (SqL K H p (ys.map V.str) ∨ SqT K H p (ys.map V.str)) ∧
    (ys.map (·.length)).sum + ys.length * a.length ≤ 16777216 ∧ Q (.str (Txt.join a ys)) H) := by
  subst hK
  exact mt_join
/-- the words of the lines -/
def WW (n : Int) (bs : List Bar) : List (List Str) := [("drawers" : Str), fig n] :: bs.map barW
theorem ws_ok {n : Int} {bs : List Bar} (n1 : 1 ≤ n) (n7 : n ≤ 7) (hO : OkBars n bs) : ∀ ws ∈ WW n bs, ws ≠ [] ∧ ws.length ≤ 5 ∧ ∀ x ∈ ws, Wd x ∧ x.length ≤ 10 := fun ws h => by
  have g1 : ("drawers" : Str).length = 7 := by decide +kernel
  have g2 : ("bar" : Str).length = 3 := by decide +kernel
  rcases List.mem_cons.mp h with rfl | h
  · refine ⟨List.cons_ne_nil _ _, (by show 2 ≤ 5; decide), fun x hx => ⟨wd_head n1 n7 x hx, ?_⟩⟩
    rcases List.mem_cons.mp hx with rfl | hx
    · rw [g1]; decide
    · rw [List.mem_singleton.mp hx, fig_one (by omega) n7]; decide
  · obtain ⟨b, hb, rfl⟩ := List.mem_map.mp h
    have hk := hO.ok b hb
    refine ⟨List.cons_ne_nil _ _, (by show 5 ≤ 5; decide), fun x hx => ⟨wd_bar n7 hk x hx, ?_⟩⟩
    obtain ⟨d0, d1, o0, o1, _⟩ := hk
    unfold barW at hx
    simp only [List.mem_cons, List.not_mem_nil, or_false] at hx
    rcases hx with rfl | rfl | rfl | rfl | rfl
    · rw [g2]; decide
    · rw [fig_one d0 (by omega)]; decide
    · rw [wd_len]; decide
    · rw [fig_one o0 (by omega)]; decide
    · rw [wd_len]; decide
theorem join_nl {ps : List Str} (h : ∀ p ∈ ps, (10 : Nat) ∉ TL.tl p) : (10 : Nat) ∉ TL.tl (Txt.join " " ps) := by
  rw [join_eq, tl_join]
  have t1 : TL.tl (" " : Str) = [32] := by decide +kernel
  rw [t1]
  have gen : ∀ l : List (List Nat), (∀ x ∈ l, (10 : Nat) ∉ x) → (10 : Nat) ∉ joinL [32] l := fun l => by
    induction l with
    | nil => intro _ z; cases z
    | cons a l ih =>
      intro hl
      cases l with
      | nil => exact hl a List.mem_cons_self
      | cons b l =>
        show (10 : Nat) ∉ a ++ ([32] ++ joinL [32] (b :: l))
        intro z
        rcases List.mem_append.mp z with z | z
        · exact hl a List.mem_cons_self z
        · rcases List.mem_append.mp z with z | z
          · exact absurd (List.mem_singleton.mp z) (by decide)
          · exact ih (fun x hx => hl x (List.mem_cons_of_mem _ hx)) z
  refine gen _ fun x hx => ?_
  obtain ⟨p, hp, rfl⟩ := List.mem_map.mp hx
  exact h p hp
/-- a line whose words are these -/
def Good (y : Str) (ws : List Str) : Prop := wordsL y = ws ∧ y.length ≤ 1000 ∧ (Txt.split y " ").length ≤ 1000 ∧ (10 : Nat) ∉ TL.tl y
theorem good_plain {ws : List Str} (ne : ws ≠ []) (l5 : ws.length ≤ 5) (h : ∀ x ∈ ws, Wd x ∧ x.length ≤ 10) : Good (Txt.join " " ws) ws ∧ (Txt.join " " ws).length ≤ 55 ∧ (ws.map (·.length)).sum ≤ 50 := by
  have ns : ∀ p ∈ ws, noSp p := fun p hp => (h p hp).1.1
  have sm : (ws.map (·.length)).sum ≤ ws.length * 10 := by
    have := sum_le (l := ws.map (·.length)) (m := 10) fun x hx => by
      obtain ⟨z, hz, rfl⟩ := List.mem_map.mp hx
      exact (h z hz).2
    rw [List.length_map] at this
    exact this
  have jl := join_len " " ws
  have g1 : (" " : Str).length = 1 := by decide +kernel
  rw [g1] at jl
  refine ⟨⟨?_, by omega, by rw [spaces_split ne ns]; omega, join_nl fun p hp => (h p hp).1.2.2⟩, by omega, by omega⟩
  rw [words_join ne ns]
  exact List.filter_eq_self.mpr fun x hx => by simp [(h x hx).1.2.1]
theorem good_wide {es : List (Str × Nat)} {ws : List Str} {k : Nat} (e : es.map (·.1) = ws) (ne : ws ≠ []) (l5 : ws.length ≤ 5) (h : ∀ x ∈ ws, Wd x ∧ x.length ≤ 10) (h2 : ∀ e ∈ es, e.2 ≤ 2) (hk : k ≤ 2) :
    Good (Txt.mul " " (k : Int) ++ Txt.join " " (es.map padW)) ws ∧ (Txt.mul " " (k : Int) ++ Txt.join " " (es.map padW)).length ≤ 1000 := by
  subst e
  have ne2 : es ≠ [] := fun z => ne (by rw [z]; rfl)
  rw [List.length_map] at l5
  have hw : ∀ e ∈ es, Wd e.1 := fun e he => (h e.1 (List.mem_map_of_mem (f := (·.1)) he)).1
  obtain ⟨w1, w2⟩ := wide_words h2 ne2 hk hw
  have pl := pieces_len es h2
  have sm : ((es.map padW).map (·.length)).sum ≤ es.length * 12 := by
    have := sum_le (l := (es.map padW).map (·.length)) (m := 12) fun x hx => by
      obtain ⟨z, hz, rfl⟩ := List.mem_map.mp hx
      obtain ⟨e, hem, rfl⟩ := List.mem_map.mp hz
      have g1 := (h e.1 (List.mem_map_of_mem (f := (·.1)) hem)).2
      have g2 := h2 e hem
      have g3 := (sp_mul (v := (e.2 : Int)) (by omega) (by omega)).2.1
      show (e.1 ++ Txt.mul " " (e.2 : Int)).length ≤ 12
      rw [app_len]
      omega
    rw [List.length_map, List.length_map] at this
    exact this
  have jl := join_len " " (es.map padW)
  have g1 : (" " : Str).length = 1 := by decide +kernel
  rw [g1, List.length_map] at jl
  have g3 := (sp_mul (v := (k : Int)) (by omega) (by omega)).2.1
  have len : (Txt.mul " " (k : Int) ++ Txt.join " " (es.map padW)).length ≤ 1000 := by
    rw [app_len]
    omega
  exact ⟨⟨w1, len, by rw [w2]; omega, wide_nl h2 ne2 hk hw⟩, len⟩
theorem read_lines {C : Addr} {n : Int} {bs : List Bar} {H : Hp} {Q : VK} {X : XK} {ys : List Str} (hw : ys.map wordsL = WW n bs) (hy : ∀ y ∈ ys, Good y (wordsL y)) (n1 : 1 ≤ n) (n7 : n ≤ 7) (hO : OkBars n bs) (b13 : bs.length ≤ 13)
    (k : ∀ (c : Addr) (H' : Hp), Same H H' → CabOk C H' c n bs → Q (.ref c) H') : spRead C [.str (Txt.join "\n" ys)] H Q X := by
  have yl : ys.length = 1 + bs.length := by
    have := congrArg List.length hw
    unfold WW at this
    rw [List.length_map, List.length_cons, List.length_map] at this
    omega
  have sm : (ys.map (·.length)).sum ≤ ys.length * 1000 := by
    have := sum_le (l := ys.map (·.length)) (m := 1000) fun x hx => by
      obtain ⟨z, hz, rfl⟩ := List.mem_map.mp hx
      exact (hy z hz).2.1
    rw [List.length_map] at this
    exact this
  have jl := join_len "\n" ys
  have g1 : ("\n" : Str).length = 1 := by decide +kernel
  rw [g1] at jl
  have ne : ys ≠ [] := fun z => by rw [z] at yl; simp at yl; omega
  have sp : Txt.split (Txt.join "\n" ys) "\n" = ys := split_join (s := 10) (S := []) rfl (by decide +kernel) ne fun p hp => (hy p hp).2.2.2
  cases ys with
  | nil => exact absurd rfl ne
  | cons z0 zs =>
    unfold WW at hw
    rw [List.map_cons] at hw
    injection hw with e1 e2
    exact ⟨⟨_, z0, zs, n, bs, rfl, by omega, sp, fun y hy2 => ⟨(hy y hy2).2.1, (hy y hy2).2.2.1⟩, e1, e2, n1, n7, hO, by omega, k⟩⟩
def spLaw24 (K : PySem.W.Frag) : Sp := fun vs H Q _ => ∃ (a : Addr) (ns : List Int), vs = [.ref a] ∧ SqL K H a (ns.map V.int) ∧ ns.length ≤ 63 ∧ ∀ H', Q (.bl true) H'
section
variable {P : Program} {w : World} {K : PySem.W.Frag} {mg : Str → Option Value} {base : Heap}
abbrev nLaw24 : List Str := ["_law_script", "_law_row", "_law_turn", "_law_d", "_law_lines", "_law_cabinet", "_law_words", "_law_line"]
theorem scLaw24 : FnScope nLaw24 ["_law_script"] (defScope s_law) := ⟨rfl, rfl, rfl, by decide +kernel, rfl, by decide +kernel, by decide +kernel⟩
theorem ok_law {f fX fP fM fW fR fV fE C : Addr} {fd dX dP dM dW dR dV dE : FuncData} (F : Fun K "law" "law" s_law f fd) (T : Bt mg) (CI : CabI K mg C)
    (GP : FnOk P w K mg base CX0 2 fP dP ["_law_row", "_law_most"] (spParts K)) (gP : mg "_law_parts" = some (.ref fP)) (kP : PySem.W.keepIn K (.ref fP) = true) (bP : Binds K dP ["_law_row", "_law_most"] [])
    (GX : FnOk P w K mg base CX0 1 fX dX ["_law_d"] spText) (gX : mg "_law_text" = some (.ref fX)) (kX : PySem.W.keepIn K (.ref fX) = true) (bX : Binds K dX ["_law_d"] [])
    (GM : FnOk P w K mg base CX0 7 fM dM ["_law_d"] (spMade C)) (gM : mg "_law_made" = some (.ref fM)) (kM : PySem.W.keepIn K (.ref fM) = true) (bM : Binds K dM ["_law_d"] [])
    (GW : FnOk P w K mg base CX0 4 fW dW ["cabinet"] (spWrite C)) (gW : mg "write" = some (.ref fW)) (kW : PySem.W.keepIn K (.ref fW) = true) (bW : Binds K dW ["cabinet"] [])
    (GR : FnOk P w K mg base CX0 8 fR dR ["text"] (spRead C)) (gR : mg "read" = some (.ref fR)) (kR : PySem.W.keepIn K (.ref fR) = true) (bR : Binds K dR ["text"] [])
    (GV : FnOk P w K mg base CX0 3 fV dV ["_law_row", "_law_line"] (spWide K)) (gV : mg "_law_wide" = some (.ref fV)) (kV : PySem.W.keepIn K (.ref fV) = true) (bV : Binds K dV ["_law_row", "_law_line"] [])
    (GE : FnOk P w K mg base CX0 1 fE dE ["self", "other"] (spEqC K C)) (sE : PySem.W.findIn K (.ref C) "__eq__" = some (some (.ref fE))) (iE : PySem.W.isFn K (.ref fE) = true) (bE : Binds K dE ["self", "other"] []) :
    FnOk P w K mg base CX0 9 f fd ["_law_script"] (spLaw24 K) := by
  refine F.ok scLaw24 (fun vs H Q E h => ?_) (fun cdv A outer s H vs Q E hr h => ?_)
  · obtain ⟨a, ns, rfl, _⟩ := h
    rfl
  · obtain ⟨a, ns, rfl, hS, hlen, k⟩ := h
    refine ⟨_, pss_cons (ps_set (i := 1) scLaw24.nd rfl (Or.inr rfl) (pe_lst (pa_cons (pv 0) (pa_cons pe_int (pa_cons pe_int (pa_cons pe_int pa_nil))))))
      (pss_cons (ps_for PassesOwn.never rfl (pi_range1 rfl T.range (pa_cons pe_int pa_nil)) (pg_name (i := 2) scLaw24.nd rfl (Or.inl rfl))
        (pss_cons (ps_set (i := 3) scLaw24.nd rfl (Or.inl rfl) (pe_call GP (hr.mono (by decide)) rfl gP kP bP .nil pass0 (pa_cons (pv 1) (pa_cons pe_int pa_nil))))
        (pss_cons (ps_par (i := 4) (j := 5) (by rfl) scLaw24.nd rfl rfl (by decide) rfl rfl (pa_cons
            (pe_lc (own := [("_law_words", 6)]) (g := gName 6) (tt := tYes) (by rfl) scLaw24.nd (pi_list (pe_call GX (hr.mono (by decide)) rfl gX kX bX .nil pass0 (pa_cons (pv 3) pa_nil))) (blkOk_by (N := nLaw24) (sc := defScope s_law) (by decide +kernel)) (fun _ _ _ _ _ => pg_name (i := 6) scLaw24.nd rfl (Or.inl rfl)) (fun _ _ _ _ _ => pts_nil)
              (fun _ _ _ _ _ => pe_m1 PySem.F.slot_str_join PySem.F.type_str_join (mt_joinK (K := K) rfl) pe_str (pv 6)))
            (pa_cons (pe_call GM (hr.mono (by decide)) rfl gM kM bM .nil pass0 (pa_cons (pv 3) pa_nil)) pa_nil)) (by rfl))
        (pss_cons (ps_if (PW.pt (pw_or (pt_cmpR op_ne (pe_call GW (hr.mono (by decide)) rfl gW kW bW .nil pass0 (pa_cons (pv 5) pa_nil)) (pe_m1 PySem.F.slot_str_join PySem.F.type_str_join mt_join pe_str (pv 4)) (nomark _))
            (pw_or1 (pt_not (pt_cmpR (op_eqOwn (E := E0) sE iE GE bE (hr.mono (by decide)) pass0) (pe_call GR (hr.mono (by decide)) rfl gR kR bR .nil pass0 (pa_cons (pe_m1 PySem.F.slot_str_join PySem.F.type_str_join mt_join pe_str (pv 4)) pa_nil)) (pv 5) (nomark _)))))) (pss_one (ps_ret pe_bl)) pss_nil)
        (pss_one (ps_if (pt_not (pt_cmpR (op_eqOwn (E := E0) sE iE GE bE (hr.mono (by decide)) pass0) (pe_call GR (hr.mono (by decide)) rfl gR kR bR .nil pass0 (pa_cons (pe_m1 PySem.F.slot_str_join PySem.F.type_str_join mt_join pe_str
            (pe_lc (own := [("_law_line", 7)]) (g := gName 7) (tt := tYes) (by rfl) scLaw24.nd (pi_list (pv 4)) (blkOk_by (N := nLaw24) (sc := defScope s_law) (by decide +kernel)) (fun _ _ _ _ _ => pg_name (i := 7) scLaw24.nd rfl (Or.inl rfl)) (fun _ _ _ _ _ => pts_nil)
              (fun _ _ _ _ _ => pe_call GV (hr.mono (by decide)) rfl gV kV bV .nil pass0 (pa_cons (pv 1) (pa_cons (pv 7) pa_nil))))) pa_nil)) (pv 5) (nomark _))) (pss_one (ps_ret pe_bl)) pss_nil))))))
      (pss_one (ps_ret pe_bl))), ?_⟩
    refine ⟨_, rfl, (by show 4 ≤ sizeLine; decide), fun r hr0 => ?_⟩
    have R0 : RowOk (upd H r (.lst [.ref a, .int 0, .int 224, .int 0])) r a := ⟨⟨0, 224, 0, upd_same, by decide, by decide, by decide, by decide⟩⟩
    have S0 : SqL K (upd H r (.lst [.ref a, .int 0, .int 224, .int 0])) a (ns.map V.int) := (same_upd hr0).seq hS
    generalize (upd H r (.lst [.ref a, .int 0, .int 224, .int 0])) = H0 at R0 S0 ⊢
    refine ⟨4, rfl, by decide, by decide, ?_⟩
    refine for_range (lo := 0) (n := 4) (fun i σ H' => ∃ v2 v3 v4 v5 : Option V, σ = [some (.ref a), some (.ref r), v2, v3, v4, v5, none, none] ∧ RowOk H' r a ∧ But r H0 H')
      ⟨_, _, _, _, rfl, R0, But.refl _ _⟩ ?_ ?_
    · rintro i σ H1 hi ⟨v2, v3, v4, v5, rfl, R1, B1⟩
      refine ⟨_, rfl, ⟨⟨r, a, ns, 7, rfl, R1, B1.seqR R0 S0, by decide, by decide, fun p t n ks H2 hp0 ht0 n1 n7 hp hB O h13 R2 B2 => ?_⟩⟩⟩
      have B3 := B1.trans B2
      refine ⟨_, rfl, ⟨⟨p, t, n, ks, rfl, hp, hB, n1, n7, O, h13, fun l ts H3 s3 hl et ht => ?_⟩⟩⟩
      have hbs : ∃ bs, ks.map (·.2) = bs := ⟨_, rfl⟩
      obtain ⟨bs, ebs⟩ := hbs
      have et : ts.map (·.2) = WW n bs := by rw [et, ebs]; rfl
      have O' := O
      rw [ebs] at O
      have b13 : bs.length ≤ 13 := by rw [← ebs, List.length_map]; exact h13
      have okw := ws_ok n1 n7 O
      have okt : ∀ t ∈ ts, t.2 ∈ WW n bs := fun t h => by rw [← et]; exact List.mem_map_of_mem (f := (·.2)) h
      have tsl : ts.length = 1 + bs.length := by
        have := congrArg List.length et
        unfold WW at this
        rw [List.length_map, List.length_cons, List.length_map] at this
        omega
      have hp3 := s3 _ _ hp
      have hB3 := hB.same s3
      have R3 := R2.same s3
      have B4 := B3.trans (sbut s3)
      clear s3 hp hB hp0 ht0 R2 R1 B3 B2 B1
      refine ⟨l, rfl, ⟨_, SqL.of hl⟩, fun D nD => ?_⟩
      refine lc_pick (walk_list (K := K) (a := l) (xs := ts.map fun t => V.ref t.1)) ts (by rw [List.length_map]) (by rw [List.length_map]; omega) (fun _ => true) (fun t => V.str (Txt.join " " t.2)) nD (fun H' s => SqL.of (s _ _ hl)) ?_ ?_
      · rintro j x tt H5 H6 Tk Nk ez s ⟨rfl, ex⟩ kT kF
        rw [List.getElem?_map, ez] at ex
        cases ex
        have hm := List.mem_of_getElem? ez
        obtain ⟨w1, w2, w3⟩ := okw _ (okt tt hm)
        obtain ⟨_, _, sm⟩ := good_plain w1 w2 w3
        have g1 : (" " : Str).length = 1 := by decide +kernel
        refine ⟨rfl, tYes_of (iteT ?_)⟩
        refine ⟨⟨_, rfl⟩, _, rfl, " ", tt.1, tt.2, rfl, rfl, .inl (SqL.of (s _ _ (ht tt hm))), by rw [g1]; omega, kT _ rfl (Same.refl _)⟩
      intro H4 s4 hD
      rw [List.filter_eq_self.mpr fun _ _ => rfl] at hD
      have eD : (ts.map fun t => V.str (Txt.join " " t.2)) = ((headT n :: bs.map barT).map V.str) := by
        have q : ts.map (fun t => V.str (Txt.join " " t.2)) = ((ts.map (·.2)).map (Txt.join " ")).map V.str := by rw [List.map_map, List.map_map]; rfl
        rw [q, et]
        unfold WW
        rw [List.map_cons, ← head_join, List.map_map]
        have q2 : bs.map (Txt.join " " ∘ barW) = bs.map barT := List.map_congr_left fun b _ => (bar_join b).symm
        rw [q2]
      rw [eD] at hD
      have hLL : (headT n :: bs.map barT) = (WW n bs).map (Txt.join " ") := by
        unfold WW
        rw [List.map_cons, ← head_join, List.map_map]
        have q2 : bs.map (Txt.join " " ∘ barW) = bs.map barT := List.map_congr_left fun b _ => (bar_join b).symm
        rw [q2]
      obtain ⟨LL, eLL⟩ : ∃ LL, headT n :: bs.map barT = LL := ⟨_, rfl⟩
      rw [eLL] at hD hLL
      have LLlen : LL.length = 1 + bs.length := by rw [← eLL, List.length_cons, List.length_map]; omega
      have LLg : ∀ y ∈ LL, Good y (wordsL y) ∧ y.length ≤ 55 := fun y h => by
        rw [hLL] at h
        obtain ⟨ws, hw, rfl⟩ := List.mem_map.mp h
        obtain ⟨w1, w2, w3⟩ := okw _ hw
        obtain ⟨g, g2, _⟩ := good_plain w1 w2 w3
        rw [g.1]
        exact ⟨g, g2⟩
      have LLw : LL.map wordsL = WW n bs := by
        rw [hLL, List.map_map]
        refine (List.map_congr_left (g := id) fun ws hw => ?_).trans (List.map_id _)
        obtain ⟨w1, w2, w3⟩ := okw _ hw
        exact (good_plain w1 w2 w3).1.1
      have LLs : (LL.map (·.length)).sum + LL.length * ("\n" : Str).length ≤ 16777216 := by
        have := sum_le (l := LL.map (·.length)) (m := 55) fun x hx => by
          obtain ⟨z, hz, rfl⟩ := List.mem_map.mp hx
          exact (LLg z hz).2
        have g1 : ("\n" : Str).length = 1 := by decide +kernel
        rw [List.length_map] at this
        rw [g1]
        omega
      have nfC : PySem.W.notFirst K C (.ref C) = true := by simp [PySem.W.notFirst]
      have same_bars : ∀ ks2 : List (Addr × Bar), ks2.map (·.2) = bs → (ks2.map fun k => barD k.2) = (ks.map fun k => barD k.2) := fun ks2 e => by
        have := congrArg (List.map barD) (e.trans ebs.symm)
        rw [List.map_map, List.map_map] at this
        exact this
      have hp4 := s4 _ _ hp3
      have hB4 := hB3.same s4
      have R4 := R3.same s4
      have B5 := B4.trans (sbut s4)
      refine ⟨_, rfl, ⟨⟨p, t, n, ks, [], rfl, hp4, n1, n7, hB4, O', fun c H5 hc0 hcab s5 => ?_⟩⟩⟩
      have hD5 := s5 _ _ hD
      have R5 := R4.same s5
      have B6 := B5.trans (sbut s5)
      have hB5 := hB4.same s5
      obtain ⟨dx, hc⟩ := hcab
      have cabC : CabOk C H5 c n bs := ⟨⟨t, ks, ⟨dx, hc⟩, hB5, ebs, O, n1, n7, by omega⟩⟩
      clear s5 hp4 hB4 R4 B5 hB3 R3 B4 hp3 hD s4 ht hl nD hc0
      refine ⟨_, _, rfl, ?_⟩
      refine ⟨_, rfl, ⟨⟨c, n, bs, rfl, cabC, fun H6 s6 => ?_⟩⟩⟩
      have hD6 := s6 _ _ hD5
      refine ⟨⟨_, rfl⟩, _, rfl, "\n", D, LL, rfl, rfl, .inl (SqL.of hD6), LLs, ?_⟩
      rw [eLL]
      refine ⟨rfl, _, rfl, iteNS rfl ?_⟩
      refine ⟨⟨_, rfl⟩, _, rfl, "\n", D, LL, rfl, rfl, .inl (SqL.of hD6), LLs, read_lines LLw (fun y h => (LLg y h).1) n1 n7 O b13 fun c2 H7 s7 cab2 => ?_⟩
      have s57 := s6.trans s7
      obtain ⟨t2, ks2, ⟨dx2, hc2⟩, hB2, eks2, _⟩ := cab2.h
      have hc7 := s57 _ _ hc
      refine ⟨_, rfl, c2, dx2, _, .ref C, rfl, hc2, .base (.ins hc7 CI.cl CI.ha CI.hn CI.htk CI.hm), nfC, ⟨⟨c2, dx2, n, t2, _, rfl, hc2, .inr ⟨c, dx, n, t, ks2, ks, rfl, hc7, hB2, hB5.same s57, _, rfl, ?_⟩⟩⟩⟩
      rw [same_bars ks2 eks2, eqv_self (dok_tuple (dok_bars ks)), decide_eq_true (rfl : n = n)]
      refine iteF ?_
      have hD7 := s57 _ _ hD5
      have hB7 := hB5.same s57
      have R7 := R5.same s57
      have B7 := B6.trans (sbut s57)
      clear hc2 hB2 s7 s6 cab2 hD6 hc hB5 R5 B6 hD5 cabC s57
      obtain ⟨_, _, _, hR7, _⟩ := id R7.h
      have nDr : D ≠ r := ne_of hD7 hR7 (by
        intro z
        injection z with z
        have := congrArg List.length z
        rw [List.length_map, LLlen] at this
        have z0 := congrArg (·[0]?) z
        rw [← eLL] at z0
        cases z0)
      have ncr : c ≠ r := ne_of hc7 hR7 (by intro z; cases z)
      refine ⟨⟨_, rfl⟩, _, rfl, D, rfl, ⟨_, SqL.of hD7⟩, fun E nE => ?_⟩
      have nEr : E ≠ r := (ne_of_none hR7 nE).symm
      refine lc_it (walk_list (K := K) (a := D) (xs := LL.map V.str)) (fun i H' => RowOk H' r a ∧ But r H7 H' ∧ ∃ ys : List Str, H' E = some (.lst (ys.map V.str)) ∧ ys.map wordsL = (WW n bs).take i ∧ ∀ y ∈ ys, Good y (wordsL y))
        ⟨R7.same (same_upd nE), sbut (same_upd nE), [], upd_same, rfl, fun e he => (by cases he)⟩ (fun i H' _ h => SqL.of (h.2.1 _ _ nDr hD7)) ?_ ?_
      · rintro j x H8 H9 hj ⟨R8, B8, ys, hE, ey, gy⟩ ⟨rfl, ex⟩
        rw [List.getElem?_map, hLL, List.getElem?_map] at ex
        cases ew : (WW n bs)[j]? with
        | none => rw [ew] at ex; cases ex
        | some ws =>
          rw [ew] at ex
          cases ex
          obtain ⟨w1, w2, w3⟩ := okw _ (List.mem_of_getElem? ew)
          obtain ⟨g, g55, _⟩ := good_plain w1 w2 w3
          have jl := (List.getElem?_eq_some_iff.mp ew).1
          have Wl : (WW n bs).length = 1 + bs.length := by unfold WW; rw [List.length_cons, List.length_map]; omega
          have yl : ys.length = j := by
            have := congrArg List.length ey
            rw [List.length_map, List.length_take] at this
            omega
          refine ⟨rfl, tYes_of (iteT ?_)⟩
          refine ⟨_, rfl, _, rfl, ⟨⟨r, a, ns, ws, rfl, R8, (B7.trans B8).seqR R0 S0, w1, fun p hp => ⟨(w3 p hp).1.1, Nat.le_trans (w3 p hp).2 (by decide)⟩, w2, Nat.le_trans g55 (by decide), fun es kk H10 ee he hk R10 B10 => ?_⟩⟩⟩
          have gw := (good_wide ee w1 w2 w3 he hk).1
          have hE10 := B10 _ _ nEr hE
          refine ⟨_, hE10, by rw [List.length_map]; exact small1000 (by omega), by obtain ⟨a1, a2, a3, hR, rest⟩ := R10.h; exact ⟨⟨a1, a2, a3, by rw [upd_ne nEr.symm]; exact hR, rest⟩⟩, fun b o nb e => ?_, ys ++ [Txt.mul " " (kk : Int) ++ Txt.join " " (es.map padW)], by rw [upd_same, List.map_append]; rfl, ?_, fun y h => ?_⟩
          · rw [upd_ne (ne_of_none e nE)]
            exact B10 _ _ nb (B8 _ _ nb e)
          · obtain ⟨h1, h2⟩ := List.getElem?_eq_some_iff.mp ew
            rw [List.map_append, ey, List.take_succ_eq_append_getElem h1, h2, ← gw.1]
            rfl
          · rcases List.mem_append.mp h with h | h
            · exact gy y h
            · rw [List.mem_singleton.mp h, gw.1]
              exact gw
      rintro H8 ⟨R8, B8, ys, hE, ey, gy⟩
      have Wl : (WW n bs).length = LL.length := by rw [hLL, List.length_map]
      rw [List.length_map, ← Wl, List.take_length] at ey
      have yl : ys.length = 1 + bs.length := by
        have := congrArg List.length ey
        rw [List.length_map, Wl, LLlen] at this
        exact this
      have YYs : (ys.map (·.length)).sum + ys.length * ("\n" : Str).length ≤ 16777216 := by
        have := sum_le (l := ys.map (·.length)) (m := 1000) fun x hx => by
          obtain ⟨z, hz, rfl⟩ := List.mem_map.mp hx
          exact (gy z hz).2.1
        have g1 : ("\n" : Str).length = 1 := by decide +kernel
        rw [List.length_map] at this
        rw [g1]
        omega
      have hc8 := B8 _ _ ncr hc7
      have hB8 : BarsAt H8 t ks := ⟨B8.tup hR7 hB7.tu, fun k hk => B8.tup hR7 (hB7.el k hk)⟩
      refine ⟨_, E, ys, rfl, rfl, .inl (SqL.of hE), YYs, read_lines ey gy n1 n7 O b13 fun c3 H9 s9 cab3 => ?_⟩
      obtain ⟨t3, ks3, ⟨dx3, hc3⟩, hB3, eks3, _⟩ := cab3.h
      have hc9 := s9 _ _ hc8
      refine ⟨_, rfl, c3, dx3, _, .ref C, rfl, hc3, .base (.ins hc9 CI.cl CI.ha CI.hn CI.htk CI.hm), nfC, ⟨⟨c3, dx3, n, t3, _, rfl, hc3, .inr ⟨c, dx, n, t, ks3, ks, rfl, hc9, hB3, hB8.same s9, _, rfl, ?_⟩⟩⟩⟩
      rw [same_bars ks3 eks3, eqv_self (dok_tuple (dok_bars ks)), decide_eq_true (rfl : n = n)]
      refine iteF ?_
      exact ⟨_, _, _, _, rfl, R8.same s9, (B7.trans B8).trans (sbut s9)⟩
    · rintro σ H1 ⟨v2, v3, v4, v5, rfl, _, _⟩
      exact k _
end
end DL

set_option Elab.async false
set_option maxRecDepth 100000
set_option maxHeartbeats 8000000
namespace DL
open PySem L2 HT TL
/-! ### what the top has written -/
theorem all_mk {l : PySem.W.OpenLaw} {w : World} {K : PySem.W.Frag} {h : Heap} {mg : Str → Option Value} {fa : Addr} (X : K.In h) (G : h.Ns mainGlobals mg) (hfa : mg "law" = some (.ref fa))
    {f_is_integer : Addr} {od_is_integer an_is_integer : Option Addr} {sl_is_integer : Array (Option Value)} {oc_is_integer kV_is_integer dc_is_integer pm_is_integer cd_is_integer ct_is_integer : Value}
    {f_is_drawer_count : Addr} {od_is_drawer_count an_is_drawer_count : Option Addr} {sl_is_drawer_count : Array (Option Value)} {oc_is_drawer_count kV_is_drawer_count dc_is_drawer_count pm_is_drawer_count cd_is_drawer_count ct_is_drawer_count : Value}
    {f_is_drawer : Addr} {od_is_drawer an_is_drawer : Option Addr} {sl_is_drawer : Array (Option Value)} {oc_is_drawer kV_is_drawer dc_is_drawer pm_is_drawer cd_is_drawer ct_is_drawer : Value}
    {f_is_bar : Addr} {od_is_bar an_is_bar : Option Addr} {sl_is_bar : Array (Option Value)} {oc_is_bar kV_is_bar dc_is_bar pm_is_bar cd_is_bar ct_is_bar : Value}
    {f_check_drawers : Addr} {od_check_drawers an_check_drawers : Option Addr} {sl_check_drawers : Array (Option Value)} {oc_check_drawers kV_check_drawers dc_check_drawers pm_check_drawers cd_check_drawers ct_check_drawers : Value}
    {f_check_bars : Addr} {od_check_bars an_check_bars : Option Addr} {sl_check_bars : Array (Option Value)} {oc_check_bars kV_check_bars dc_check_bars pm_check_bars cd_check_bars ct_check_bars : Value}
    {f__law_taken : Addr} {od__law_taken an__law_taken : Option Addr} {sl__law_taken : Array (Option Value)} {oc__law_taken kV__law_taken dc__law_taken pm__law_taken cd__law_taken ct__law_taken : Value}
    {f__law_parts : Addr} {od__law_parts an__law_parts : Option Addr} {sl__law_parts : Array (Option Value)} {oc__law_parts kV__law_parts dc__law_parts pm__law_parts cd__law_parts ct__law_parts : Value}
    {f__law_made : Addr} {od__law_made an__law_made : Option Addr} {sl__law_made : Array (Option Value)} {oc__law_made kV__law_made dc__law_made pm__law_made cd__law_made ct__law_made : Value}
    {f_check_cabinet : Addr} {od_check_cabinet an_check_cabinet : Option Addr} {sl_check_cabinet : Array (Option Value)} {oc_check_cabinet kV_check_cabinet dc_check_cabinet pm_check_cabinet cd_check_cabinet ct_check_cabinet : Value}
    {f_words_of : Addr} {od_words_of an_words_of : Option Addr} {sl_words_of : Array (Option Value)} {oc_words_of kV_words_of dc_words_of pm_words_of cd_words_of ct_words_of : Value}
    {f_check_words : Addr} {od_check_words an_check_words : Option Addr} {sl_check_words : Array (Option Value)} {oc_check_words kV_check_words dc_check_words pm_check_words cd_check_words ct_check_words : Value}
    {f_read_drawers : Addr} {od_read_drawers an_read_drawers : Option Addr} {sl_read_drawers : Array (Option Value)} {oc_read_drawers kV_read_drawers dc_read_drawers pm_read_drawers cd_read_drawers ct_read_drawers : Value}
    {f_read_bar : Addr} {od_read_bar an_read_bar : Option Addr} {sl_read_bar : Array (Option Value)} {oc_read_bar kV_read_bar dc_read_bar pm_read_bar cd_read_bar ct_read_bar : Value}
    {f_read : Addr} {od_read an_read : Option Addr} {sl_read : Array (Option Value)} {oc_read kV_read dc_read pm_read cd_read ct_read : Value}
    {f_write : Addr} {od_write an_write : Option Addr} {sl_write : Array (Option Value)} {oc_write kV_write dc_write pm_write cd_write ct_write : Value}
    {f__law_text : Addr} {od__law_text an__law_text : Option Addr} {sl__law_text : Array (Option Value)} {oc__law_text kV__law_text dc__law_text pm__law_text cd__law_text ct__law_text : Value}
    {f__law_wide : Addr} {od__law_wide an__law_wide : Option Addr} {sl__law_wide : Array (Option Value)} {oc__law_wide kV__law_wide dc__law_wide pm__law_wide cd__law_wide ct__law_wide : Value}
    {f_law : Addr} {od_law an_law : Option Addr} {sl_law : Array (Option Value)} {oc_law kV_law dc_law pm_law cd_law ct_law : Value}
    {C : Addr}
    {f_Cabinet___init__ : Addr} {od_Cabinet___init__ an_Cabinet___init__ : Option Addr} {sl_Cabinet___init__ : Array (Option Value)} {oc_Cabinet___init__ kV_Cabinet___init__ dc_Cabinet___init__ pm_Cabinet___init__ cd_Cabinet___init__ ct_Cabinet___init__ : Value}
    {f_Cabinet___eq__ : Addr} {od_Cabinet___eq__ an_Cabinet___eq__ : Option Addr} {sl_Cabinet___eq__ : Array (Option Value)} {oc_Cabinet___eq__ kV_Cabinet___eq__ dc_Cabinet___eq__ pm_Cabinet___eq__ cd_Cabinet___eq__ ct_Cabinet___eq__ : Value}
    {p_drawers : Addr} {rest_drawers : List Value}
    {f_Cabinet_drawers : Addr} {od_Cabinet_drawers an_Cabinet_drawers : Option Addr} {sl_Cabinet_drawers : Array (Option Value)} {oc_Cabinet_drawers kV_Cabinet_drawers dc_Cabinet_drawers pm_Cabinet_drawers cd_Cabinet_drawers ct_Cabinet_drawers : Value}
    {p_bars : Addr} {rest_bars : List Value}
    {f_Cabinet_bars : Addr} {od_Cabinet_bars an_Cabinet_bars : Option Addr} {sl_Cabinet_bars : Array (Option Value)} {oc_Cabinet_bars kV_Cabinet_bars dc_Cabinet_bars pm_Cabinet_bars cd_Cabinet_bars ct_Cabinet_bars : Value}
    {tM : Tok}
    {fW : Addr}
    {ddW : Option Addr} {tW1 tW2 : Tok} {nW : Nat} {slW : Array (Option Value)}
    (a_is_integer : PySem.W.nsIn K mainGlobals "is_integer" = some (some (.ref f_is_integer)))
    (l_is_integer : K.lookup f_is_integer = some ⟨oc_is_integer, od_is_integer, .func (PySem.W.fnOf "is_integer" "is_integer" (defArgs sIsInt) (defBody sIsInt) (defScope sIsInt) .none kV_is_integer dc_is_integer pm_is_integer an_is_integer cd_is_integer ct_is_integer), sl_is_integer⟩)
    (c_is_integer : PySem.W.codeIn K cd_is_integer "is_integer" = true)
    (k_is_integer : PySem.W.keepIn K (.ref f_is_integer) = true)
    (a_is_drawer_count : PySem.W.nsIn K mainGlobals "is_drawer_count" = some (some (.ref f_is_drawer_count)))
    (l_is_drawer_count : K.lookup f_is_drawer_count = some ⟨oc_is_drawer_count, od_is_drawer_count, .func (PySem.W.fnOf "is_drawer_count" "is_drawer_count" (defArgs sIsCount) (defBody sIsCount) (defScope sIsCount) .none kV_is_drawer_count dc_is_drawer_count pm_is_drawer_count an_is_drawer_count cd_is_drawer_count ct_is_drawer_count), sl_is_drawer_count⟩)
    (c_is_drawer_count : PySem.W.codeIn K cd_is_drawer_count "is_drawer_count" = true)
    (k_is_drawer_count : PySem.W.keepIn K (.ref f_is_drawer_count) = true)
    (a_is_drawer : PySem.W.nsIn K mainGlobals "is_drawer" = some (some (.ref f_is_drawer)))
    (l_is_drawer : K.lookup f_is_drawer = some ⟨oc_is_drawer, od_is_drawer, .func (PySem.W.fnOf "is_drawer" "is_drawer" (defArgs sIsDrawer) (defBody sIsDrawer) (defScope sIsDrawer) .none kV_is_drawer dc_is_drawer pm_is_drawer an_is_drawer cd_is_drawer ct_is_drawer), sl_is_drawer⟩)
    (c_is_drawer : PySem.W.codeIn K cd_is_drawer "is_drawer" = true)
    (k_is_drawer : PySem.W.keepIn K (.ref f_is_drawer) = true)
    (a_is_bar : PySem.W.nsIn K mainGlobals "is_bar" = some (some (.ref f_is_bar)))
    (l_is_bar : K.lookup f_is_bar = some ⟨oc_is_bar, od_is_bar, .func (PySem.W.fnOf "is_bar" "is_bar" (defArgs sIsBar) (defBody sIsBar) (defScope sIsBar) .none kV_is_bar dc_is_bar pm_is_bar an_is_bar cd_is_bar ct_is_bar), sl_is_bar⟩)
    (c_is_bar : PySem.W.codeIn K cd_is_bar "is_bar" = true)
    (k_is_bar : PySem.W.keepIn K (.ref f_is_bar) = true)
    (a_check_drawers : PySem.W.nsIn K mainGlobals "check_drawers" = some (some (.ref f_check_drawers)))
    (l_check_drawers : K.lookup f_check_drawers = some ⟨oc_check_drawers, od_check_drawers, .func (PySem.W.fnOf "check_drawers" "check_drawers" (defArgs sCheckDrawers) (defBody sCheckDrawers) (defScope sCheckDrawers) .none kV_check_drawers dc_check_drawers pm_check_drawers an_check_drawers cd_check_drawers ct_check_drawers), sl_check_drawers⟩)
    (c_check_drawers : PySem.W.codeIn K cd_check_drawers "check_drawers" = true)
    (k_check_drawers : PySem.W.keepIn K (.ref f_check_drawers) = true)
    (a_check_bars : PySem.W.nsIn K mainGlobals "check_bars" = some (some (.ref f_check_bars)))
    (l_check_bars : K.lookup f_check_bars = some ⟨oc_check_bars, od_check_bars, .func (PySem.W.fnOf "check_bars" "check_bars" (defArgs sCheckBars) (defBody sCheckBars) (defScope sCheckBars) .none kV_check_bars dc_check_bars pm_check_bars an_check_bars cd_check_bars ct_check_bars), sl_check_bars⟩)
    (c_check_bars : PySem.W.codeIn K cd_check_bars "check_bars" = true)
    (k_check_bars : PySem.W.keepIn K (.ref f_check_bars) = true)
    (a__law_taken : PySem.W.nsIn K mainGlobals "_law_taken" = some (some (.ref f__law_taken)))
    (l__law_taken : K.lookup f__law_taken = some ⟨oc__law_taken, od__law_taken, .func (PySem.W.fnOf "_law_taken" "_law_taken" (defArgs sTaken) (defBody sTaken) (defScope sTaken) .none kV__law_taken dc__law_taken pm__law_taken an__law_taken cd__law_taken ct__law_taken), sl__law_taken⟩)
    (c__law_taken : PySem.W.codeIn K cd__law_taken "_law_taken" = true)
    (k__law_taken : PySem.W.keepIn K (.ref f__law_taken) = true)
    (a__law_parts : PySem.W.nsIn K mainGlobals "_law_parts" = some (some (.ref f__law_parts)))
    (l__law_parts : K.lookup f__law_parts = some ⟨oc__law_parts, od__law_parts, .func (PySem.W.fnOf "_law_parts" "_law_parts" (defArgs sParts) (defBody sParts) (defScope sParts) .none kV__law_parts dc__law_parts pm__law_parts an__law_parts cd__law_parts ct__law_parts), sl__law_parts⟩)
    (c__law_parts : PySem.W.codeIn K cd__law_parts "_law_parts" = true)
    (k__law_parts : PySem.W.keepIn K (.ref f__law_parts) = true)
    (a__law_made : PySem.W.nsIn K mainGlobals "_law_made" = some (some (.ref f__law_made)))
    (l__law_made : K.lookup f__law_made = some ⟨oc__law_made, od__law_made, .func (PySem.W.fnOf "_law_made" "_law_made" (defArgs sMade) (defBody sMade) (defScope sMade) .none kV__law_made dc__law_made pm__law_made an__law_made cd__law_made ct__law_made), sl__law_made⟩)
    (c__law_made : PySem.W.codeIn K cd__law_made "_law_made" = true)
    (k__law_made : PySem.W.keepIn K (.ref f__law_made) = true)
    (a_check_cabinet : PySem.W.nsIn K mainGlobals "check_cabinet" = some (some (.ref f_check_cabinet)))
    (l_check_cabinet : K.lookup f_check_cabinet = some ⟨oc_check_cabinet, od_check_cabinet, .func (PySem.W.fnOf "check_cabinet" "check_cabinet" (defArgs s_check_cabinet) (defBody s_check_cabinet) (defScope s_check_cabinet) .none kV_check_cabinet dc_check_cabinet pm_check_cabinet an_check_cabinet cd_check_cabinet ct_check_cabinet), sl_check_cabinet⟩)
    (c_check_cabinet : PySem.W.codeIn K cd_check_cabinet "check_cabinet" = true)
    (k_check_cabinet : PySem.W.keepIn K (.ref f_check_cabinet) = true)
    (a_words_of : PySem.W.nsIn K mainGlobals "words_of" = some (some (.ref f_words_of)))
    (l_words_of : K.lookup f_words_of = some ⟨oc_words_of, od_words_of, .func (PySem.W.fnOf "words_of" "words_of" (defArgs s_words_of) (defBody s_words_of) (defScope s_words_of) .none kV_words_of dc_words_of pm_words_of an_words_of cd_words_of ct_words_of), sl_words_of⟩)
    (c_words_of : PySem.W.codeIn K cd_words_of "words_of" = true)
    (k_words_of : PySem.W.keepIn K (.ref f_words_of) = true)
    (a_check_words : PySem.W.nsIn K mainGlobals "check_words" = some (some (.ref f_check_words)))
    (l_check_words : K.lookup f_check_words = some ⟨oc_check_words, od_check_words, .func (PySem.W.fnOf "check_words" "check_words" (defArgs s_check_words) (defBody s_check_words) (defScope s_check_words) .none kV_check_words dc_check_words pm_check_words an_check_words cd_check_words ct_check_words), sl_check_words⟩)
    (c_check_words : PySem.W.codeIn K cd_check_words "check_words" = true)
    (k_check_words : PySem.W.keepIn K (.ref f_check_words) = true)
    (a_read_drawers : PySem.W.nsIn K mainGlobals "read_drawers" = some (some (.ref f_read_drawers)))
    (l_read_drawers : K.lookup f_read_drawers = some ⟨oc_read_drawers, od_read_drawers, .func (PySem.W.fnOf "read_drawers" "read_drawers" (defArgs s_read_drawers) (defBody s_read_drawers) (defScope s_read_drawers) .none kV_read_drawers dc_read_drawers pm_read_drawers an_read_drawers cd_read_drawers ct_read_drawers), sl_read_drawers⟩)
    (c_read_drawers : PySem.W.codeIn K cd_read_drawers "read_drawers" = true)
    (k_read_drawers : PySem.W.keepIn K (.ref f_read_drawers) = true)
    (a_read_bar : PySem.W.nsIn K mainGlobals "read_bar" = some (some (.ref f_read_bar)))
    (l_read_bar : K.lookup f_read_bar = some ⟨oc_read_bar, od_read_bar, .func (PySem.W.fnOf "read_bar" "read_bar" (defArgs s_read_bar) (defBody s_read_bar) (defScope s_read_bar) .none kV_read_bar dc_read_bar pm_read_bar an_read_bar cd_read_bar ct_read_bar), sl_read_bar⟩)
    (c_read_bar : PySem.W.codeIn K cd_read_bar "read_bar" = true)
    (k_read_bar : PySem.W.keepIn K (.ref f_read_bar) = true)
    (a_read : PySem.W.nsIn K mainGlobals "read" = some (some (.ref f_read)))
    (l_read : K.lookup f_read = some ⟨oc_read, od_read, .func (PySem.W.fnOf "read" "read" (defArgs s_read) (defBody s_read) (defScope s_read) .none kV_read dc_read pm_read an_read cd_read ct_read), sl_read⟩)
    (c_read : PySem.W.codeIn K cd_read "read" = true)
    (k_read : PySem.W.keepIn K (.ref f_read) = true)
    (a_write : PySem.W.nsIn K mainGlobals "write" = some (some (.ref f_write)))
    (l_write : K.lookup f_write = some ⟨oc_write, od_write, .func (PySem.W.fnOf "write" "write" (defArgs s_write) (defBody s_write) (defScope s_write) .none kV_write dc_write pm_write an_write cd_write ct_write), sl_write⟩)
    (c_write : PySem.W.codeIn K cd_write "write" = true)
    (k_write : PySem.W.keepIn K (.ref f_write) = true)
    (a__law_text : PySem.W.nsIn K mainGlobals "_law_text" = some (some (.ref f__law_text)))
    (l__law_text : K.lookup f__law_text = some ⟨oc__law_text, od__law_text, .func (PySem.W.fnOf "_law_text" "_law_text" (defArgs s__law_text) (defBody s__law_text) (defScope s__law_text) .none kV__law_text dc__law_text pm__law_text an__law_text cd__law_text ct__law_text), sl__law_text⟩)
    (c__law_text : PySem.W.codeIn K cd__law_text "_law_text" = true)
    (k__law_text : PySem.W.keepIn K (.ref f__law_text) = true)
    (a__law_wide : PySem.W.nsIn K mainGlobals "_law_wide" = some (some (.ref f__law_wide)))
    (l__law_wide : K.lookup f__law_wide = some ⟨oc__law_wide, od__law_wide, .func (PySem.W.fnOf "_law_wide" "_law_wide" (defArgs s__law_wide) (defBody s__law_wide) (defScope s__law_wide) .none kV__law_wide dc__law_wide pm__law_wide an__law_wide cd__law_wide ct__law_wide), sl__law_wide⟩)
    (c__law_wide : PySem.W.codeIn K cd__law_wide "_law_wide" = true)
    (k__law_wide : PySem.W.keepIn K (.ref f__law_wide) = true)
    (a_law : PySem.W.nsIn K mainGlobals "law" = some (some (.ref f_law)))
    (l_law : K.lookup f_law = some ⟨oc_law, od_law, .func (PySem.W.fnOf "law" "law" (defArgs s_law) (defBody s_law) (defScope s_law) .none kV_law dc_law pm_law an_law cd_law ct_law), sl_law⟩)
    (c_law : PySem.W.codeIn K cd_law "law" = true)
    (k_law : PySem.W.keepIn K (.ref f_law) = true)
    (aC : PySem.W.nsIn K mainGlobals "Cabinet" = some (some (.ref C)))
    (pg : PySem.W.plainGet K C Str.empty = true)
    (hd : PySem.W.hasDictIn K C = true)
    (po : PySem.W.plainOver K C = true)
    (sa : PySem.W.findIn K (.ref C) "__setattr__" = some (some (.builtin "object.__setattr__")))
    (mk : PySem.W.makesIn K C = true)
    (kc : PySem.W.keepIn K (.ref C) = true)
    (nD : PySem.W.findIn K (.ref C) "_drawers" = some none)
    (nB : PySem.W.findIn K (.ref C) "_bars" = some none)
    (a_Cabinet___init__ : PySem.W.findIn K (.ref C) "__init__" = some (some (.ref f_Cabinet___init__)))
    (l_Cabinet___init__ : K.lookup f_Cabinet___init__ = some ⟨oc_Cabinet___init__, od_Cabinet___init__, .func (PySem.W.fnOf "__init__" "Cabinet.__init__" (defArgs sInit) (defBody sInit) (defScope sInit) .none kV_Cabinet___init__ dc_Cabinet___init__ pm_Cabinet___init__ an_Cabinet___init__ cd_Cabinet___init__ ct_Cabinet___init__), sl_Cabinet___init__⟩)
    (c_Cabinet___init__ : PySem.W.codeIn K cd_Cabinet___init__ "Cabinet.__init__" = true)
    (k_Cabinet___init__ : PySem.W.keepIn K (.ref f_Cabinet___init__) = true)
    (i_init : PySem.W.isFn K (.ref f_Cabinet___init__) = true)
    (a_Cabinet___eq__ : PySem.W.findIn K (.ref C) "__eq__" = some (some (.ref f_Cabinet___eq__)))
    (l_Cabinet___eq__ : K.lookup f_Cabinet___eq__ = some ⟨oc_Cabinet___eq__, od_Cabinet___eq__, .func (PySem.W.fnOf "__eq__" "Cabinet.__eq__" (defArgs sEq) (defBody sEq) (defScope sEq) .none kV_Cabinet___eq__ dc_Cabinet___eq__ pm_Cabinet___eq__ an_Cabinet___eq__ cd_Cabinet___eq__ ct_Cabinet___eq__), sl_Cabinet___eq__⟩)
    (c_Cabinet___eq__ : PySem.W.codeIn K cd_Cabinet___eq__ "Cabinet.__eq__" = true)
    (k_Cabinet___eq__ : PySem.W.keepIn K (.ref f_Cabinet___eq__) = true)
    (i_eq : PySem.W.isFn K (.ref f_Cabinet___eq__) = true)
    (pa_drawers : PySem.W.findIn K (.ref C) "drawers" = some (some (.ref p_drawers)))
    (pg_drawers : PySem.W.specialIn K (.ref p_drawers) "__get__" = some (some (.builtin "property.__get__")))
    (pt_drawers : PySem.W.takesIn K (.ref p_drawers) = some true)
    (pr_drawers : PySem.W.recIn K p_drawers "property" = some (.ref f_Cabinet_drawers :: rest_drawers))
    (l_Cabinet_drawers : K.lookup f_Cabinet_drawers = some ⟨oc_Cabinet_drawers, od_Cabinet_drawers, .func (PySem.W.fnOf "drawers" "Cabinet.drawers" (defArgs sDrawers) (defBody sDrawers) (defScope sDrawers) .none kV_Cabinet_drawers dc_Cabinet_drawers pm_Cabinet_drawers an_Cabinet_drawers cd_Cabinet_drawers ct_Cabinet_drawers), sl_Cabinet_drawers⟩)
    (c_Cabinet_drawers : PySem.W.codeIn K cd_Cabinet_drawers "Cabinet.drawers" = true)
    (k_Cabinet_drawers : PySem.W.keepIn K (.ref f_Cabinet_drawers) = true)
    (pa_bars : PySem.W.findIn K (.ref C) "bars" = some (some (.ref p_bars)))
    (pg_bars : PySem.W.specialIn K (.ref p_bars) "__get__" = some (some (.builtin "property.__get__")))
    (pt_bars : PySem.W.takesIn K (.ref p_bars) = some true)
    (pr_bars : PySem.W.recIn K p_bars "property" = some (.ref f_Cabinet_bars :: rest_bars))
    (l_Cabinet_bars : K.lookup f_Cabinet_bars = some ⟨oc_Cabinet_bars, od_Cabinet_bars, .func (PySem.W.fnOf "bars" "Cabinet.bars" (defArgs sBars) (defBody sBars) (defScope sBars) .none kV_Cabinet_bars dc_Cabinet_bars pm_Cabinet_bars an_Cabinet_bars cd_Cabinet_bars ct_Cabinet_bars), sl_Cabinet_bars⟩)
    (c_Cabinet_bars : PySem.W.codeIn K cd_Cabinet_bars "Cabinet.bars" = true)
    (k_Cabinet_bars : PySem.W.keepIn K (.ref f_Cabinet_bars) = true)
    (ci1 : PySem.W.findIn K (.ref C) "__class__" = some (some (.builtin "object.__class__")))
    (ci2 : PySem.W.specialIn K (.builtin "object.__class__") "__get__" = some (some (.builtin "getset_descriptor.__get__")))
    (ci3 : PySem.W.takesIn K (.builtin "object.__class__") = some true)
    (ci4 : PySem.W.mroIn K C (.type "object") = some true)
    (ci5 : PySem.W.kitOne K (.ref C) (.ref C) = some true)
    (z_isinstance : PySem.W.nsIn K mainGlobals "isinstance" = some none)
    (z_int : PySem.W.nsIn K mainGlobals "int" = some none)
    (z_bool : PySem.W.nsIn K mainGlobals "bool" = some none)
    (z_tuple : PySem.W.nsIn K mainGlobals "tuple" = some none)
    (z_len : PySem.W.nsIn K mainGlobals "len" = some none)
    (z_enumerate : PySem.W.nsIn K mainGlobals "enumerate" = some none)
    (z_range : PySem.W.nsIn K mainGlobals "range" = some none)
    (z_sorted : PySem.W.nsIn K mainGlobals "sorted" = some none)
    (z_str : PySem.W.nsIn K mainGlobals "str" = some none)
    (z_zip : PySem.W.nsIn K mainGlobals "zip" = some none)
    (aM : PySem.W.nsIn K mainGlobals "MOST_DRAWERS" = some (some (.int 7 tM)))
    (aW : PySem.W.nsIn K mainGlobals "WORDS" = some (some (.ref fW)))
    (lW : K.lookup fW = some ⟨.type "tuple", ddW, .seq #[.str "open" tW1, .str "shut" tW2] nW, slW⟩)
    : ∃ fd : FuncData, (∀ (s : Shared) (v : Value), BindsTo s fd ⟨[v], []⟩ [("_law_script", v)]) ∧ ∀ base : Heap, K.In base → base.Ns mainGlobals mg → FnOk l.prog w K mg base CX0 9 fa fd ["_law_script"] (spLaw24 K) := by
  have e := hfa.symm.trans (PySem.W.mg_of X G a_law)
  cases e
  have F_is_integer := fun_mk (st := sIsInt) l_is_integer c_is_integer k_is_integer
  have b_is_integer := F_is_integer.binds (ps := ["value"]) fun _ _ _ _ _ _ us hl => match us, hl with | [_], _ => rfl
  have g_is_integer := PySem.W.mg_of X G a_is_integer
  have F_is_drawer_count := fun_mk (st := sIsCount) l_is_drawer_count c_is_drawer_count k_is_drawer_count
  have b_is_drawer_count := F_is_drawer_count.binds (ps := ["value"]) fun _ _ _ _ _ _ us hl => match us, hl with | [_], _ => rfl
  have g_is_drawer_count := PySem.W.mg_of X G a_is_drawer_count
  have F_is_drawer := fun_mk (st := sIsDrawer) l_is_drawer c_is_drawer k_is_drawer
  have b_is_drawer := F_is_drawer.binds (ps := ["drawers", "value"]) fun _ _ _ _ _ _ us hl => match us, hl with | [_, _], _ => rfl
  have g_is_drawer := PySem.W.mg_of X G a_is_drawer
  have F_is_bar := fun_mk (st := sIsBar) l_is_bar c_is_bar k_is_bar
  have b_is_bar := F_is_bar.binds (ps := ["drawers", "value"]) fun _ _ _ _ _ _ us hl => match us, hl with | [_, _], _ => rfl
  have g_is_bar := PySem.W.mg_of X G a_is_bar
  have F_check_drawers := fun_mk (st := sCheckDrawers) l_check_drawers c_check_drawers k_check_drawers
  have b_check_drawers := F_check_drawers.binds (ps := ["drawers"]) fun _ _ _ _ _ _ us hl => match us, hl with | [_], _ => rfl
  have g_check_drawers := PySem.W.mg_of X G a_check_drawers
  have F_check_bars := fun_mk (st := sCheckBars) l_check_bars c_check_bars k_check_bars
  have b_check_bars := F_check_bars.binds (ps := ["drawers", "bars"]) fun _ _ _ _ _ _ us hl => match us, hl with | [_, _], _ => rfl
  have g_check_bars := PySem.W.mg_of X G a_check_bars
  have F__law_taken := fun_mk (st := sTaken) l__law_taken c__law_taken k__law_taken
  have b__law_taken := F__law_taken.binds (ps := ["_law_row", "_law_many"]) fun _ _ _ _ _ _ us hl => match us, hl with | [_, _], _ => rfl
  have g__law_taken := PySem.W.mg_of X G a__law_taken
  have F__law_parts := fun_mk (st := sParts) l__law_parts c__law_parts k__law_parts
  have b__law_parts := F__law_parts.binds (ps := ["_law_row", "_law_most"]) fun _ _ _ _ _ _ us hl => match us, hl with | [_, _], _ => rfl
  have g__law_parts := PySem.W.mg_of X G a__law_parts
  have F__law_made := fun_mk (st := sMade) l__law_made c__law_made k__law_made
  have b__law_made := F__law_made.binds (ps := ["_law_d"]) fun _ _ _ _ _ _ us hl => match us, hl with | [_], _ => rfl
  have g__law_made := PySem.W.mg_of X G a__law_made
  have F_check_cabinet := fun_mk (st := s_check_cabinet) l_check_cabinet c_check_cabinet k_check_cabinet
  have b_check_cabinet := F_check_cabinet.binds (ps := ["cabinet"]) fun _ _ _ _ _ _ us hl => match us, hl with | [_], _ => rfl
  have g_check_cabinet := PySem.W.mg_of X G a_check_cabinet
  have F_words_of := fun_mk (st := s_words_of) l_words_of c_words_of k_words_of
  have b_words_of := F_words_of.binds (ps := ["line"]) fun _ _ _ _ _ _ us hl => match us, hl with | [_], _ => rfl
  have g_words_of := PySem.W.mg_of X G a_words_of
  have F_check_words := fun_mk (st := s_check_words) l_check_words c_check_words k_check_words
  have b_check_words := F_check_words.binds (ps := ["line", "words", "allowed"]) fun _ _ _ _ _ _ us hl => match us, hl with | [_, _, _], _ => rfl
  have g_check_words := PySem.W.mg_of X G a_check_words
  have F_read_drawers := fun_mk (st := s_read_drawers) l_read_drawers c_read_drawers k_read_drawers
  have b_read_drawers := F_read_drawers.binds (ps := ["words"]) fun _ _ _ _ _ _ us hl => match us, hl with | [_], _ => rfl
  have g_read_drawers := PySem.W.mg_of X G a_read_drawers
  have F_read_bar := fun_mk (st := s_read_bar) l_read_bar c_read_bar k_read_bar
  have b_read_bar := F_read_bar.binds (ps := ["drawers", "line", "words"]) fun _ _ _ _ _ _ us hl => match us, hl with | [_, _, _], _ => rfl
  have g_read_bar := PySem.W.mg_of X G a_read_bar
  have F_read := fun_mk (st := s_read) l_read c_read k_read
  have b_read := F_read.binds (ps := ["text"]) fun _ _ _ _ _ _ us hl => match us, hl with | [_], _ => rfl
  have g_read := PySem.W.mg_of X G a_read
  have F_write := fun_mk (st := s_write) l_write c_write k_write
  have b_write := F_write.binds (ps := ["cabinet"]) fun _ _ _ _ _ _ us hl => match us, hl with | [_], _ => rfl
  have g_write := PySem.W.mg_of X G a_write
  have F__law_text := fun_mk (st := s__law_text) l__law_text c__law_text k__law_text
  have b__law_text := F__law_text.binds (ps := ["_law_d"]) fun _ _ _ _ _ _ us hl => match us, hl with | [_], _ => rfl
  have g__law_text := PySem.W.mg_of X G a__law_text
  have F__law_wide := fun_mk (st := s__law_wide) l__law_wide c__law_wide k__law_wide
  have b__law_wide := F__law_wide.binds (ps := ["_law_row", "_law_line"]) fun _ _ _ _ _ _ us hl => match us, hl with | [_, _], _ => rfl
  have g__law_wide := PySem.W.mg_of X G a__law_wide
  have F_law := fun_mk (st := s_law) l_law c_law k_law
  have F_Cabinet___init__ := fun_mk (st := sInit) l_Cabinet___init__ c_Cabinet___init__ k_Cabinet___init__
  have b_Cabinet___init__ := F_Cabinet___init__.binds (ps := ["self", "drawers", "bars"]) fun _ _ _ _ _ _ us hl => match us, hl with | [_, _, _], _ => rfl
  have F_Cabinet___eq__ := fun_mk (st := sEq) l_Cabinet___eq__ c_Cabinet___eq__ k_Cabinet___eq__
  have b_Cabinet___eq__ := F_Cabinet___eq__.binds (ps := ["self", "other"]) fun _ _ _ _ _ _ us hl => match us, hl with | [_, _], _ => rfl
  have F_Cabinet_drawers := fun_mk (st := sDrawers) l_Cabinet_drawers c_Cabinet_drawers k_Cabinet_drawers
  have b_Cabinet_drawers := F_Cabinet_drawers.binds (ps := ["self"]) fun _ _ _ _ _ _ us hl => match us, hl with | [_], _ => rfl
  have F_Cabinet_bars := fun_mk (st := sBars) l_Cabinet_bars c_Cabinet_bars k_Cabinet_bars
  have b_Cabinet_bars := F_Cabinet_bars.binds (ps := ["self"]) fun _ _ _ _ _ _ us hl => match us, hl with | [_], _ => rfl
  have TC : CabT K mg C := ⟨⟨pg, hd, po, sa⟩, nD, nB, PySem.W.mg_of X G aC⟩
  have MC : Mk K C f_Cabinet___init__ := ⟨mk, a_Cabinet___init__, i_init, kc⟩
  have IC : CabI K mg C := ⟨⟨pg, hd, po, sa⟩, PySem.W.mg_of X G aC, ci1, ci2, ci3, ci4, ci5⟩
  have TB : Bt mg := ⟨PySem.W.mg_none_of X G z_isinstance, PySem.W.mg_none_of X G z_int, PySem.W.mg_none_of X G z_bool, PySem.W.mg_none_of X G z_tuple, PySem.W.mg_none_of X G z_len, PySem.W.mg_none_of X G z_enumerate, PySem.W.mg_none_of X G z_range, PySem.W.mg_none_of X G z_sorted⟩
  have n_str := PySem.W.mg_none_of X G z_str
  have n_zip := PySem.W.mg_none_of X G z_zip
  have gM := PySem.W.mg_of X G aM
  have gW := PySem.W.mg_of X G aW
  have hW : ∀ H, SqT K H fW [.str "open", .str "shut"] := fun H => .inr ⟨_, _, _, lW, rfl, rfl, by show 2 ≤ sizeLine; decide, .cons ⟨_, rfl⟩ (.cons ⟨_, rfl⟩ .nil)⟩
  refine ⟨PySem.W.fnOf "law" "law" (defArgs s_law) (defBody s_law) (defScope s_law) .none kV_law dc_law pm_law an_law cd_law ct_law, fun s v => .of_eq rfl, fun base hKX hGX => ?_⟩
  have OD := ok_getD (P := l.prog) (w := w) (base := base) F_Cabinet_drawers TC
  have OB := ok_getB (P := l.prog) (w := w) (base := base) F_Cabinet_bars TC
  have CP : CabP l.prog w K mg base C := ⟨TC.cl, ⟨_, _, _, ⟨pa_drawers, pg_drawers, pt_drawers, ⟨_, pr_drawers⟩⟩, OD, b_Cabinet_drawers⟩, ⟨_, _, _, ⟨pa_bars, pg_bars, pt_bars, ⟨_, pr_bars⟩⟩, OB, b_Cabinet_bars⟩⟩
  have O__law_taken := ok_taken (P := l.prog) (w := w) (base := base) F__law_taken TB
  have O__law_parts := ok_parts F__law_parts TB O__law_taken g__law_taken k__law_taken b__law_taken
  have O__law_text := ok_lawText (P := l.prog) (w := w) (base := base) F__law_text n_str
  have O_is_integer := ok_isInt (P := l.prog) (w := w) (base := base) F_is_integer TB
  have O_is_drawer_count := ok_isCount F_is_drawer_count TB O_is_integer g_is_integer k_is_integer b_is_integer ⟨_, gM⟩
  have O_check_drawers := ok_checkDrawers F_check_drawers O_is_drawer_count g_is_drawer_count k_is_drawer_count b_is_drawer_count
  have O_is_drawer := ok_isDrawer F_is_drawer TB O_is_integer g_is_integer k_is_integer b_is_integer
  have O_is_bar := ok_isBar F_is_bar TB O_is_drawer g_is_drawer k_is_drawer b_is_drawer ⟨fW, gW, hW⟩
  have O_check_bars := ok_checkBars F_check_bars TB O_is_bar g_is_bar k_is_bar b_is_bar
  have O_Cabinet___init__ := ok_init F_Cabinet___init__ TC O_check_drawers g_check_drawers k_check_drawers b_check_drawers O_check_bars g_check_bars k_check_bars b_check_bars
  have O__law_made := ok_made F__law_made TC MC O_Cabinet___init__ b_Cabinet___init__
  have O_check_cabinet := ok_ckCab (P := l.prog) (w := w) (base := base) F_check_cabinet TB IC
  have O_write := ok_write F_write CP O_check_cabinet g_check_cabinet k_check_cabinet b_check_cabinet
  have O_words_of := ok_wordsOf (mg := mg) (P := l.prog) (w := w) (base := base) F_words_of
  have O_check_words := ok_ckWordsIn (P := l.prog) (w := w) (base := base) F_check_words TB n_zip
  have O_read_drawers := ok_readDr F_read_drawers TB n_str ⟨_, gM⟩ O_check_words g_check_words k_check_words b_check_words
  have O_read_bar := ok_readBar F_read_bar TB n_str gW hW O_check_words g_check_words k_check_words b_check_words
  have O_read := ok_read F_read TB TC.mgC MC O_Cabinet___init__ b_Cabinet___init__ O_words_of g_words_of k_words_of b_words_of O_read_drawers g_read_drawers k_read_drawers b_read_drawers O_read_bar g_read_bar k_read_bar b_read_bar
  have O__law_wide := ok_lawWide F__law_wide O__law_taken g__law_taken k__law_taken b__law_taken
  have O_Cabinet___eq__ := ok_eqC (P := l.prog) (w := w) (base := base) F_Cabinet___eq__ TB TC IC
  exact ok_law F_law TB IC O__law_parts g__law_parts k__law_parts b__law_parts O__law_text g__law_text k__law_text b__law_text O__law_made g__law_made k__law_made b__law_made O_write g_write k_write b_write O_read g_read k_read b_read O__law_wide g__law_wide k__law_wide b__law_wide O_Cabinet___eq__ a_Cabinet___eq__ i_eq b_Cabinet___eq__
theorem walk {l : PySem.W.OpenLaw} {q : Program} {loose : List Str} {XP : (Str → Option Value) → Heap → Prop} {YP : World → Heap → Prop} {d : DefRec} {K : Params → PySem.W.Frag} (hn : l.most = some 63) (hdf : d.params.defaults = [])
    (hY : ∀ (w : World) (h : Heap), YP w h → (K w.params).In h)
    (F : ∀ (w : World) (mg : Str → Option Value) (fa : Addr) (h : Heap), (K w.params).In h → h.Ns mainGlobals mg → mg d.name = some (.ref fa) →
      ∃ fd : FuncData, (∀ (s : Shared) (u : Value), BindsTo s fd ⟨[u], []⟩ [("_law_script", u)]) ∧ ∀ base : Heap, (K w.params).In base → base.Ns mainGlobals mg → FnOk l.prog w (K w.params) mg base CX0 9 fa fd ["_law_script"] (spLaw24 (K w.params))) :
    PySem.W.WalkO q loose XP YP l.row.toRowW d [] (fun f vs => PySem.call f vs) :=
  L2.walk_of (n := 63) (k := 9) (x := "_law_script") (CX := fun _ => CX0) (sp := fun w => spLaw24 (K w.params)) hn (by decide) hdf ⟨rfl, by decide, by decide⟩ hY F (fun _ _ a ns hl _ hS => ⟨a, ns, rfl, hS, hl, fun _ => rfl⟩) fun _ _ _ _ _ z => z
end DL


set_option Elab.async false
open PySem PySem.W PyProof.Rows in
set_option maxRecDepth 100000 in
set_option maxHeartbeats 0 in
theorem PySem.Challenge.cw_drawerlocks_k24_texts_there_and_back_holds : PySem.Challenge.rw_drawerlocks_k24_texts_there_and_back.Holds := by
  w_on; o_law; k_head; (case hw => w_witness2)
  k_fill
  refine DL.walk (l := PySem.Challenge.rw_drawerlocks_k24_texts_there_and_back) rfl rfl (fun w h Y => PySem.W.kIn_of Y) ?F
  case F =>
    intro w mg fa h KX G hmg
    refine' DL.all_mk KX G hmg ?a_is_integer ?l_is_integer ?c_is_integer ?k_is_integer ?a_is_drawer_count ?l_is_drawer_count ?c_is_drawer_count ?k_is_drawer_count ?a_is_drawer ?l_is_drawer ?c_is_drawer ?k_is_drawer ?a_is_bar ?l_is_bar ?c_is_bar ?k_is_bar ?a_check_drawers ?l_check_drawers ?c_check_drawers ?k_check_drawers ?a_check_bars ?l_check_bars ?c_check_bars ?k_check_bars ?a__law_taken ?l__law_taken ?c__law_taken ?k__law_taken ?a__law_parts ?l__law_parts ?c__law_parts ?k__law_parts ?a__law_made ?l__law_made ?c__law_made ?k__law_made ?a_check_cabinet ?l_check_cabinet ?c_check_cabinet ?k_check_cabinet ?a_words_of ?l_words_of ?c_words_of ?k_words_of ?a_check_words ?l_check_words ?c_check_words ?k_check_words ?a_read_drawers ?l_read_drawers ?c_read_drawers ?k_read_drawers ?a_read_bar ?l_read_bar ?c_read_bar ?k_read_bar ?a_read ?l_read ?c_read ?k_read ?a_write ?l_write ?c_write ?k_write ?a__law_text ?l__law_text ?c__law_text ?k__law_text ?a__law_wide ?l__law_wide ?c__law_wide ?k__law_wide ?a_law ?l_law ?c_law ?k_law ?aC ?pg ?hd ?po ?sa ?mk ?kc ?nD ?nB ?a_Cabinet___init__ ?l_Cabinet___init__ ?c_Cabinet___init__ ?k_Cabinet___init__ ?i_init ?a_Cabinet___eq__ ?l_Cabinet___eq__ ?c_Cabinet___eq__ ?k_Cabinet___eq__ ?i_eq ?pa_drawers ?pg_drawers ?pt_drawers ?pr_drawers ?l_Cabinet_drawers ?c_Cabinet_drawers ?k_Cabinet_drawers ?pa_bars ?pg_bars ?pt_bars ?pr_bars ?l_Cabinet_bars ?c_Cabinet_bars ?k_Cabinet_bars ?ci1 ?ci2 ?ci3 ?ci4 ?ci5 ?z_isinstance ?z_int ?z_bool ?z_tuple ?z_len ?z_enumerate ?z_range ?z_sorted ?z_str ?z_zip ?aM ?aW ?lW
    (case a_is_integer => k_is)
    (case l_is_integer => k_is)
    (case c_is_integer => k_is)
    (case k_is_integer => k_is)
    (case a_is_drawer_count => k_is)
    (case l_is_drawer_count => k_is)
    (case c_is_drawer_count => k_is)
    (case k_is_drawer_count => k_is)
    (case a_is_drawer => k_is)
    (case l_is_drawer => k_is)
    (case c_is_drawer => k_is)
    (case k_is_drawer => k_is)
    (case a_is_bar => k_is)
    (case l_is_bar => k_is)
    (case c_is_bar => k_is)
    (case k_is_bar => k_is)
    (case a_check_drawers => k_is)
    (case l_check_drawers => k_is)
    (case c_check_drawers => k_is)
    (case k_check_drawers => k_is)
    (case a_check_bars => k_is)
    (case l_check_bars => k_is)
    (case c_check_bars => k_is)
    (case k_check_bars => k_is)
    (case a__law_taken => k_is)
    (case l__law_taken => k_is)
    (case c__law_taken => k_is)
    (case k__law_taken => k_is)
    (case a__law_parts => k_is)
    (case l__law_parts => k_is)
    (case c__law_parts => k_is)
    (case k__law_parts => k_is)
    (case a__law_made => k_is)
    (case l__law_made => k_is)
    (case c__law_made => k_is)
    (case k__law_made => k_is)
    (case a_check_cabinet => k_is)
    (case l_check_cabinet => k_is)
    (case c_check_cabinet => k_is)
    (case k_check_cabinet => k_is)
    (case a_words_of => k_is)
    (case l_words_of => k_is)
    (case c_words_of => k_is)
    (case k_words_of => k_is)
    (case a_check_words => k_is)
    (case l_check_words => k_is)
    (case c_check_words => k_is)
    (case k_check_words => k_is)
    (case a_read_drawers => k_is)
    (case l_read_drawers => k_is)
    (case c_read_drawers => k_is)
    (case k_read_drawers => k_is)
    (case a_read_bar => k_is)
    (case l_read_bar => k_is)
    (case c_read_bar => k_is)
    (case k_read_bar => k_is)
    (case a_read => k_is)
    (case l_read => k_is)
    (case c_read => k_is)
    (case k_read => k_is)
    (case a_write => k_is)
    (case l_write => k_is)
    (case c_write => k_is)
    (case k_write => k_is)
    (case a__law_text => k_is)
    (case l__law_text => k_is)
    (case c__law_text => k_is)
    (case k__law_text => k_is)
    (case a__law_wide => k_is)
    (case l__law_wide => k_is)
    (case c__law_wide => k_is)
    (case k__law_wide => k_is)
    (case a_law => k_is)
    (case l_law => k_is)
    (case c_law => k_is)
    (case k_law => k_is)
    (case aC => k_is)
    (case pg => k_is)
    (case hd => k_is)
    (case po => k_is)
    (case sa => k_is)
    (case mk => k_is)
    (case kc => k_is)
    (case nD => k_is)
    (case nB => k_is)
    (case a_Cabinet___init__ => k_is)
    (case l_Cabinet___init__ => k_is)
    (case c_Cabinet___init__ => k_is)
    (case k_Cabinet___init__ => k_is)
    (case i_init => k_is)
    (case a_Cabinet___eq__ => k_is)
    (case l_Cabinet___eq__ => k_is)
    (case c_Cabinet___eq__ => k_is)
    (case k_Cabinet___eq__ => k_is)
    (case i_eq => k_is)
    (case pa_drawers => k_is)
    (case pg_drawers => k_is)
    (case pt_drawers => k_is)
    (case pr_drawers => k_is)
    (case l_Cabinet_drawers => k_is)
    (case c_Cabinet_drawers => k_is)
    (case k_Cabinet_drawers => k_is)
    (case pa_bars => k_is)
    (case pg_bars => k_is)
    (case pt_bars => k_is)
    (case pr_bars => k_is)
    (case l_Cabinet_bars => k_is)
    (case c_Cabinet_bars => k_is)
    (case k_Cabinet_bars => k_is)
    (case ci1 => first | k_is | rfl)
    (case ci2 => first | k_is | rfl)
    (case ci3 => first | k_is | rfl)
    (case ci4 => first | k_is | rfl)
    (case ci5 => first | k_is | rfl)
    (case z_isinstance => k_is)
    (case z_int => k_is)
    (case z_bool => k_is)
    (case z_tuple => k_is)
    (case z_len => k_is)
    (case z_enumerate => k_is)
    (case z_range => k_is)
    (case z_sorted => k_is)
    (case z_str => k_is)
    (case z_zip => k_is)
    (case aM => k_is)
    (case aW => k_is)
    (case lW => k_is)
