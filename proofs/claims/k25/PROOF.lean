import PyProof.Rows.All
import Wide.All
import OpenK.AllK
import Wide.FinOn
import HandS.ForMost
import HandS.ForExc
import HandS.TupLe
import HandS.TupAny
import HandS.SortOrd
import HandS.SortRule
import HandS.IsInst
import HandS.Conv
import HandS.Wide
import HandS.Property
import HandS.Deep
import HandS.Walk
import HandS.Zip
import HandS.Flow
import KE.GoesEnum
import HandS.SortKw
import KE.GoesEnumKw
import KE.KDictZip
import PyProof.ZipIter
import HandS.ExcValue
import PySem.Challenge.RW_drawerlocks_k25_texts_refused
import KE.KSuper
import KE.KExcSuper
import HandS.ClsMeth
import HandS.ExcInit
import HandS.WordsExc
import HandS.FStr
import HandS.Replace
import HandS.More
import HandS.TryOnly
import HandS.SlotsOwn
import KE.GoesZip
import HandS.ExcOwn
import HandS.TryMany
import HandS.ExcField
import HandS.TupMul
import HandS.Star
import PyProof.Rows.SortShellAny
import KE.DataMinMax
import PyProof.Rows.StrMeet
import KE.DatumOrd
import KE.DataCmp
import HandS.Style
import HandS.Codes
set_option Elab.async false
set_option maxRecDepth 100000
namespace DL
open PySem PySem.Spec PyProof.Rows L2
/-! ### bars: four parts; the words as truth values (true: shut) -/
structure Bar where
  d : Int
  w : Bool
  o : Int
  t : Bool
deriving DecidableEq
def wd (b : Bool) : Str := if b = true then "shut" else "open"
theorem wd_inj : ∀ {a b : Bool}, wd a = wd b → a = b := by decide +kernel
theorem wd_lt : ∀ a b : Bool, decide ((wd a).cps.toList < (wd b).cps.toList) = (!a && b) := by decide +kernel
theorem wd_dec : ∀ a : Bool, decide (wd a = "shut") = a := by decide +kernel
def Bar.key (b : Bar) : List Key := [.inl b.d, .inr (wd b.w), .inl b.o, .inr (wd b.t)]
def Bar.vs (b : Bar) : List V := [.int b.d, .str (wd b.w), .int b.o, .str (wd b.t)]
def b2n (b : Bool) : Int := if b = true then 1 else 0
theorem b2n_le (b : Bool) : 0 ≤ b2n b ∧ b2n b ≤ 1 := by cases b <;> decide
theorem b2n_inj {a b : Bool} (h : b2n a = b2n b) : a = b := by revert h; revert a b; decide
def Bar.code (b : Bar) : Int := ((b.d * 2 + b2n b.w) * 8 + b.o) * 2 + b2n b.t
/-- the parts lie where a bar of at most eight drawers has them -/
def Bar.low (b : Bar) : Prop := 0 ≤ b.d ∧ b.d < 8 ∧ 0 ≤ b.o ∧ b.o < 8
theorem Bar.ext4 {a b : Bar} (h1 : a.d = b.d) (h2 : a.w = b.w) (h3 : a.o = b.o) (h4 : a.t = b.t) : a = b := by
  cases a; cases b; simp only at h1 h2 h3 h4; subst h1 h2 h3 h4; rfl
theorem Bar.code_inj {a b : Bar} (ha : a.low) (hb : b.low) (h : a.code = b.code) : a = b := by
  unfold Bar.low at ha hb
  unfold Bar.code at h
  have w1 := b2n_le a.w; have w2 := b2n_le b.w; have t1 := b2n_le a.t; have t2 := b2n_le b.t
  exact Bar.ext4 (by omega) (b2n_inj (by omega)) (by omega) (b2n_inj (by omega))
/-- what a < b of two such tuples comes to -/
def Bar.ltb (a b : Bar) : Bool := if a.d = b.d then (if a.w = b.w then (if a.o = b.o then (!a.t && b.t) else decide (a.o < b.o)) else (!a.w && b.w)) else decide (a.d < b.d)
theorem Bar.ltb_code {a b : Bar} (ha : a.low) (hb : b.low) : a.ltb b = decide (a.code < b.code) := by
  obtain ⟨ad, aw, ao, at'⟩ := a
  obtain ⟨bd, bw, bo, bt⟩ := b
  unfold Bar.low at ha hb
  unfold Bar.ltb Bar.code b2n
  simp only at ha hb ⊢
  by_cases h1 : ad = bd
  · rw [if_pos h1]
    by_cases h2 : aw = bw
    · rw [if_pos h2]
      by_cases h3 : ao = bo
      · rw [if_pos h3]
        subst h1 h2 h3
        cases at' <;> cases bt <;> simp <;> omega
      · rw [if_neg h3]
        subst h1 h2
        cases at' <;> cases bt <;> simp <;> omega
    · rw [if_neg h2]
      subst h1
      cases aw <;> cases bw <;> cases at' <;> cases bt <;> simp at h2 ⊢ <;> omega
  · rw [if_neg h1]
    cases aw <;> cases bw <;> cases at' <;> cases bt <;> simp <;> omega
/-- a bar read back -/
def barOf : List V → Bar
  | [.int d, .str w, .int o, .str t] => ⟨d, decide (w = "shut"), o, decide (t = "shut")⟩
  | _ => ⟨0, false, 0, false⟩
theorem barOf_vs (b : Bar) : barOf b.vs = b := by
  show (⟨b.d, decide (wd b.w = "shut"), b.o, decide (wd b.t = "shut")⟩ : Bar) = b
  rw [wd_dec, wd_dec]
/-- the bar that stands at an address of the heap -/
def barAt (H : Hp) : V → Bar
  | .ref a => (match H a with | some (.tup xs) => barOf xs | _ => ⟨0, false, 0, false⟩)
  | _ => ⟨0, false, 0, false⟩
theorem barAt_of {H : Hp} {a : Addr} {b : Bar} (h : H a = some (.tup b.vs)) : barAt H (.ref a) = b := by
  show (match H a with | some (.tup xs) => barOf xs | _ => ⟨0, false, 0, false⟩) = b
  rw [h]; exact barOf_vs b
/-! ### sorted(d), d a dict whose keys are such tuples -/
def IsBarV (h : Heap) (v : Value) (b : Bar) : Prop := ∃ a o t1 t2 t3 t4 n, v = .ref a ∧ h.get? a = some o ∧ o.cls = .type "tuple" ∧ o.data = .seq #[.int b.d t1, .str (wd b.w) t2, .int b.o t3, .str (wd b.t) t4] n
theorem IsBarV.keeps {h h' : Heap} {v : Value} {b : Bar} (p : IsBarV h v b) (k : ∀ c o, h.get? c = some o → o.cls = .type "tuple" → h'.get? c = some o) : IsBarV h' v b := by
  obtain ⟨a, o, t1, t2, t3, t4, n, e, ho, hc, hd⟩ := p
  exact ⟨a, o, t1, t2, t3, t4, n, e, k _ _ ho hc, hc, hd⟩
section
variable {prog : Program} {w : World} {A : Around} {E : Value → Shared → Prop} {s : Shared}
theorem oneLt_words (c : Bool) {p q : Str} {t u : Tok} {Q : Bool → Shared → Prop} (h : c = false) (hq : Q (decide (p.cps.toList < q.cps.toList)) s) : wpAny (model prog w) A (oneLt' c (.str p t) (.str q u)) Q E s := by
  subst h
  exact PySem.W.kat_one _ _ (PyProof.Rows.lt_str hq)
theorem bar_cmp {vs : List Value} {kb : Value → Bar} (hp : ∀ v ∈ vs, IsBarV s.heap v (kb v) ∧ (kb v).low) : SrtO.Cmp prog w A s (tuples' true) (fun p => p.1 ∈ vs) (SrtO.lt2 fun v u => decide ((kb v).code < (kb u).code)) := by
  intro p q hm hm'
  obtain ⟨h1, l1⟩ := hp _ hm
  obtain ⟨h2, l2⟩ := hp _ hm'
  show wpAny (model prog w) A (keyLt' (tuples' true) p.1 q.1) (fun r s' => s' = s ∧ r = decide ((kb p.1).code < (kb q.1).code)) (fun _ _ => False) s
  generalize kb p.1 = x at h1 l1 ⊢
  generalize kb q.1 = y at h2 l2 ⊢
  rw [← Bar.ltb_code l1 l2]
  obtain ⟨a, o, t1, t2, t3, t4, n, e, ho, hc, hd⟩ := h1
  obtain ⟨a', o', t1', t2', t3', t4', n', e', ho', hc', hd'⟩ := h2
  rw [e, e']
  refine PySem.W.kat_lt ho hd ho' hd' ?_
  show PySem.W.KatLex prog w A true (decide (4 < 4)) _ [(.int x.d t1, .int y.d t1'), (.str (wd x.w) t2, .str (wd y.w) t2'), (.int x.o t3, .int y.o t3'), (.str (wd x.t) t4, .str (wd y.t) t4')] 0 s
  refine PySem.W.kat_cons (SeqAt.EqAt.int_int x.d t1 y.d t1' prog w _ _ ?_)
  refine PySem.W.kat_go (fun e1 => ?_) (fun e1 => ?_)
  · have e1' : x.d = y.d := by simpa using e1
    refine PySem.W.kat_yes (PySem.W.kat_cons (wpAny_eqBool_str ?_))
    refine PySem.W.kat_go (fun e2 => ?_) (fun e2 => ?_)
    · have e2' : x.w = y.w := wd_inj (by simpa using e2)
      refine PySem.W.kat_yes (PySem.W.kat_cons (SeqAt.EqAt.int_int x.o t3 y.o t3' prog w _ _ ?_))
      refine PySem.W.kat_go (fun e3 => ?_) (fun e3 => ?_)
      · have e3' : x.o = y.o := by simpa using e3
        refine PySem.W.kat_yes (PySem.W.kat_cons (wpAny_eqBool_str ?_))
        refine PySem.W.kat_go (fun e4 => ?_) (fun e4 => ?_)
        · have e4' : x.t = y.t := wd_inj (by simpa using e4)
          refine PySem.W.kat_yes (PySem.W.kat_nil ⟨rfl, ?_⟩)
          unfold Bar.ltb
          rw [if_pos e1', if_pos e2', if_pos e3', e4']
          cases y.t <;> rfl
        · refine PySem.W.kat_no (oneLt_words _ rfl ⟨rfl, ?_⟩)
          unfold Bar.ltb
          rw [if_pos e1', if_pos e2', if_pos e3', wd_lt]
      · have e3' : ¬ x.o = y.o := by simpa using e3
        refine PySem.W.kat_no (PySem.W.kat_one _ _ (PyProof.Rows.lt_int ?_))
        refine (show s = s ∧ decide (x.o < y.o) = x.ltb y from ⟨rfl, ?_⟩)
        unfold Bar.ltb
        rw [if_pos e1', if_pos e2', if_neg e3']
    · have e2' : ¬ x.w = y.w := fun z => by rw [z] at e2; simp at e2
      refine PySem.W.kat_no (oneLt_words _ rfl ⟨rfl, ?_⟩)
      unfold Bar.ltb
      rw [if_pos e1', if_neg e2', wd_lt]
  · have e1' : ¬ x.d = y.d := by simpa using e1
    refine PySem.W.kat_no (oneLt_int ⟨rfl, ?_⟩)
    unfold Bar.ltb
    rw [if_neg e1']
theorem bar_firsts {h : Heap} : ∀ {vs : List Value}, (∀ v ∈ vs, ∃ b, IsBarV h v b) → ∃ fs : List Value, PySem.W.KatTups h vs fs ∧ fs.length = vs.length ∧ ∀ f ∈ fs, ∃ x t, f = Value.int x t
  | [], _ => ⟨[], PySem.W.KatTups.nil, rfl, fun _ hm => by simp at hm⟩
  | v :: vs, hp => by
    obtain ⟨fs, h1, h2, h3⟩ := bar_firsts (vs := vs) fun v' hm => hp v' (List.mem_cons_of_mem _ hm)
    obtain ⟨b, a, o, t1, t2, t3, t4, n, e, ho, hc, hd⟩ := hp v (List.mem_cons_self ..)
    subst e
    refine ⟨.int b.d t1 :: fs, PySem.W.KatTups.cons ho hc hd rfl h1, by rw [List.length_cons, List.length_cons, h2], fun f hm => ?_⟩
    rcases List.mem_cons.mp hm with rfl | hm
    · exact ⟨b.d, t1, rfl⟩
    · exact h3 f hm
theorem swo_code (kb : Value → Bar) : SrtO.Swo fun v u => decide ((kb v).code < (kb u).code) := by
  refine ⟨fun x y h => ?_, fun x y z h1 h2 => ?_⟩
  · have a := of_decide_eq_true h
    exact decide_eq_false (by omega)
  · have a := of_decide_eq_false h1
    have b := of_decide_eq_false h2
    exact decide_eq_false (by omega)
theorem bars_sortableO {a : Addr} {vs : List Value} {kb : Value → Bar} (h0 : 0 < vs.length) (hp : ∀ v ∈ vs, IsBarV s.heap v (kb v) ∧ (kb v).low) (ha : ∀ o, s.heap.get? a = some o → o.cls ≠ .type "tuple") :
    SrtO.SortableO prog w A s a vs fun v u => decide ((kb v).code < (kb u).code) := by
  intro h' keep
  have hp' : ∀ v ∈ vs, IsBarV h' v (kb v) ∧ (kb v).low := fun v hm => ⟨(hp v hm).1.keeps fun b o e c => keep b o (fun z => by subst z; exact ha o e c) e, (hp v hm).2⟩
  obtain ⟨fs, h1, h2, h3⟩ := bar_firsts fun v hm => ⟨_, (hp' v hm).1⟩
  refine ⟨tuples' true, fun Q E hq => ?_, bar_cmp hp'⟩
  refine PySem.W.kat_kind (T := .type "int") h1 (by omega) (fun f hm => ?_) (by rfl) ?_
  · obtain ⟨x, t, rfl⟩ := h3 f hm
    exact PySem.W.Looks.now
  · have e : (Value.type "int" != Value.type "tuple") = true := by first | decide +kernel | rfl | decide
    rw [e]
    exact hq
end
/-- sorted(d): the keys' own tuples, by their codes -/
def rSortB : List V → Hp → VK → Prop := fun xs H Q => ∃ (d : Addr) (kvs : List (List Key × V)) (bs : List Bar), xs = [V.ref d] ∧ Rd H d (.dT kvs) ∧ kvs.map (·.1) = bs.map Bar.key ∧ (∀ b ∈ bs, b.low) ∧
  ∀ (ks : List (Addr × Bar)) (p : Addr), (∀ k ∈ ks, H k.1 = some (.tup k.2.vs)) → (ks.map (·.2)).Perm bs → (ks.map (·.2)).Pairwise (fun x y => x.code ≤ y.code) → H p = none → Q (.ref p) (upd H p (.lst (ks.map fun k => V.ref k.1)))
theorem keys_bars : ∀ {H : Hp} {kvs : List (List Key × V)} {as : List Addr} {bs : List Bar}, IsKeys H kvs as → kvs.map (·.1) = bs.map Bar.key → (∀ a ∈ as, ∃ b ∈ bs, H a = some (.tup b.vs)) ∧ (as.map V.ref).map (barAt H) = bs := by
  intro H kvs as bs ik
  unfold IsKeys at ik
  induction ik generalizing bs with
  | nil =>
    intro e
    cases bs with
    | nil => exact ⟨fun a ha => by simp at ha, rfl⟩
    | cons b bs => simp at e
  | @cons kv a kvs' as' h t ih =>
    intro e
    cases bs with
    | nil => simp at e
    | cons b bs =>
      rw [List.map_cons, List.map_cons] at e
      injection e with e1 e2
      obtain ⟨i1, i2⟩ := ih e2
      have hb : H a = some (.tup b.vs) := by rw [h, e1]; rfl
      refine ⟨fun c hc => ?_, ?_⟩
      · rcases List.mem_cons.mp hc with rfl | hc
        · exact ⟨b, List.mem_cons_self, hb⟩
        · obtain ⟨b', m, q⟩ := i1 c hc
          exact ⟨b', List.mem_cons_of_mem _ m, q⟩
      · rw [List.map_cons, List.map_cons, i2, barAt_of hb]
section
variable {X : Cx}
theorem cr_sortB (hcalm : X.calm = true) : CallR X (.builtin "sorted") rSortB := by
  intro pins s σ H xs us Q I r h
  obtain ⟨d, kvs, bs, rfl, hd, hks, hlow, q⟩ := h
  obtain ⟨u, rfl, rx⟩ := r.one
  obtain rfl : u = Value.ref d := rx
  obtain ⟨z, hs, ks, pr, o, es, ep, ho, hx, hdt, he, hn⟩ := (show ObjOk X.prog X.w H s.heap d (.dT kvs) from hd.ok I.hok)
  have l1 : es.size = ks.length := size_of_entries he
  have l2 : kvs.length = ks.length := Paired.length pr
  refine Calls.call_function_entry PyProof.Rows.kind_sorted PyProof.Rows.plain_sorted PyProof.Rows.entry_sorted (PyProof.Rows.args_sorted1 _) ?_
  unfold Builtin.«sorted»
  refine wpAny_bind (m := checkCount "sorted" 1 1 _) (wpAny_pure ?_)
  refine wpAny_bind (PySem.W.kdu_collect (A := X.A.in1) (kdl_raw hs hx hdt) (I.ok.hd hcalm) ho (by omega) fun h' tk acc hk it => ?_)
  have ea : acc.toList = ks.map fun x => Value.ref x.2.1 := by
    have hl : acc.toList.length = ks.length := by rw [Array.length_toList, it.1]; exact l1
    apply List.ext_getElem?
    intro j
    rw [List.getElem?_map]
    cases hj : acc.toList[j]? with
    | none =>
      have h1 := List.getElem?_eq_none_iff.mp hj
      rw [List.getElem?_eq_none (by omega)]
      all_goals rfl
    | some v =>
      obtain ⟨en, hen, hv⟩ := it.2 j v (by rw [← Array.getElem?_toList]; exact hj)
      have qe := entry_at he j
      rw [hen] at qe
      cases hb : ks[j]? with
      | none =>
        rw [hb] at qe
        exact nomatch (show some en = none from qe)
      | some b =>
        rw [hb] at qe
        have e2 : en = entryOfKey (tupleKind (mixKind X.prog X.w)) b := Option.some.inj qe
        rw [hv, e2]
        all_goals rfl
  have ik : IsKeys H kvs (ks.map fun x => x.2.1) := isKeys_of pr
  obtain ⟨kb1, kb2⟩ := keys_bars ik hks
  generalize has : (ks.map fun x => x.2.1) = as at ik kb1 kb2
  have ea' : acc.toList = as.map Value.ref := by rw [ea, ← has, List.map_map]; rfl
  have hal : acc.toList.length = as.length := by rw [ea', List.length_map]
  have hasz : as.length ≤ sizeLine := by rw [← has, List.length_map]; omega
  have I1 : Inv X pins σ H { s with heap := h', toks := tk } := I.kept hk
  refine wpAny_bind (wpAny_newList ?_ (by rw [hal]; exact hasz))
  have hoL : (h'.push (seqObj "list" acc.toList.toArray 0)).get? h'.objs.size = some (seqObj "list" acc.toList.toArray 0) := Heap.get?_push_size _ rfl
  show wpAny _ _ _ _ _ { s with heap := h'.push (seqObj "list" acc.toList.toArray 0), toks := tk }
  have hbar : ∀ v ∈ acc.toList, IsBarV h' v (barAt H (backV v)) ∧ (barAt H (backV v)).low := fun v hv => by
    rw [ea'] at hv
    obtain ⟨a, ham, rfl⟩ := List.mem_map.mp hv
    obtain ⟨b, hbm, hHa⟩ := kb1 a ham
    have e1 : barAt H (backV (Value.ref a)) = b := barAt_of hHa
    rw [e1]
    refine ⟨?_, hlow b hbm⟩
    obtain ⟨_, its, rv, oo, h1, h2, n, h3⟩ := (show ObjOk X.prog X.w H h' a (.tup b.vs) from I1.hok a _ hHa)
    cases rv with
    | cons r1 rv =>
      cases rv with
      | cons r2 rv =>
        cases rv with
        | cons r3 rv =>
          cases rv with
          | cons r4 rv =>
            cases rv
            obtain ⟨t1, rfl⟩ := r1
            obtain ⟨t2, rfl⟩ := r2
            obtain ⟨t3, rfl⟩ := r3
            obtain ⟨t4, rfl⟩ := r4
            exact ⟨a, oo, t1, t2, t3, t4, n, rfl, h1, h2, h3⟩
  refine wpAny_bind (wpAny_holding (wpAny_call_entry PyProof.Rows.slot_list_sort ⟨_, hoL, rfl⟩ PyProof.Rows.entry_list_sort
    (SrtO.list_sort_ord (s := { s with heap := h'.push (seqObj "list" acc.toList.toArray 0), toks := tk }) (swo_code fun v => barAt H (backV v)) hoL (by rw [hal]; exact hasz) (fun h2 => ?_) fun out hs hb => ⟨_, rfl, ?_⟩)
    (PyProof.Rows.args_list_sort _)))
  · refine bars_sortableO (by omega) (fun v hv => ⟨(hbar v hv).1.keeps fun c oo e _ => Heap.get?_push_of_some _ e, (hbar v hv).2⟩) fun oo e => ?_
    have e' : some oo = some (seqObj "list" acc.toList.toArray 0) := e.symm.trans hoL
    cases e'
    intro c
    exact absurd (Value.type.inj c) (by decide)
  · obtain ⟨e', he'⟩ := PyProof.Rows.sortedHeap_at (vs := acc.toList) (out := out.toArray) hoL
    have pm : out.Perm (as.map Value.ref) := by rw [← ea']; exact hb.perm
    have href : ∀ v ∈ out, ∃ a, v = Value.ref a ∧ a ∈ as := fun v hv => by
      obtain ⟨a, ha, rfl⟩ := List.mem_map.mp (pm.mem_iff.mp hv)
      exact ⟨a, rfl, ha⟩
    have e1 : out.map backV = (out.map fun v => ((match v with | .ref a => a | _ => 0 : Addr), barAt H (backV v))).map fun k => V.ref k.1 := by
      rw [List.map_map]
      refine List.map_congr_left fun v hv => ?_
      obtain ⟨a, rfl, _⟩ := href v hv
      rfl
    have e2 : (out.map fun v => ((match v with | .ref a => a | _ => 0 : Addr), barAt H (backV v))).map (·.2) = out.map fun v => barAt H (backV v) := by
      rw [List.map_map]; rfl
    have pm2 : (out.map fun v => barAt H (backV v)).Perm bs := by
      have q1 := pm.map fun v => barAt H (backV v)
      have q2 : (as.map Value.ref).map (fun v => barAt H (backV v)) = bs := by
        rw [← kb2, List.map_map, List.map_map]; rfl
      rw [q2] at q1
      exact q1
    have qq := q (out.map fun v => ((match v with | .ref a => a | _ => 0 : Addr), barAt H (backV v))) h'.objs.size (fun k hk2 => by
        obtain ⟨v, hv, rfl⟩ := List.mem_map.mp hk2
        obtain ⟨a, rfl, ha⟩ := href v hv
        obtain ⟨b, _, hH⟩ := kb1 a ha
        show H a = some (.tup (barAt H (.ref a)).vs)
        rw [barAt_of hH]
        exact hH) (by rw [e2]; exact pm2) (by
        rw [e2, List.pairwise_map]
        exact hs.imp fun {x y} q => by
          have := of_decide_eq_false q
          omega) (I1.hok.fresh (Nat.le_refl _))
    rw [← e1] at qq
    refine wpAny_pure ⟨_, rfl, .ref h'.objs.size, upd H h'.objs.size (.lst (out.map backV)), I1.laid (t' := tk) (fun b u e => ?_) (Nat.le_refl _)
      (show ObjOk X.prog X.w _ _ _ (.lst (out.map backV)) from ⟨?_, out, e', vals_back fun v hv => ?_, he'⟩), rfl, qq⟩
    · have hb : b < h'.objs.size := Heap.lt_size e
      rw [PyProof.Rows.sortedHeap_old (Nat.ne_of_lt hb) (by rw [size_push']; exact Nat.lt_succ_of_lt hb)]
      exact Heap.get?_push_of_some _ e
    · rw [List.length_map, pm.length_eq, List.length_map]
      exact hasz
    · obtain ⟨a, e, _⟩ := href v hv
      exact ⟨a, e⟩
end
end DL

set_option Elab.async false
set_option maxRecDepth 100000
namespace DL
open PySem PySem.Spec PyProof.Rows L2
/-! ### bar <= bar -/
def Bar.leb (a b : Bar) : Bool := decide (a.code ≤ b.code)
def Bar.leq (a b : Bar) : Bool := if a.d = b.d then (if a.w = b.w then (if a.o = b.o then (if a.t = b.t then true else !(!b.t && a.t)) else decide (a.o ≤ b.o)) else !(!b.w && a.w)) else decide (a.d ≤ b.d)
theorem Bar.leq_code {a b : Bar} (ha : a.low) (hb : b.low) : a.leq b = a.leb b := by
  obtain ⟨ad, aw, ao, at'⟩ := a
  obtain ⟨bd, bw, bo, bt⟩ := b
  unfold Bar.low at ha hb
  unfold Bar.leq Bar.leb Bar.code b2n
  simp only at ha hb ⊢
  by_cases h1 : ad = bd
  · rw [if_pos h1]
    by_cases h2 : aw = bw
    · rw [if_pos h2]
      by_cases h3 : ao = bo
      · rw [if_pos h3]
        subst h1 h2 h3
        cases at' <;> cases bt <;> simp <;> omega
      · rw [if_neg h3]
        subst h1 h2
        cases at' <;> cases bt <;> simp <;> omega
    · rw [if_neg h2]
      subst h1
      cases aw <;> cases bw <;> cases at' <;> cases bt <;> simp at h2 ⊢ <;> omega
  · rw [if_neg h1]
    cases aw <;> cases bw <;> cases at' <;> cases bt <;> simp <;> omega
def rLeB (K : PySem.W.Frag) : R2 := fun x y H Q => ∃ (a b : Addr) (p q : Bar), x = .ref a ∧ y = .ref b ∧ SqT K H a p.vs ∧ SqT K H b q.vs ∧ Q (.bl (p.leq q)) H
theorem four_of {p : Bar} {its : List Value} (r : Vals p.vs its) : ∃ t1 t2 t3 t4, its = [.int p.d t1, .str (wd p.w) t2, .int p.o t3, .str (wd p.t) t4] := by
  cases r with
  | cons r1 rv =>
    cases rv with
    | cons r2 rv =>
      cases rv with
      | cons r3 rv =>
        cases rv with
        | cons r4 rv =>
          cases rv
          obtain ⟨t1, rfl⟩ := r1
          obtain ⟨t2, rfl⟩ := r2
          obtain ⟨t3, rfl⟩ := r3
          obtain ⟨t4, rfl⟩ := r4
          exact ⟨t1, t2, t3, t4, rfl⟩
theorem beq_dec {α : Type} [BEq α] [LawfulBEq α] [DecidableEq α] (a b : α) : (a == b) = decide (a = b) := by
  by_cases q : a = b
  · rw [decide_eq_true q]; exact beq_iff_eq.mpr q
  · rw [decide_eq_false q]; exact beq_eq_false_iff_ne.mpr q
theorem wd_beq (a b : Bool) : ((wd a) == (wd b)) = decide (a = b) := by revert a b; decide +kernel
theorem op_leB {X : Cx} (hu : X.A.units < cLine) : OpR X (compareOp .LtE) (rLeB X.K) := by
  intro pins s σ H x y v u Q I rx ry h
  obtain ⟨a, b, p, q, rfl, rfl, ha, hb, hq⟩ := h
  cases rx
  cases ry
  obtain ⟨its, r1, p1, _⟩ := I.tuple ha
  obtain ⟨its2, r2, p2, _⟩ := I.tuple hb
  obtain ⟨t1, t2, t3, t4, rfl⟩ := four_of r1
  obtain ⟨u1, u2, u3, u4, rfl⟩ := four_of r2
  have R := Ob.RcOp.tuples_le (A := X.A) (s := s) (e := fun j => match j with | 0 => decide (p.d = q.d) | 1 => decide (p.w = q.w) | 2 => decide (p.o = q.o) | _ => decide (p.t = q.t))
    (r := fun j => match j with | 0 => decide (p.d ≤ q.d) | 1 => !(!q.w && p.w) | 2 => decide (p.o ≤ q.o) | _ => !(!q.t && p.t)) p1 p2 hu (fun j h1 h2 => by
      match j, h1, h2 with
      | 0, _, _ => show SeqAt.EqAt _ _ (.int p.d t1) (.int q.d u1) (decide (p.d = q.d)); rw [← beq_dec]; exact SeqAt.EqAt.int_int _ _ _ _
      | 1, _, _ => show SeqAt.EqAt _ _ (.str (wd p.w) t2) (.str (wd q.w) u2) (decide (p.w = q.w)); rw [← wd_beq]; exact SeqAt.EqAt.str_str _ _ _ _
      | 2, _, _ => show SeqAt.EqAt _ _ (.int p.o t3) (.int q.o u3) (decide (p.o = q.o)); rw [← beq_dec]; exact SeqAt.EqAt.int_int _ _ _ _
      | 3, _, _ => show SeqAt.EqAt _ _ (.str (wd p.t) t4) (.str (wd q.t) u4) (decide (p.t = q.t)); rw [← wd_beq]; exact SeqAt.EqAt.str_str _ _ _ _
      | n + 4, h1, _ => exact absurd (show n + 4 < 4 from h1) (by omega)) (fun j h1 h2 _ => by
      match j, h1, h2 with
      | 0, _, _ => exact Ob.RcOp.le_int _ _ _ _
      | 1, _, _ =>
        show Ob.RcOp .LtE _ _ (.str (wd p.w) t2) (.str (wd q.w) u2) (!(!q.w && p.w))
        rw [← wd_lt]
        exact fun _ _ _ _ h => PySem.P.le_str h
      | 2, _, _ => exact Ob.RcOp.le_int _ _ _ _
      | 3, _, _ =>
        show Ob.RcOp .LtE _ _ (.str (wd p.t) t4) (.str (wd q.t) u4) (!(!q.t && p.t))
        rw [← wd_lt]
        exact fun _ _ _ _ h => PySem.P.le_str h
      | n + 4, h1, _ => exact absurd (show n + 4 < 4 from h1) (by omega))
  have z : wpAny (model X.prog X.w) X.A (compareOp .LtE (.ref a) (.ref b)) (EP X pins σ Q) X.xe s := R X.prog X.w X.xe (EP X pins σ Q) (by
    refine ⟨.bl (p.leq q), H, I, ?_, hq⟩
    show Value.bool _ = Value.bool (p.leq q)
    have e : (Ob.lexAt (fun j => match j with | 0 => decide (p.d = q.d) | 1 => decide (p.w = q.w) | 2 => decide (p.o = q.o) | _ => decide (p.t = q.t))
      (fun j => match j with | 0 => decide (p.d ≤ q.d) | 1 => !(!q.w && p.w) | 2 => decide (p.o ≤ q.o) | _ => !(!q.t && p.t)) true 0 4) = p.leq q := by
      unfold Bar.leq
      simp only [Ob.lexAt, decide_eq_true_eq]
    exact congrArg Value.bool e)
  exact z
/-! ### for i, x in enumerate(t), t a tuple -/
def IteT (K : PySem.W.Frag) (a : Addr) : It :=
  ⟨fun i H => ∃ (xs : List V) (x : V), SqT K H a xs ∧ xs[i]? = some x, fun i H v H' => ∃ T x, v = .ref T ∧ H T = none ∧ H' = upd H T (.tup [.int (i : Nat), x]) ∧ ∀ xs, SqT K H a xs → xs[i]? = some x, fun i H => ∃ xs : List V, SqT K H a xs ∧ xs.length ≤ i⟩
theorem turn_enumT {P : Program} {w : World} {K : PySem.W.Frag} {elts : List Expr} {kk : Nat} {tpos : Pos} (a e it : Addr) (hai : a ≠ it) (hae : e ≠ a) :
    Turn P w K (.Tuple elts kk tpos) (IteT K a) [e, it] e (fun i h => (∃ old, IsEnum h e it ((i : Nat) : Int) old) ∧ h.IsTupleIter it a i ∧ e ≠ it) where
  mem := by simp
  obj := fun i h st b hb => by
    obtain ⟨⟨old, he⟩, ⟨o, ho, hc, hd⟩, _⟩ := st
    have e' : b = e ∨ b = it := by simpa using hb
    rcases e' with z | z
    · rw [z]; exact ⟨_, he, fun v q => nomatch q⟩
    · rw [z]; exact ⟨o, ho, fun v q => by rw [hd] at q; cases q⟩
  keep := fun i h h' st k => let ⟨⟨old, he⟩, hi, hne⟩ := st; ⟨⟨old, k e (by simp) _ he⟩, hi.at fun o q => k it (by simp) o q, hne⟩
  item := by
    intro X hP hw hK hc i pins s σ H E I hf st hg
    subst hP hw hK
    obtain ⟨⟨old, he⟩, hit, hne⟩ := st
    obtain ⟨xs, x, hq, hx⟩ := hg
    obtain ⟨its, rv, p, hz⟩ := I.tuple hq
    obtain ⟨u, hu, ru⟩ := rv.get hx
    have hel : e < s.heap.objs.size := Heap.lt_size he
    have hil : it < s.heap.objs.size := by obtain ⟨_, q, _⟩ := hit; exact Heap.lt_size q
    have hlt : i < its.toArray.size := by
      have := (List.getElem?_eq_some_iff.mp hu).1
      simpa using this
    refine wpAny_pyNext_enum_itemD (Draws.tuple (A := X.A.in1) (I.ok.hd hc) it a hai its.toArray) he ⟨hit, p⟩ hlt hne (by simp; exact ⟨hne, hae⟩) fun x1 h' tk hp ho hst' hT hsz hk => ?_
    have hx1 : x1 = u := by
      have q : its.toArray[i]? = some u := by simpa using hu
      rw [q] at hp
      exact (Option.some.inj hp).symm
    subst hx1
    refine ⟨_, rfl, wpAny_letOwnedTupleGo_enum (s := { s with heap := h', toks := tk + 1 }) ho fun h'' he' sb => ?_⟩
    have hT2 : h''.get? s.heap.objs.size = some { cls := .type "tuple", data := .seq #[.int i tk, x1] } := (sb.2 _ (Nat.ne_of_gt hel)).trans hT
    have new : ObjOk X.prog X.w (upd H s.heap.objs.size (.tup [.int (i : Nat), x])) h'' s.heap.objs.size (.tup [.int (i : Nat), x]) :=
      ⟨by show 2 ≤ sizeLine; decide, [.int i tk, x1], .cons ⟨_, rfl⟩ (.cons ru .nil), ⟨_, hT2, rfl, _, rfl⟩⟩
    have I1 : Inv X pins σ (upd H s.heap.objs.size (.tup [.int (i : Nat), x])) { s with heap := h'', toks := tk + 1 } :=
      I.turnedNew (ch := [e, it]) (fun b ob hb q => (sb.2 b (fun z => hb (by simp [z]))).trans (hk b ob (fun z => hb (by simp [z])) (fun z => hb (by simp [z])) q)) hf (Nat.le_refl _) new
    refine ⟨.ref s.heap.objs.size, _, I1, rfl, ⟨_, x, rfl, I.hok.fresh (Nat.le_refl _), rfl, fun ys hy => by rw [I.tuple_inj hy hq]; exact hx⟩, ⟨⟨x1, ?_⟩, hst'.1.at fun o q => (sb.2 it (Ne.symm hne)).trans q, hne⟩, fun b hb => ?_⟩
    · have e1 : ((i + 1 : Nat) : Int) = (i : Int) + 1 := by omega
      rw [e1]; exact he'
    · have hb' : b < s.heap.objs.size := by
        have e' : b = e ∨ b = it := by simpa using hb
        rcases e' with z | z
        · rw [z]; exact hel
        · rw [z]; exact hil
      rw [upd_ne (Nat.ne_of_lt hb')]
      exact (hf b hb).1
  done := by
    intro X hP hw hK hc i pins s σ H E I hf st hg
    subst hP hw hK
    obtain ⟨⟨old, he⟩, hit, hne⟩ := st
    obtain ⟨xs, hq, hx⟩ := hg
    obtain ⟨its, rv, p, hz⟩ := I.tuple hq
    obtain ⟨f0, f1, f2, f3, f4, f5⟩ := hf it (by simp)
    have hl := rv.length
    have D := Draws.tuple (prog := X.prog) (w := X.w) (A := X.A.in1) (I.ok.hd hc) it a hai its.toArray
    have go : ∀ {Q : Option Value → Shared → Prop}, (∀ h', Heap.ExtBut it s.heap h' → Q none { s with heap := h' }) → wpAny (model X.prog X.w) X.A (pyNext (.ref e)) Q E s := by
      intro Q hQ
      unfold pyNext
      have hT : s.TypeIs (.ref e) "enumerate" := ⟨_, he, rfl⟩
      refine wpAny_bind (wpAny_attempt (wpAny_callSpecial?_slot (name := Str.ofString "__next__") hT F.slot_enumerate_next
        (wpAny_call_entry F.slot_enumerate_next hT F.entry_enumerate_next ?_ (F.args_enumerate_next_1 _))))
      show wpAny _ _ (field (.ref e) 2 >>= _) _ _ _
      refine wpAny_bind (wpAny_field he rfl (x := .ref it) rfl ?_)
      refine wpAny_bind (wpAny_nextOf_tuple_end (I.ok.hd hc) hit p (by simp; omega) fun h' x he' hx' => ?_)
      obtain ⟨o, ho, hc⟩ := hx'
      refine wpAny_bind (wpAny_isInstance (T := "StopIteration") (b := true) ⟨o, ho, hc⟩ isSubtype_stop ?_)
      exact wpAny_pure (hQ _ he')
    exact go fun h' eb => ⟨rfl, I.turned (t' := s.toks) (fun b o hb q => eb b o hb q) f0 f1 f3 f4 f5⟩
  self := fun A i s Q E st h => let ⟨⟨_, he⟩, _⟩ := st; wpAny_pyIter_enum he h
def iEnumT (K : PySem.W.Frag) (ta : TA) : TI := fun σ H R => ta σ H fun vs H1 => ∃ a xs, vs = [.ref a] ∧ SqT K H1 a xs ∧ R (IteT K a) H1
end DL

set_option Elab.async false
set_option maxRecDepth 100000
namespace DL
open PySem PySem.Spec PyProof.Rows L2
open Sem (wp)
set_option maxHeartbeats 1000000 in
theorem meets_enumerate_newB1 {v : Value} {o : Obj} {H : Heap → Prop} (B : Begins v o H) :
    Meets (Builtin.«enumerate.__new__» ⟨[.type "enumerate", v], []⟩) (fun _ R s => H s.heap ∧
      R (.ok (.ret (.ref (s.heap.push o).objs.size))) { s with heap := (s.heap.push o).push { cls := .type "enumerate", data := .fields #[.none, .bool false, .ref s.heap.objs.size, rawInt 0, .none, .none] } }) :=
  .of_wp fun prog w A R s h => by
    obtain ⟨hp, g, d, tk, os⟩ := s; obtain ⟨h1, h⟩ := h
    have hsub := sub_enumerate
    have q1 : ∀ {A' : Around} {E : Value → Shared → Prop} {Q : Value → Shared → Prop}, Q (.ref hp.objs.size) ⟨hp.push o, g, d, tk, os⟩ → wpAny (model prog w) A' (pyIter v) Q E ⟨hp, g, d, tk, os⟩ :=
      fun q => B.iter prog w _ _ ⟨hp, g, d, tk, os⟩ _ h1 q
    wp_walk using q1
    refine wpAny_stack_any fun st => wpAny_pure ?_
    split
    · rename_i c _ _ _ _ _
      cases (c == Value.type "enumerate")
      · wp_walk using q1
        exact ⟨_, rfl, h⟩
      · wp_walk using q1
        exact ⟨_, rfl, h⟩
    · wp_walk using q1
      exact ⟨_, rfl, h⟩
section
variable {prog : Program} {w : World} {A : Around} {E : Value → Shared → Prop} {s : Shared}
theorem enum_begins1 {v : Value} {o : Obj} {H : Heap → Prop} {Q : Value → Shared → Prop} (B : Begins v o H) (h1 : H s.heap)
    (h : ∀ h', IsEnum h' (s.heap.objs.size + 1) s.heap.objs.size 0 .none → h'.get? s.heap.objs.size = some o → h'.objs.size = s.heap.objs.size + 2 →
      (∀ b o, s.heap.get? b = some o → h'.get? b = some o) → Q (.ref (s.heap.objs.size + 1)) { s with heap := h' }) :
    wpAny (model prog w) A (call (.type "enumerate") [v]) Q E s := by
  refine callType_new F.called_enumerate (by decide) (F.typeCall_enumerate_1 _) (F.newCall_enumerate_1 _) (fun obj => F.args_object_init_2 obj _) F.entry_enumerate_new
    (meets_enumerate_newB1 B) ⟨h1, ?_⟩
  have hz : (s.heap.push o).objs.size = s.heap.objs.size + 1 := Heap.size_push ..
  show _ ∧ _
  rw [hz]
  have he : IsEnum ((s.heap.push o).push { cls := .type "enumerate", data := .fields #[.none, .bool false, .ref s.heap.objs.size, rawInt 0, .none, .none] }) (s.heap.objs.size + 1) s.heap.objs.size 0 .none := by
    have := Heap.get?_push_size (s.heap.push o) (o := { cls := .type "enumerate", data := .fields #[.none, .bool false, .ref s.heap.objs.size, rawInt 0, .none, .none] }) rfl
    rw [hz] at this; exact this
  refine ⟨⟨_, he, rfl⟩, h _ he (Heap.get?_push_of_some _ (Heap.get?_push_size _ B.free)) (by rw [Heap.size_push, hz]) fun b o x => Heap.get?_push_of_some _ (Heap.get?_push_of_some _ x)⟩
end
theorem pi_enumT {X : Cx} {e : Expr} {ta : TA} {p pos tpos : Pos} {elts : List Expr} {kk : Nat} (hg : Gl X "enumerate") (hm : X.mg "enumerate" = none) (ha : PA X [e] ta) (hs : starEach [e] X.env = [(false, eval e X.env)] := by rfl) :
    PI X (.Tuple elts kk tpos) (.Call (.Name "enumerate" p) [e] [] pos) (iEnumT X.K ta) := by
  refine ⟨fun pins s σ H R I h => ?_⟩
  refine Call_ (ld_blt I hg hm boot_enumerate (PyProof.Rows.callWith_type1 (thn (ha.run pos pins s σ H _ I h) fun us s1 ⟨vs, H1, I1, r1, q1⟩ => ?_) hs rfl))
  obtain ⟨a, xs, ex, hq, q⟩ := q1
  subst ex
  cases r1 with
  | cons r rr =>
    cases rr
    cases r
    obtain ⟨its, rv, p', hz⟩ := I1.tuple hq
    have hal : a < s1.heap.objs.size := by obtain ⟨o, ho, _⟩ := id p'; exact Heap.lt_size ho
    refine enum_begins1 (begins_tuple a its.toArray) (show s1.heap.IsTuple a its.toArray from p') fun h' he hit hsz hk => wpAny_pyIter_enum he ?_
    have I2 : Inv X pins σ H1 { s1 with heap := h' } := I1.kept (t' := s1.toks) hk
    refine ⟨s1.heap.objs.size + 1, [s1.heap.objs.size + 1, s1.heap.objs.size], _, _, H1, rfl, I2, turn_enumT a (s1.heap.objs.size + 1) s1.heap.objs.size (Nat.ne_of_lt hal) (Nat.ne_of_gt (Nat.lt_succ_of_lt hal)),
      ⟨⟨.none, he⟩, ⟨_, hit, rfl, rfl⟩, Nat.succ_ne_self _⟩, fun b hb => ?_, q⟩
    have e' : b = s1.heap.objs.size + 1 ∨ b = s1.heap.objs.size := by simpa using hb
    have hle : s1.heap.objs.size ≤ b := by
      rcases e' with z | z
      · rw [z]; exact Nat.le_add_right _ _
      · rw [z]; exact Nat.le_refl _
    exact I1.fpOk hle (I1.hok.fresh hle)
theorem walk_enumT {K : PySem.W.Frag} {a : Addr} {xs : List V} : Walk (IteT K a) xs.length (fun H => SqT K H a xs) (YPair (fun i => some (.int (i : Nat))) (fun i => xs[i]?)) := by
  refine ⟨fun i _ hi q => ⟨xs, xs[i], q, by simp [hi]⟩, fun _ q => ⟨xs, q, Nat.le_refl _⟩, fun i H v H' _ q y => ?_⟩
  obtain ⟨T, x, h1, h2, h3, h4⟩ := y
  exact ⟨T, .int (i : Nat), x, h1, h2, h3, rfl, h4 xs q⟩
end DL

set_option Elab.async false
set_option maxRecDepth 100000
set_option maxHeartbeats 1000000
namespace DL
open PySem PySem.Spec PyProof.Rows L2
/-! ### a zip that is walked by an enumerate: its tuple stays out -/
/-- the zip at z; own: the tuple that is out, if any -/
abbrev IsZ (h : Heap) (z TI TO : Addr) (own : Value) (f : Bool) : Prop :=
  h.get? z = some { cls := .type "zip", dict := none, data := .fields #[own, .bool f, .bool false, .ref TI, .ref TO], slots := #[] }
section
variable {prog : Program} {w : World} {A : Around} {E : Value → Shared → Prop} {s : Shared}
/-- the next pair while the zip's own tuple can be laid anew -/
theorem zn_free {z TI TO i1 i2 l1 l2 : Addr} {k1 k2 : Nat} {xs ys : Array Value} {x y a b own : Value} {f : Bool} {Q : Value → Shared → Prop} (D : ZipApart z TI TO i1 i2 l1 l2)
    (hz : IsZ s.heap z TI TO own f) (fr : ∀ {A' : Around} {Q' : Bool → Shared → Prop}, Q' true s → wpAny (model prog w) A' (Builtin.SmallTypes.ownedTupleIsFree (.ref z)) Q' E s)
    (hTI : IsPair s.heap TI (.ref i1) (.ref i2)) (hTO : IsPair s.heap TO a b) (h1 : s.heap.IsListIter i1 l1 k1) (h2 : s.heap.IsListIter i2 l2 k2) (hl1 : s.heap.IsList l1 xs) (hl2 : s.heap.IsList l2 ys) (hx : xs[k1]? = some x) (hy : ys[k2]? = some y)
    (hQ : ∀ h' own' f', (∃ T : Addr, own' = rawInt T) → IsZ h' z TI TO own' f' → IsPair h' TO x y → h'.IsListIter i1 l1 (k1 + 1) → h'.IsListIter i2 l2 (k2 + 1) → IsPair h' s.heap.objs.size x y → h'.objs.size = s.heap.objs.size + 1 →
      (∀ c o, c ≠ z → c ≠ TO → c ≠ i1 → c ≠ i2 → s.heap.get? c = some o → h'.get? c = some o) → Q (.ref s.heap.objs.size) { s with heap := h' }) :
    wpAny (model prog w) A (Builtin.«zip.__next__» ⟨[.ref z], []⟩) (fun fin s' => ∃ v, fin = .done (.ret v) ∧ Q v s') E s := by
  show wpAny _ _ (field (.ref z) 2 >>= _) _ _ _
  refine wpAny_bind (wpAny_field hz rfl (x := .bool false) rfl ?_) ; show wpAny _ _ (field (.ref z) 3 >>= _) _ _ _
  refine wpAny_bind (wpAny_field hz rfl (x := .ref TI) rfl ?_) ; refine wpAny_bind (wpAny_seqItems hTI rfl ?_)
  show wpAny _ _ (Builtin.SmallTypes.ownedTupleIsFree (.ref z) >>= _) _ _ _ ; refine wpAny_bind (fr ?_)
  simp only [if_true]
  refine wpAny_bind (wpAny_rule (wpAny_bind (wpAny_field hz rfl (x := .ref TO) rfl ?_)))
  refine wpAny_bind (wpAny_setField_rec hz (by simp) fun g1 z1 b1 => ?_)
  replace z1 : IsZ g1 z TI TO .ellipsis f := z1
  refine wpAny_bind ?_
  simp only [List.zipIdx_cons, List.zipIdx_nil, List.forIn_cons, List.forIn_nil]
  refine wpAny_bind (wpAny_bind (wpAny_onRaise ?_)) ; show wpAny _ _ (Builtin.SmallTypes.nextOf (.ref i1) >>= _) _ _ _
  refine wpAny_bind (wpAny_nextOf_list_item (h1.extBut b1.extBut D.i1z) (hl1.extBut b1.extBut D.l1z) hx fun g2 it2 b2 => wpAny_pure ?_)
  have p2 : IsPair g2 TO a b := b2.extBut _ _ D.TOi1 (b1.extBut _ _ D.TOz hTO)
  refine wpAny_bind (wpAny_seqItems p2 rfl (wpAny_bind (wpAny_updateSeq_pair p2 fun g3 p3 b3 => ?_)))
  replace p3 : IsPair g3 TO x b := p3
  refine wpAny_bind (wpAny_letGo (wpAny_pure (wpAny_bind (wpAny_bind (wpAny_onRaise ?_)))))
  show wpAny _ _ (Builtin.SmallTypes.nextOf (.ref i2) >>= _) _ _ _ ; refine wpAny_bind (wpAny_nextOf_list_item (((h2.extBut b1.extBut D.i2z).extBut b2.extBut D.i12.symm).extBut b3.extBut D.TOi2.symm)
    (((hl2.extBut b1.extBut D.l2z).extBut b2.extBut D.l2i1).extBut b3.extBut D.l2TO) hy fun g4 it4 b4 => wpAny_pure ?_)
  have p4 : IsPair g4 TO x b := b4.extBut _ _ D.TOi2 p3
  refine wpAny_bind (wpAny_seqItems p4 rfl (wpAny_bind (wpAny_updateSeq_pair p4 fun g5 p5 b5 => ?_)))
  replace p5 : IsPair g5 TO x y := p5
  refine wpAny_bind (wpAny_letGo (wpAny_pure (wpAny_pure (wpAny_bind (wpAny_seqItems p5 rfl (wpAny_bind (wpAny_newTuple ?_)))))))
  have sz : g5.objs.size = s.heap.objs.size := by rw [b5.1, b4.1, b3.1, b2.1, b1.1]
  have z5 : IsZ g5 z TI TO .ellipsis f := b5.extBut _ _ D.TOz.symm (b4.extBut _ _ D.i2z.symm (b3.extBut _ _ D.TOz.symm (b2.extBut _ _ D.i1z.symm z1)))
  have k5 : ∀ c o, c ≠ z → c ≠ TO → c ≠ i1 → c ≠ i2 → s.heap.get? c = some o → g5.get? c = some o := fun c o c1 c2 c3 c4 e => b5.extBut _ _ c2 (b4.extBut _ _ c4 (b3.extBut _ _ c2 (b2.extBut _ _ c3 (b1.extBut _ _ c1 e))))
  have it1 : g5.IsListIter i1 l1 (k1 + 1) := ((it2.extBut b3.extBut D.TOi1.symm).extBut b4.extBut D.i12).extBut b5.extBut D.TOi1.symm
  have it5 : g5.IsListIter i2 l2 (k2 + 1) := it4.extBut b5.extBut D.TOi2.symm
  have ltz : z < g5.objs.size := Heap.lt_size z5
  show wpAny _ _ (Builtin.SmallTypes.ownedTupleHandOut (.ref z) (.ref g5.objs.size) >>= _) _ _ _ ; refine wpAny_bind ?_
  unfold Builtin.SmallTypes.ownedTupleHandOut
  have z6 : IsZ (g5.push { cls := .type "tuple", data := .seq #[x, y] }) z TI TO .ellipsis f := Heap.get?_push_of_some _ z5
  refine wpAny_bind (wpAny_setField_rec z6 (by simp) fun g7 z7 b7 => ?_)
  replace z7 : IsZ g7 z TI TO (rawInt g5.objs.size) f := z7
  refine wpAny_setField_rec z7 (by simp) fun g8 z8 b8 => ?_
  replace z8 : IsZ g8 z TI TO (rawInt g5.objs.size) false := z8
  have up : ∀ c o, c ≠ z → g5.get? c = some o → g8.get? c = some o := fun c o c1 e => b8.extBut _ _ c1 (b7.extBut _ _ c1 (Heap.get?_push_of_some _ e))
  have t8 : IsPair g8 g5.objs.size x y := b8.extBut _ _ (Nat.ne_of_gt ltz) (b7.extBut _ _ (Nat.ne_of_gt ltz) (Heap.get?_push_size _ rfl))
  have sz8 : g8.objs.size = g5.objs.size + 1 := by rw [b8.1, b7.1, Heap.size_push]
  rw [sz] at z8 t8 sz8
  refine wpAny_pure ⟨_, rfl, ?_⟩ ; show Q (.ref g5.objs.size) _
  rw [sz]
  exact hQ g8 _ _ ⟨_, rfl⟩ z8 (up _ _ D.TOz p5) (it1.at fun o e => up _ o D.i1z e) (it5.at fun o e => up _ o D.i2z e) t8 sz8 fun c o c1 c2 c3 c4 e => up c o c1 (k5 c o c1 c2 c3 c4 e)
theorem gone_load {T : Addr} {Q' : Option Obj → Shared → Prop} {A' : Around} (e : s.heap.get? T = none) (q : Q' none s) : wpAny (model prog w) A' (loadIfAlive T) Q' E s := by
  have z : Q' (s.heap.get? T) s := by
    rw [e]
    exact q
  exact fun _ _ _ => z
/-- none out, or one that is no more -/
theorem own_free {z TI TO : Addr} {own : Value} {f : Bool} (hz : IsZ s.heap z TI TO own f) (ho : own = .none ∨ ∃ T : Addr, own = rawInt T ∧ s.heap.get? T = none) {A' : Around} {Q' : Bool → Shared → Prop} (q : Q' true s) :
    wpAny (model prog w) A' (Builtin.SmallTypes.ownedTupleIsFree (.ref z)) Q' E s := by
  unfold Builtin.SmallTypes.ownedTupleIsFree
  rcases ho with rfl | ⟨T, rfl, e⟩
  · exact wpAny_bind (wpAny_field hz rfl (x := .none) rfl (wpAny_pure q))
  · refine wpAny_bind (wpAny_field hz rfl (x := rawInt T) rfl ?_)
    show wpAny _ _ (loadIfAlive ((T : Int).toNat) >>= _) _ _ _
    rw [Int.toNat_natCast]
    exact wpAny_bind (gone_load e (wpAny_pure q))
/-- the next pair of a zip, whatever became of the one before -/
theorem zn_item {z TI TO i1 i2 l1 l2 : Addr} {k1 k2 : Nat} {xs ys : Array Value} {x y a b own : Value} {f : Bool} {Q : Value → Shared → Prop} (D : ZipApart z TI TO i1 i2 l1 l2)
    (hz : IsZ s.heap z TI TO own f) (ho : own = .none ∨ ∃ T : Addr, own = rawInt T)
    (hTI : IsPair s.heap TI (.ref i1) (.ref i2)) (hTO : IsPair s.heap TO a b) (h1 : s.heap.IsListIter i1 l1 k1) (h2 : s.heap.IsListIter i2 l2 k2) (hl1 : s.heap.IsList l1 xs) (hl2 : s.heap.IsList l2 ys) (hx : xs[k1]? = some x) (hy : ys[k2]? = some y)
    (hQ : ∀ h' own' f' a' b', (∃ T : Addr, own' = rawInt T) → IsZ h' z TI TO own' f' → IsPair h' TO a' b' → h'.IsListIter i1 l1 (k1 + 1) → h'.IsListIter i2 l2 (k2 + 1) → IsPair h' s.heap.objs.size x y → h'.objs.size = s.heap.objs.size + 1 →
      (∀ c o, c ≠ z → c ≠ TO → c ≠ i1 → c ≠ i2 → s.heap.get? c = some o → h'.get? c = some o) → Q (.ref s.heap.objs.size) { s with heap := h' }) :
    wpAny (model prog w) A (Builtin.«zip.__next__» ⟨[.ref z], []⟩) (fun fin s' => ∃ v, fin = .done (.ret v) ∧ Q v s') E s := by
  have free : (own = .none ∨ ∃ T : Addr, own = rawInt T ∧ s.heap.get? T = none) → wpAny (model prog w) A (Builtin.«zip.__next__» ⟨[.ref z], []⟩) (fun fin s' => ∃ v, fin = .done (.ret v) ∧ Q v s') E s := fun fr =>
    zn_free D hz (fun q => own_free hz fr q) hTI hTO h1 h2 hl1 hl2 hx hy fun h' own' f' a1 a2 a3 a4 a5 a6 a7 a8 => hQ h' own' f' _ _ a1 a2 a3 a4 a5 a6 a7 a8
  rcases ho with e | ⟨T, e⟩
  · exact free (.inl e)
  · cases hT : s.heap.get? T with
    | none => exact free (.inr ⟨T, e, hT⟩)
    | some oT =>
      subst e
      have ne : ∀ c, c = TO → c ≠ z := fun c e => by rw [e]; exact D.TOz
      refine zip_next_item_held D hz hT hTI h1 h2 hl1 hl2 hx hy fun h' a1 a2 a3 a4 a5 a6 => hQ h' _ _ a b ⟨T, rfl⟩ a1 (a6 _ _ D.TOz D.TOi1 D.TOi2 hTO) a2 a3 a4 a5 fun c o c1 _ c3 c4 q => a6 c o c1 c3 c4 q
theorem zn_free_end {z TI TO i1 i2 l1 l2 : Addr} {k1 k2 : Nat} {xs ys : Array Value} {a b own : Value} {f : Bool} {Q : PySem.Fin → Shared → Prop} (calm : A.handled = none) (D : ZipApart z TI TO i1 i2 l1 l2)
    (hz : IsZ s.heap z TI TO own f) (fr : ∀ {A' : Around} {Q' : Bool → Shared → Prop}, Q' true s → wpAny (model prog w) A' (Builtin.SmallTypes.ownedTupleIsFree (.ref z)) Q' E s)
    (hTI : IsPair s.heap TI (.ref i1) (.ref i2)) (hTO : IsPair s.heap TO a b) (h1 : s.heap.IsListIter i1 l1 k1) (h2 : s.heap.IsListIter i2 l2 k2) (hl1 : s.heap.IsList l1 xs) (hl2 : s.heap.IsList l2 ys) (ends : xs[k1]? = none ∨ ys[k2]? = none)
    (hE : ∀ h' e, (∀ c o, c ≠ z → c ≠ TO → c ≠ i1 → c ≠ i2 → s.heap.get? c = some o → h'.get? c = some o) → (∃ o, h'.get? e = some o ∧ o.cls = .type "StopIteration") → E (.ref e) { s with heap := h' }) :
    wpAny (model prog w) A (Builtin.«zip.__next__» ⟨[.ref z], []⟩) Q E s := by
  show wpAny _ _ (field (.ref z) 2 >>= _) _ _ _
  refine wpAny_bind (wpAny_field hz rfl (x := .bool false) rfl ?_) ; show wpAny _ _ (field (.ref z) 3 >>= _) _ _ _
  refine wpAny_bind (wpAny_field hz rfl (x := .ref TI) rfl ?_) ; refine wpAny_bind (wpAny_seqItems hTI rfl ?_)
  show wpAny _ _ (Builtin.SmallTypes.ownedTupleIsFree (.ref z) >>= _) _ _ _ ; refine wpAny_bind (fr ?_)
  simp only [if_true]
  refine wpAny_bind (wpAny_rule (wpAny_bind (wpAny_field hz rfl (x := .ref TO) rfl ?_)))
  refine wpAny_bind (wpAny_setField_rec hz (by simp) fun g1 z1 b1 => ?_)
  replace z1 : IsZ g1 z TI TO .ellipsis f := z1
  refine wpAny_bind ?_
  simp only [List.zipIdx_cons, List.zipIdx_nil, List.forIn_cons, List.forIn_nil]
  refine wpAny_bind (wpAny_bind (wpAny_onRaise ?_)) ; show wpAny _ _ (Builtin.SmallTypes.nextOf (.ref i1) >>= _) _ _ _
  have last : ∀ (g : Heap) (e : Addr), IsZ g z TI TO .ellipsis f → (∃ o, g.get? e = some o ∧ o.cls = .type "StopIteration") → e ≠ z := fun g e q ⟨o, h, hc⟩ z => by
    subst z
    rw [q] at h
    cases h
    simp at hc
  cases hx : xs[k1]? with
  | none =>
    refine wpAny_bind (wpAny_nextOf_list_end calm (h1.extBut b1.extBut D.i1z) (hl1.extBut b1.extBut D.l1z) hx fun g2 e b2 he => ?_)
    have z2 : IsZ g2 z TI TO .ellipsis f := b2 _ _ D.i1z.symm z1
    have ne := last _ _ z2 he
    obtain ⟨oe, e1, e2⟩ := he
    exact wpAny_setField_rec z2 (by simp) fun g3 _ b3 => hE g3 e (fun c o c1 _ c3 _ q => b3.extBut _ _ c1 (b2 _ _ c3 (b1.extBut _ _ c1 q))) ⟨oe, b3.extBut _ _ ne e1, e2⟩
  | some x =>
    have hy : ys[k2]? = none := ends.resolve_left fun q => by rw [hx] at q; cases q
    refine wpAny_bind (wpAny_nextOf_list_item (h1.extBut b1.extBut D.i1z) (hl1.extBut b1.extBut D.l1z) hx fun g2 it2 b2 => wpAny_pure ?_)
    have p2 : IsPair g2 TO a b := b2.extBut _ _ D.TOi1 (b1.extBut _ _ D.TOz hTO)
    refine wpAny_bind (wpAny_seqItems p2 rfl (wpAny_bind (wpAny_updateSeq_pair p2 fun g3 p3 b3 => ?_)))
    refine wpAny_bind (wpAny_letGo (wpAny_pure (wpAny_bind (wpAny_bind (wpAny_onRaise ?_)))))
    show wpAny _ _ (Builtin.SmallTypes.nextOf (.ref i2) >>= _) _ _ _ ; refine wpAny_bind (wpAny_nextOf_list_end calm (((h2.extBut b1.extBut D.i2z).extBut b2.extBut D.i12.symm).extBut b3.extBut D.TOi2.symm)
      (((hl2.extBut b1.extBut D.l2z).extBut b2.extBut D.l2i1).extBut b3.extBut D.l2TO) hy fun g4 e b4 he => ?_)
    have z4 : IsZ g4 z TI TO .ellipsis f := b4 _ _ D.i2z.symm (b3.extBut _ _ D.TOz.symm (b2.extBut _ _ D.i1z.symm z1))
    have ne := last _ _ z4 he
    obtain ⟨oe, e1, e2⟩ := he
    exact wpAny_setField_rec z4 (by simp) fun g5 _ b5 => hE g5 e (fun c o c1 c2 c3 c4 q => b5.extBut _ _ c1 (b4 _ _ c4 (b3.extBut _ _ c2 (b2.extBut _ _ c3 (b1.extBut _ _ c1 q))))) ⟨oe, b5.extBut _ _ ne e1, e2⟩
theorem zn_end {z TI TO i1 i2 l1 l2 : Addr} {k1 k2 : Nat} {xs ys : Array Value} {a b own : Value} {f : Bool} {Q : PySem.Fin → Shared → Prop} (calm : A.handled = none) (D : ZipApart z TI TO i1 i2 l1 l2)
    (hz : IsZ s.heap z TI TO own f) (ho : own = .none ∨ ∃ T : Addr, own = rawInt T)
    (hTI : IsPair s.heap TI (.ref i1) (.ref i2)) (hTO : IsPair s.heap TO a b) (h1 : s.heap.IsListIter i1 l1 k1) (h2 : s.heap.IsListIter i2 l2 k2) (hl1 : s.heap.IsList l1 xs) (hl2 : s.heap.IsList l2 ys) (ends : xs[k1]? = none ∨ ys[k2]? = none)
    (hE : ∀ h' e, (∀ c o, c ≠ z → c ≠ TO → c ≠ i1 → c ≠ i2 → s.heap.get? c = some o → h'.get? c = some o) → (∃ o, h'.get? e = some o ∧ o.cls = .type "StopIteration") → E (.ref e) { s with heap := h' }) :
    wpAny (model prog w) A (Builtin.«zip.__next__» ⟨[.ref z], []⟩) Q E s := by
  rcases ho with e | ⟨T, e⟩
  · exact zn_free_end calm D hz (fun q => own_free hz (.inl e) q) hTI hTO h1 h2 hl1 hl2 ends hE
  · cases hT : s.heap.get? T with
    | none => exact zn_free_end calm D hz (fun q => own_free hz (.inr ⟨T, e, hT⟩) q) hTI hTO h1 h2 hl1 hl2 ends hE
    | some oT =>
      subst e
      exact zip_next_end_held calm D hz hT hTI h1 h2 hl1 hl2 ends fun h' e k q => hE h' e (fun c o c1 _ c3 c4 r => k c o c1 c3 c4 r) q
theorem nx_zip_end {z TI TO : Addr} {own : Value} {f : Bool} {Q : Value → Shared → Prop} (hz : IsZ s.heap z TI TO own f) (h : wpAny (model prog w) A.in1 (Builtin.«zip.__next__» ⟨[.ref z], []⟩) (fun _ _ => False) E s) : wpAny (model prog w) A (Builtin.SmallTypes.nextOf (.ref z)) Q E s := by
  have hT : s.TypeIs (.ref z) "zip" := ⟨_, hz, rfl⟩
  unfold Builtin.SmallTypes.nextOf
  refine wpAny_bind (wpAny_callSpecial?_slot (name := Str.ofString "__next__") hT F.slot_zip_next (wpAny_call_entry F.slot_zip_next hT F.entry_zip_next ?_ (F.args_zip_next_1 _)))
  exact wpAny_mono h (fun _ _ q => q.elim) fun _ _ q => q
theorem nx_zip {z TI TO : Addr} {own : Value} {f : Bool} {Q : Value → Shared → Prop} (hz : IsZ s.heap z TI TO own f) (h : wpAny (model prog w) A.in1 (Builtin.«zip.__next__» ⟨[.ref z], []⟩) (fun fin s' => ∃ v, fin = .done (.ret v) ∧ Q v s') E s) :
    wpAny (model prog w) A (Builtin.SmallTypes.nextOf (.ref z)) Q E s := by
  have hT : s.TypeIs (.ref z) "zip" := ⟨_, hz, rfl⟩
  unfold Builtin.SmallTypes.nextOf
  refine wpAny_bind (wpAny_callSpecial?_slot (name := Str.ofString "__next__") hT F.slot_zip_next (wpAny_call_entry F.slot_zip_next hT F.entry_zip_next ?_ (F.args_zip_next_1 _)))
  refine wpAny_mono h (fun fin s' q => ?_) fun _ _ q => q
  obtain ⟨v, e, q⟩ := q
  exact ⟨v, e, wpAny_pure q⟩
/-- the next of an enumerate over a zip: a pair of the index and the zip's pair -/
theorem ez_item {e z TI TO i1 i2 l1 l2 : Addr} {n : Int} {k1 k2 : Nat} {xs ys : Array Value} {x y a b own old : Value} {f : Bool} {Q : Option Value → Shared → Prop} (D : ZipApart z TI TO i1 i2 l1 l2)
    (he : IsEnum s.heap e z n old) (out : e ≠ z ∧ e ≠ TI ∧ e ≠ TO ∧ e ≠ i1 ∧ e ≠ i2) (hz : IsZ s.heap z TI TO own f) (ho : own = .none ∨ ∃ T : Addr, own = rawInt T)
    (hTI : IsPair s.heap TI (.ref i1) (.ref i2)) (hTO : IsPair s.heap TO a b) (h1 : s.heap.IsListIter i1 l1 k1) (h2 : s.heap.IsListIter i2 l2 k2) (hl1 : s.heap.IsList l1 xs) (hl2 : s.heap.IsList l2 ys) (hx : xs[k1]? = some x) (hy : ys[k2]? = some y)
    (hQ : ∀ h' own' f' a' b', (∃ T : Addr, own' = rawInt T) → IsEnumOut h' e z (n + 1) (.ref s.heap.objs.size) (s.heap.objs.size + 1) → IsZ h' z TI TO own' f' → IsPair h' TI (.ref i1) (.ref i2) → IsPair h' TO a' b' → h'.IsListIter i1 l1 (k1 + 1) → h'.IsListIter i2 l2 (k2 + 1) →
      IsPair h' s.heap.objs.size x y → IsPair h' (s.heap.objs.size + 1) (.int n s.toks) (.ref s.heap.objs.size) →
      (∀ c o, c ≠ e → c ≠ z → c ≠ TO → c ≠ i1 → c ≠ i2 → s.heap.get? c = some o → h'.get? c = some o) → Q (some (.ref (s.heap.objs.size + 1))) { s with heap := h', toks := s.toks + 1 }) :
    wpAny (model prog w) A (pyNext (.ref e)) Q E s := by
  have hT : s.TypeIs (.ref e) "enumerate" := ⟨_, he, rfl⟩
  obtain ⟨hp, g, d, tk, os⟩ := s
  unfold pyNext
  refine wpAny_bind (wpAny_attempt (wpAny_callSpecial?_slot (name := Str.ofString "__next__") hT F.slot_enumerate_next (wpAny_call_entry F.slot_enumerate_next hT F.entry_enumerate_next ?_ (F.args_enumerate_next_1 _))))
  show wpAny _ _ (field (.ref e) 2 >>= _) _ _ _
  refine wpAny_bind (wpAny_field he rfl (x := .ref z) rfl (wpAny_bind (nx_zip hz (zn_item D hz ho hTI hTO h1 h2 hl1 hl2 hx hy fun g1 own' f' a' b' w1 zz tO it1 it2 tp sz kp => ?_))))
  replace kp : ∀ c o, c ≠ z → c ≠ TO → c ≠ i1 → c ≠ i2 → hp.get? c = some o → g1.get? c = some o := kp
  replace tp : IsPair g1 hp.objs.size x y := tp
  replace sz : g1.objs.size = hp.objs.size + 1 := sz
  have e1 : IsEnum g1 e z n old := kp _ _ out.1 out.2.2.1 out.2.2.2.1 out.2.2.2.2 he
  have tI : IsPair g1 TI (.ref i1) (.ref i2) := kp _ _ D.TIz D.TITO D.TIi1 D.TIi2 hTI
  have lte : e < hp.objs.size := Heap.lt_size he
  show wpAny _ _ (field (.ref e) 3 >>= _) _ _ ⟨g1, g, d, tk, os⟩
  refine wpAny_bind (wpAny_field e1 rfl (x := rawInt n) rfl ?_)
  show wpAny _ _ (field (.ref e) 4 >>= _) _ _ ⟨g1, g, d, tk, os⟩
  refine wpAny_bind (wpAny_field e1 rfl (x := .none) rfl ?_)
  show wpAny _ _ (mkInt n >>= _) _ _ ⟨g1, g, d, tk, os⟩
  refine wpAny_bind (wpAny_mkInt ?_)
  show wpAny _ _ (setField (.ref e) 3 (rawInt (n + 1)) >>= _) _ _ ⟨g1, g, d, tk + 1, os⟩
  refine wpAny_bind (wpAny_setField_rec e1 (by simp) fun g2 e2 b2 => ?_)
  replace b2 : Heap.SameBut e g1 g2 := b2
  replace e2 : IsEnum g2 e z (n + 1) old := e2
  show wpAny _ _ (setField (.ref e) 4 .none >>= _) _ _ ⟨g2, g, d, tk + 1, os⟩
  refine wpAny_bind (wpAny_setField_rec e2 (by simp) fun g3 e3 b3 => ?_)
  replace b3 : Heap.SameBut e g2 g3 := b3
  replace e3 : IsEnum g3 e z (n + 1) old := e3
  show wpAny _ _ (newTuple [.int n tk, .ref hp.objs.size] >>= _) _ _ ⟨g3, g, d, tk + 1, os⟩
  refine wpAny_bind (wpAny_newTuple ?_)
  have sz3 : g3.objs.size = hp.objs.size + 1 := by rw [b3.1, b2.1, sz]
  obtain ⟨g4, eg4⟩ : ∃ g4, g4 = g3.push { cls := .type "tuple", data := .seq #[.int n tk, .ref hp.objs.size] } := ⟨_, rfl⟩
  have e4 : IsEnum g4 e z (n + 1) old := by rw [eg4]; exact Heap.get?_push_of_some _ e3
  have t4 : IsPair g4 (hp.objs.size + 1) (.int n tk) (.ref hp.objs.size) := by rw [eg4, ← sz3]; exact Heap.get?_push_size _ rfl
  have k4 : ∀ c o, c ≠ e → g1.get? c = some o → g4.get? c = some o := fun c o c1 q => by rw [eg4]; exact Heap.get?_push_of_some _ (b3.extBut _ _ c1 (b2.extBut _ _ c1 q))
  show wpAny _ _ (Builtin.SmallTypes.ownedTupleIsFree (.ref e) >>= _) _ _ ⟨g3.push _, g, d, tk + 1, os⟩
  rw [← eg4, sz3]
  clear e3 b3 e2 b2 e1 eg4 sz3 sz
  refine wpAny_bind ?_
  unfold Builtin.SmallTypes.ownedTupleIsFree
  refine wpAny_bind (wpAny_field e4 rfl (x := .none) rfl (wpAny_pure ?_))
  simp only [if_true]
  refine wpAny_bind (wpAny_rule (wpAny_bind (wpAny_field e4 rfl (x := old) rfl (wpAny_bind (wpAny_setField_rec e4 (by simp) fun g5 e5 b5 => ?_)))))
  replace b5 : Heap.SameBut e g4 g5 := b5
  replace e5 : IsEnum g5 e z (n + 1) (.ref hp.objs.size) := e5
  show wpAny _ _ (Builtin.SmallTypes.ownedTupleHandOut (.ref e) (.ref (hp.objs.size + 1)) >>= _) _ _ ⟨g5, g, d, tk + 1, os⟩
  refine wpAny_bind ?_
  unfold Builtin.SmallTypes.ownedTupleHandOut
  refine wpAny_bind (wpAny_setField_rec e5 (by simp) fun g6 e6 b6 => ?_)
  replace b6 : Heap.SameBut e g5 g6 := b6
  replace e6 : IsEnumOut g6 e z (n + 1) (.ref hp.objs.size) (hp.objs.size + 1) := e6
  refine wpAny_setField_rec e6 (by simp) fun g7 e7 b7 => ?_
  replace b7 : Heap.SameBut e g6 g7 := b7
  replace e7 : IsEnumOut g7 e z (n + 1) (.ref hp.objs.size) (hp.objs.size + 1) := e7
  have k7 : ∀ c o, c ≠ e → g4.get? c = some o → g7.get? c = some o := fun c o c1 q => b7.extBut _ _ c1 (b6.extBut _ _ c1 (b5.extBut _ _ c1 q))
  have k17 : ∀ c o, c ≠ e → g1.get? c = some o → g7.get? c = some o := fun c o c1 q => k7 c o c1 (k4 c o c1 q)
  refine wpAny_bind (wpAny_letGo (wpAny_pure ⟨_, rfl, wpAny_pure ?_⟩))
  exact hQ g7 own' f' a' b' w1 e7 (k17 _ _ out.1.symm zz) (k17 _ _ out.2.1.symm tI) (k17 _ _ out.2.2.1.symm tO) (it1.at fun o q => k17 _ o out.2.2.2.1.symm q) (it2.at fun o q => k17 _ o out.2.2.2.2.symm q)
    (k17 _ _ (Nat.ne_of_gt lte) tp) (k7 _ _ (Nat.ne_of_gt (Nat.lt_succ_of_lt lte)) t4) fun c o c1 c2 c3 c4 c5 q => k17 c o c1 (kp c o c2 c3 c4 c5 q)
theorem ez_end {e z TI TO i1 i2 l1 l2 : Addr} {n : Int} {k1 k2 : Nat} {xs ys : Array Value} {a b own old : Value} {f : Bool} {Q : Option Value → Shared → Prop} (calm : A.handled = none) (D : ZipApart z TI TO i1 i2 l1 l2)
    (he : IsEnum s.heap e z n old) (hz : IsZ s.heap z TI TO own f) (ho : own = .none ∨ ∃ T : Addr, own = rawInt T)
    (hTI : IsPair s.heap TI (.ref i1) (.ref i2)) (hTO : IsPair s.heap TO a b) (h1 : s.heap.IsListIter i1 l1 k1) (h2 : s.heap.IsListIter i2 l2 k2) (hl1 : s.heap.IsList l1 xs) (hl2 : s.heap.IsList l2 ys) (ends : xs[k1]? = none ∨ ys[k2]? = none)
    (hQ : ∀ h', (∀ c o, c ≠ z → c ≠ TO → c ≠ i1 → c ≠ i2 → s.heap.get? c = some o → h'.get? c = some o) → Q none { s with heap := h' }) : wpAny (model prog w) A (pyNext (.ref e)) Q E s := by
  have hT : s.TypeIs (.ref e) "enumerate" := ⟨_, he, rfl⟩
  unfold pyNext
  refine wpAny_bind (wpAny_attempt (wpAny_callSpecial?_slot (name := Str.ofString "__next__") hT F.slot_enumerate_next (wpAny_call_entry F.slot_enumerate_next hT F.entry_enumerate_next ?_ (F.args_enumerate_next_1 _))))
  show wpAny _ _ (field (.ref e) 2 >>= _) _ _ _
  refine wpAny_bind (wpAny_field he rfl (x := .ref z) rfl (wpAny_bind (nx_zip_end hz (zn_end (by simp [calm]) D hz ho hTI hTO h1 h2 hl1 hl2 ends fun h' c k q => ?_))))
  obtain ⟨o, q1, q2⟩ := q
  exact wpAny_bind (wpAny_isInstance (T := "StopIteration") (b := true) ⟨o, q1, q2⟩ isSubtype_stop (wpAny_pure (hQ _ k)))
end
/-- enumerate(zip(a, b), start=k0): the lists as they stand at each turn -/
def Iez (K : PySem.W.Frag) (k0 : Int) (a b : Addr) : It :=
  ⟨fun i H => ∃ (xs ys : List V) (x y : V), SqL K H a xs ∧ SqL K H b ys ∧ xs[i]? = some x ∧ ys[i]? = some y,
    fun i H v H' => ∃ T U x y, v = .ref T ∧ H T = none ∧ H U = none ∧ T ≠ U ∧ H' = upd (upd H T (.tup [.int (k0 + (i : Nat)), .ref U])) U (.tup [x, y]) ∧ (∀ xs, SqL K H a xs → xs[i]? = some x) ∧ ∀ ys, SqL K H b ys → ys[i]? = some y,
    fun i H => ∃ xs ys : List V, SqL K H a xs ∧ SqL K H b ys ∧ (xs.length ≤ i ∨ ys.length ≤ i)⟩
theorem turn_ez {P : Program} {w : World} {K : PySem.W.Frag} {elts : List Expr} {kk : Nat} {tpos : Pos} {k0 : Int} {a b e z TI TO i1 i2 : Addr} (D : ZipApart z TI TO i1 i2 a b) (out : e ≠ z ∧ e ≠ TI ∧ e ≠ TO ∧ e ≠ i1 ∧ e ≠ i2) :
    Turn P w K (.Tuple elts kk tpos) (Iez K k0 a b) [e, z, TI, TO, i1, i2] e (fun i h => (∃ old, IsEnum h e z (k0 + (i : Nat)) old) ∧ (∃ own f, (own = .none ∨ ∃ T : Addr, own = rawInt T) ∧ IsZ h z TI TO own f) ∧ IsPair h TI (.ref i1) (.ref i2) ∧ (∃ x y, IsPair h TO x y) ∧ h.IsListIter i1 a i ∧ h.IsListIter i2 b i) where
  mem := by simp
  obj := fun i h st c hc => by
    obtain ⟨⟨old, he⟩, ⟨own, f, _, hz⟩, hTI, ⟨x, y, hTO⟩, ⟨o1, e1, _, d1⟩, ⟨o2, e2, _, d2⟩⟩ := st
    have e' : c = e ∨ c = z ∨ c = TI ∨ c = TO ∨ c = i1 ∨ c = i2 := by simpa using hc
    rcases e' with q | q | q | q | q | q <;> rw [q]
    · exact ⟨_, he, fun v q => nomatch q⟩
    · exact ⟨_, hz, fun v q => nomatch q⟩
    · exact ⟨_, hTI, fun v q => nomatch q⟩
    · exact ⟨_, hTO, fun v q => nomatch q⟩
    · exact ⟨o1, e1, fun v q => by rw [d1] at q; cases q⟩
    · exact ⟨o2, e2, fun v q => by rw [d2] at q; cases q⟩
  keep := fun i h h' st k => by
    obtain ⟨⟨old, he⟩, ⟨own, f, ho, hz⟩, hTI, ⟨x, y, hTO⟩, h1, h2⟩ := st
    exact ⟨⟨old, k e (by simp) _ he⟩, ⟨own, f, ho, k z (by simp) _ hz⟩, k TI (by simp) _ hTI, ⟨x, y, k TO (by simp) _ hTO⟩, h1.at fun o q => k i1 (by simp) o q, h2.at fun o q => k i2 (by simp) o q⟩
  item := by
    intro X hP hw hK hc i pins s σ H E I hf st hg
    subst hP hw hK
    obtain ⟨⟨old, he⟩, ⟨own, f, ho, hz⟩, hTI, ⟨x0, y0, hTO⟩, h1, h2⟩ := st
    obtain ⟨xs, ys, x, y, qx, qy, hx, hy⟩ := hg
    obtain ⟨its, rv, p, _⟩ := I.list qx
    obtain ⟨its2, rv2, p2, _⟩ := I.list qy
    obtain ⟨u, hu, ru⟩ := rv.get hx
    obtain ⟨u2, hu2, ru2⟩ := rv2.get hy
    refine ez_item D he out hz ho hTI hTO h1 h2 p.isList p2.isList (x := u) (y := u2) (by simpa using hu) (by simpa using hu2) fun g own' f' a' b' w1 en zz tI tO it1 it2 tp tt kp => ?_
    refine ⟨_, rfl, wpAny_letOwnedTupleGo_enum (s := { s with heap := g, toks := s.toks + 1 }) en fun g2 en2 sb => ?_⟩
    have lts : ∀ c ∈ [e, z, TI, TO, i1, i2], c < s.heap.objs.size := fun c hc => by
      have e' : c = e ∨ c = z ∨ c = TI ∨ c = TO ∨ c = i1 ∨ c = i2 := by simpa using hc
      rcases e' with q | q | q | q | q | q <;> rw [q]
      · exact Heap.lt_size he
      · exact Heap.lt_size hz
      · exact Heap.lt_size hTI
      · exact Heap.lt_size hTO
      · obtain ⟨_, e1, _⟩ := h1
        exact Heap.lt_size e1
      · obtain ⟨_, e2, _⟩ := h2
        exact Heap.lt_size e2
    have lte := lts e (by simp)
    have up : ∀ c o, c ≠ e → g.get? c = some o → g2.get? c = some o := fun c o c1 q => (sb.2 c c1).trans q
    have tp2 := up _ _ (Nat.ne_of_gt lte) tp
    have tt2 := up _ _ (Nat.ne_of_gt (Nat.lt_succ_of_lt lte)) tt
    obtain ⟨U, eU⟩ : ∃ U, s.heap.objs.size = U := ⟨_, rfl⟩
    rw [eU] at tp2 tt2 lts lte en2
    have hU : H U = none := I.hok.fresh (Nat.le_of_eq eU)
    have hT : H (U + 1) = none := I.hok.fresh (by rw [eU]; exact Nat.le_succ _)
    have nTU : U + 1 ≠ U := Nat.succ_ne_self U
    obtain ⟨G, r1, r2⟩ := restrict g2 fun c => decide (c ≠ U)
    have gU : G.get? U = none := r2 _ (by simp)
    have gk : ∀ c o, c ≠ U → g2.get? c = some o → G.get? c = some o := fun c o n q => (r1 c (decide_eq_true n)).trans q
    have gb : ∀ c o, G.get? c = some o → g2.get? c = some o := fun c o q => by
      by_cases n : c = U
      · rw [n, gU] at q
        cases q
      · exact (r1 c (decide_eq_true n)).symm.trans q
    have n1 : ObjOk X.prog X.w (upd H (U + 1) (.tup [.int (k0 + (i : Nat)), .ref U])) G (U + 1) (.tup [.int (k0 + (i : Nat)), .ref U]) :=
      ⟨by show 2 ≤ sizeLine; decide, [.int (k0 + (i : Nat)) s.toks, .ref U], .cons ⟨_, rfl⟩ (.cons rfl .nil), ⟨_, gk _ _ nTU tt2, rfl, _, rfl⟩⟩
    have I1 : Inv X pins σ (upd H (U + 1) (.tup [.int (k0 + (i : Nat)), .ref U])) { s with heap := G, toks := s.toks + 1 } :=
      I.turnedNew (ch := [e, z, TI, TO, i1, i2]) (fun c o hb q => gk c o (by rw [← eU]; exact Nat.ne_of_lt (Heap.lt_size q)) (up c o (fun q' => hb (by simp [q'])) (kp c o (fun q' => hb (by simp [q'])) (fun q' => hb (by simp [q'])) (fun q' => hb (by simp [q'])) (fun q' => hb (by simp [q'])) (fun q' => hb (by simp [q'])) q))) hf (by rw [eU]; exact Nat.le_succ _) n1
    have hU2 : (upd H (U + 1) (.tup [.int (k0 + (i : Nat)), .ref U])) U = none := by rw [upd_ne nTU.symm]; exact hU
    have n2 : ObjOk X.prog X.w (upd (upd H (U + 1) (.tup [.int (k0 + (i : Nat)), .ref U])) U (.tup [x, y])) g2 U (.tup [x, y]) :=
      ⟨by show 2 ≤ sizeLine; decide, [u, u2], .cons ru (.cons ru2 .nil), ⟨_, tp2, rfl, _, rfl⟩⟩
    have I2 : Inv X pins σ (upd (upd H (U + 1) (.tup [.int (k0 + (i : Nat)), .ref U])) U (.tup [x, y])) { s with heap := g2, toks := s.toks + 1 } :=
      Inv.laidN (s := { s with heap := G, toks := s.toks + 1 }) (t' := s.toks + 1) I1 gb gU hU2 n2
    refine ⟨.ref (U + 1), _, I2, (by rw [eU]; rfl), ⟨U + 1, U, x, y, rfl, hT, hU, nTU, rfl, fun l hl => by rw [I.list_inj hl qx]; exact hx, fun l hl => by rw [I.list_inj hl qy]; exact hy⟩, ⟨⟨.ref U, ?_⟩, ⟨own', f', .inr w1, up _ _ out.1.symm zz⟩, up _ _ out.2.1.symm tI, ⟨a', b', up _ _ out.2.2.1.symm tO⟩, it1.at fun o q => up _ o out.2.2.2.1.symm q, it2.at fun o q => up _ o out.2.2.2.2.symm q⟩, fun c hcm => ?_⟩
    · have e1 : k0 + ((i + 1 : Nat) : Int) = k0 + (i : Nat) + 1 := by omega
      rw [e1]
      exact en2
    · have lt := lts c hcm
      rw [upd_ne (Nat.ne_of_lt lt), upd_ne (Nat.ne_of_lt (Nat.lt_succ_of_lt lt))]
      exact (hf c hcm).1
  done := by
    intro X hP hw hK hc i pins s σ H E I hf st hg
    subst hP hw hK
    obtain ⟨⟨old, he⟩, ⟨own, f, ho, hz⟩, hTI, ⟨x0, y0, hTO⟩, h1, h2⟩ := st
    obtain ⟨xs, ys, qx, qy, ends⟩ := hg
    obtain ⟨its, rv, p, _⟩ := I.list qx
    obtain ⟨its2, rv2, p2, _⟩ := I.list qy
    have l1 := rv.length
    have l2 := rv2.length
    have he' : its.toArray[i]? = none ∨ its2.toArray[i]? = none := ends.imp (fun q => by simp; omega) (fun q => by simp; omega)
    exact ez_end (I.ok.hd hc) D he hz ho hTI hTO h1 h2 p.isList p2.isList he' fun h' hk => ⟨rfl, I.turnedL (t' := s.toks) (ch := [e, z, TI, TO, i1, i2]) (fun c o hb q =>
      hk c o (fun q' => hb (by simp [q'])) (fun q' => hb (by simp [q'])) (fun q' => hb (by simp [q'])) (fun q' => hb (by simp [q'])) q) hf⟩
  self := fun A i s Q E st h => let ⟨⟨_, he⟩, _⟩ := st; wpAny_pyIter_enum he h
section
variable {M : Model} {A : Around} {E : Value → Shared → Prop} {s : Shared} {env : Env}
theorem cw_kw0 {pos : Pos} {T : String} {args : List (Bool × Sem Value)} {keywords : List (Option Str × Sem Value)} {Q : Value → Shared → Prop} (hplain : args.any (·.1) = false) (hkw : keywords.any (·.1.isNone) = false)
    (h : wpAny M A (evalArgs (.type T) true args keywords) (fun a s₁ => wpAny M A (call (.type T) a.pos a.kw) Q E s₁) E s) : wpAny M A (callWith pos (.type T) [] args keywords) Q E s := by
  unfold callWith ; refine wpAny_bind (wpAny_holding (wpAny_mono h (fun a s₁ h₁ => wpAny_bind (wpAny_standAt ?_)) fun _ _ x => x))
  simp only [hplain, hkw, Bool.or_false] ; refine wpAny_bind (wpAny_pure ?_)
  exact wpAny_bind (wpAny_mono h₁ (fun r s₂ hr => wpAny_bind (wpAny_holding (wpAny_point (wpAny_pure hr)))) fun _ _ q => q)
theorem cw_kw {pos : Pos} {T : String} {e : Expr} {rest : List Expr} {kws : List Keyword} {Q : Value → Shared → Prop}
    (h : wpAny M A (spliced (backTo pos (starEach (e :: rest) env))) (fun vs s₁ => wpAny M A (evalAll ((backToKw pos (keywordEach kws env)).map (·.2))) (fun ks s₂ => wpAny M A (call (.type T) vs (((backToKw pos (keywordEach kws env)).filterMap (·.1)).zip ks)) Q E s₂) E s₁) E s)
    (he : backTo pos (starEach (e :: rest) env) = (false, eval e env) :: backTo pos (starEach rest env) := by rfl) (hplain : (backTo pos (starEach (e :: rest) env)).any (·.1) = false := by rfl)
    (hall : (backToKw pos (keywordEach kws env)).all (·.1.isSome) = true := by rfl) (hkw : (backToKw pos (keywordEach kws env)).any (·.1.isNone) = false := by rfl) :
    wpAny M A (callWith pos (.type T) [] (backTo pos (starEach (e :: rest) env)) (backToKw pos (keywordEach kws env))) Q E s := by
  refine cw_kw0 hplain hkw ?_
  rw [he] at h ⊢
  exact evalArgs_kwB hall h
end
theorem meets_ez {z TI TO : Addr} (k : Int) (t : Tok) (hfit : Builtin.SmallTypes.fitsIndex k = true) :
    Meets (Builtin.«enumerate.__new__» ⟨[.type "enumerate", .ref z], [(Str.ofString "start", .int k t)]⟩) (fun _ R s => IsZip s.heap z TI TO .none ∧
      R (.ok (.ret (.ref s.heap.objs.size))) { s with heap := s.heap.push { cls := .type "enumerate", data := .fields #[.none, .bool false, .ref z, rawInt k, .none, .none] } }) :=
  .of_wp fun prog w A R s h => by
    obtain ⟨hp, g, d, tk, os⟩ := s
    obtain ⟨h1, h⟩ := h
    have c1 := sub_enumerate ; have c2 : (!Builtin.SmallTypes.fitsIndex k) = false := by rw [hfit]; rfl
    have q1 : ∀ {A' : Around} {E' : Value → Shared → Prop} {Q' : Value → Shared → Prop}, Q' (.ref z) ⟨hp, g, d, tk, os⟩ → wpAny (model prog w) A' (pyIter (.ref z)) Q' E' ⟨hp, g, d, tk, os⟩ := fun q => wpAny_pyIter_zip h1 q
    have d1 : (Str.ofString "start" == ("start" : Str)) = true := by decide +kernel
    have d2 : (Str.ofString "start" != ("start" : Str)) = false := by decide +kernel
    have d3 : (Str.ofString "start" != ("iterable" : Str)) = true := by decide +kernel
    have d4 : (("start" : Str) == Str.ofString "start") = true := by decide +kernel
    have d5 : (("iterable" : Str) == Str.ofString "start") = false := by decide +kernel
    wp_walk using q1
    refine wpAny_stack_any fun st => wpAny_pure ?_
    split
    · rename_i c _ _ _ _ _
      cases (c == Value.type "enumerate") <;> (wp_walk using q1 ; exact ⟨_, rfl, h⟩)
    · wp_walk using q1 ; exact ⟨_, rfl, h⟩
section
variable {prog : Program} {w : World} {A : Around} {E : Value → Shared → Prop} {s : Shared}
theorem call_ez {z TI TO : Addr} {k : Int} {t : Tok} {Q : Value → Shared → Prop} (hz : IsZip s.heap z TI TO .none) (k1 : -(2 ^ 63) ≤ k) (k2 : k < 2 ^ 63)
    (h : ∀ h', IsEnum h' s.heap.objs.size z k .none → (∀ b o, s.heap.get? b = some o → h'.get? b = some o) → Q (.ref s.heap.objs.size) { s with heap := h' }) :
    wpAny (model prog w) A (call (.type "enumerate") [.ref z] [(Str.ofString "start", .int k t)]) Q E s := by
  refine callType_newKw F.called_enumerate (by decide) (F.typeCall_enumerate_start _ _) (F.newCall_enumerate_start _ _) (fun obj => F.args_object_init_start obj _ _) F.entry_enumerate_new (meets_ez k t (fits_start k1 k2)) ⟨hz, ?_⟩
  have en : IsEnum (s.heap.push { cls := .type "enumerate", data := .fields #[.none, .bool false, .ref z, rawInt k, .none, .none] }) s.heap.objs.size z k .none := Heap.get?_push_size s.heap rfl
  exact ⟨⟨_, en, rfl⟩, h _ en fun b o q => Heap.get?_push_of_some _ q⟩
end
def iEz (K : PySem.W.Frag) (k0 : Int) (ta : TA) : TI := fun σ H R => ta σ H fun vs H1 => ∃ a b xs ys, vs = [.ref a, .ref b] ∧ SqL K H1 a xs ∧ SqL K H1 b ys ∧ R (Iez K k0 a b) H1
/-- for i, (x, y) in enumerate(zip(a, b), start=k) -/
theorem pi_ez {X : Cx} {e e2 : Expr} {ta : TA} {p p2 pos pos2 kpos tpos cpos : Pos} {elts : List Expr} {kk j : Nat} {k0 : Int} (hg : Gl X "enumerate") (hm : X.mg "enumerate" = none) (hg2 : Gl X "zip") (hm2 : X.mg "zip" = none) (ha : PA X [e, e2] ta) (k1 : -(2 ^ 63) ≤ k0) (k2 : k0 < 2 ^ 63)
    (hs : starEach [e, e2] X.env = (false, eval e X.env) :: starEach [e2] X.env := by rfl) (hpl : (backTo pos2 (starEach [e2] X.env)).any (·.1) = false := by rfl) :
    PI X (.Tuple elts kk tpos) (.Call (.Name "enumerate" p) [.Call (.Name "zip" p2) [e, e2] [] pos2] [⟨some "start", .Constant (.int k0) j cpos, kpos⟩] pos) (iEz X.K k0 ta) := by
  refine ⟨fun pins s σ H R I h => ?_⟩
  refine wpAny_Call_Name_kw (ld_blt I hg hm boot_enumerate (cw_kw (args_cons ?_)))
  refine Call_ (ld_blt I hg2 hm2 PyProof.Rows.boot_zip (PyProof.Rows.callWith_type1 (thn (ha.run pos2 pins s σ H _ I h) fun us s1 ⟨vs, H1, I1, r1, q1⟩ => ?_) hs hpl))
  obtain ⟨a, b, xs, ys, ex, qx, qy, q⟩ := q1
  subst ex
  obtain ⟨u1, u2, eus, rA, rB⟩ := Vals.two r1
  subst eus
  cases rA
  cases rB
  obtain ⟨its, rv, p1, _⟩ := I1.list qx
  obtain ⟨its2, rv2, p2', _⟩ := I1.list qy
  have la : a < s1.heap.objs.size := p1.lt
  have lb : b < s1.heap.objs.size := p2'.lt
  refine call_zip_2 p1.isList p2'.isList fun h' hz hTI hTO h1 h2 hsz hk => args_nil (PyProof.Rows.kwAll_cons (wpAny_Constant_int (PyProof.Rows.kwAll_nil ?_)))
  refine call_ez hz k1 k2 fun g en k3 => wpAny_pyIter_enum en ?_
  have D := PySem.W.ktu_apart s1.heap.objs.size a b la lb
  have I2 : Inv X pins σ H1 { s1 with heap := g, toks := s1.toks + 1 } := I1.kept (t' := s1.toks + 1) fun c o q => k3 _ _ (hk c o q)
  have ee : h'.objs.size = s1.heap.objs.size + 5 := hsz
  have ne : ∀ m, m < 5 → h'.objs.size ≠ s1.heap.objs.size + m := fun m hm z => by
    rw [ee] at z
    exact absurd (Nat.add_left_cancel z) (Nat.ne_of_gt hm)
  have up : ∀ c o, h'.get? c = some o → g.get? c = some o := fun c o q => k3 _ _ q
  refine ⟨h'.objs.size, [h'.objs.size, s1.heap.objs.size + 4, s1.heap.objs.size + 2, s1.heap.objs.size + 3, s1.heap.objs.size, s1.heap.objs.size + 1], _, _, H1, rfl, I2, turn_ez (k0 := k0) D ⟨ne 4 (by decide), ne 2 (by decide), ne 3 (by decide), ne 0 (by decide), ne 1 (by decide)⟩,
    ⟨⟨.none, ?_⟩, ⟨.none, false, .inl rfl, up _ _ hz⟩, up _ _ hTI, ⟨_, _, up _ _ hTO⟩, h1.at fun o q => up _ o q, h2.at fun o q => up _ o q⟩, fun c hcm => ?_, q⟩
  · have e0 : k0 + ((0 : Nat) : Int) = k0 := Int.add_zero k0
    rw [e0]
    exact en
  · have hle : s1.heap.objs.size ≤ c := by
      have e' : c = h'.objs.size ∨ c = s1.heap.objs.size + 4 ∨ c = s1.heap.objs.size + 2 ∨ c = s1.heap.objs.size + 3 ∨ c = s1.heap.objs.size ∨ c = s1.heap.objs.size + 1 := by simpa using hcm
      rcases e' with z | z | z | z | z | z <;> rw [z]
      · rw [ee]
        exact Nat.le_add_right _ _
      · exact Nat.le_add_right _ _
      · exact Nat.le_add_right _ _
      · exact Nat.le_add_right _ _
      · exact Nat.le_refl _
      · exact Nat.le_add_right _ _
    exact I1.fpOk hle (I1.hok.fresh hle)
theorem walk_ez {K : PySem.W.Frag} {k0 : Int} {a b : Addr} {xs ys : List V} : Walk (Iez K k0 a b) (min xs.length ys.length) (fun H => SqL K H a xs ∧ SqL K H b ys)
    (fun i H v H' => ∃ T U x y, v = .ref T ∧ H T = none ∧ H U = none ∧ T ≠ U ∧ H' = upd (upd H T (.tup [.int (k0 + (i : Nat)), .ref U])) U (.tup [x, y]) ∧ xs[i]? = some x ∧ ys[i]? = some y) := by
  refine ⟨fun i _ hi q => ⟨xs, ys, xs[i]'(by omega), ys[i]'(by omega), q.1, q.2, by simp, by simp⟩, fun _ q => ⟨xs, ys, q.1, q.2, by omega⟩, fun i H v H' _ q y => ?_⟩
  obtain ⟨T, U, x, z, h1, h2, h3, h4, h5, h6, h7⟩ := y
  exact ⟨T, U, x, z, h1, h2, h3, h4, h5, h6 xs q.1, h7 ys q.2⟩
end DL

set_option Elab.async false
set_option maxRecDepth 100000
namespace DL
open PySem L2
def top (i : Nat) : Stmt := PySem.Challenge.pw_drawerlocks_k25_texts_refused.main.body.getD i (.Pass ⟨0, 0, 0, 0⟩)
abbrev s_InvalidText__init_ : Stmt := inClass (top 4) 0
abbrev sIsInt : Stmt := top 8
abbrev sIsCount : Stmt := top 9
abbrev sIsDrawer : Stmt := top 10
abbrev sIsBar : Stmt := top 11
abbrev sInit : Stmt := inClass (top 13) 0
abbrev sCheckDrawers : Stmt := top 14
abbrev sCheckBars : Stmt := top 15
abbrev s_read : Stmt := top 17
abbrev s_words_of : Stmt := top 18
abbrev s_read_drawers : Stmt := top 19
abbrev s_read_bar : Stmt := top 20
abbrev s_check_words : Stmt := top 21
abbrev sTaken : Stmt := top 23
abbrev sParts : Stmt := top 24
abbrev s__law_text : Stmt := top 25
abbrev s__law_bar : Stmt := top 26
abbrev s__law_wrong : Stmt := top 27
abbrev s__law_refused : Stmt := top 28
abbrev s_law : Stmt := top 29
end DL

set_option Elab.async false
set_option maxRecDepth 100000
namespace DL
open PySem L2
/-! ### the facts of the top -/
structure Bt (mg : Str → Option Value) : Prop where
  isinstance : mg "isinstance" = none
  int : mg "int" = none
  bool : mg "bool" = none
  tuple : mg "tuple" = none
  len : mg "len" = none
  enumerate : mg "enumerate" = none
  range : mg "range" = none
  sorted : mg "sorted" = none
/-! ### is_integer -/
structure spIsInt (K : PySem.W.Frag) (vs : List V) (H : Hp) (Q : VK) (_ : XK) : Prop where
  h : ∃ (v : V) (t : Value) (b1 b2 : Bool), vs = [v] ∧ TyX K H v t ∧ PySem.W.kitOne K t (.type "int") = some b1 ∧ PySem.W.kitOne K t (.type "bool") = some b2 ∧ Q (.bl (b1 && !b2)) H
section
variable {P : Program} {w : World} {K : PySem.W.Frag} {mg : Str → Option Value} {base : Heap}
theorem scIsInt : FnScope ["value"] ["value"] (defScope sIsInt) := ⟨rfl, rfl, rfl, by decide +kernel, rfl, by decide +kernel, by decide +kernel⟩
theorem ok_isInt {f : Addr} {fd : FuncData} (F : Fun K "is_integer" "is_integer" sIsInt f fd) (T : Bt mg) : FnOk P w K mg base CX0 1 f fd ["value"] (spIsInt K) := by
  refine F.ok scIsInt (fun vs H Q E h => ?_) (fun cdv A outer s H vs Q E hr h => ?_)
  · obtain ⟨v, t, b1, b2, rfl, _⟩ := h.h
    rfl
  · obtain ⟨v, t, b1, b2, rfl, ty, k1, k2, k⟩ := h.h
    refine ⟨_, pss_one (ps_ret (pe_and (pe_callB call_isi (by rfl) T.isinstance (by decide +kernel) (pa_cons (pv 0) (pa_cons (pe_bltn (v := .ty "int") (by rfl) T.int (by decide +kernel) rfl) pa_nil)))
      (pe_one (pe_not (pe_callB call_isi (by rfl) T.isinstance (by decide +kernel) (pa_cons (pv 0) (pa_cons (pe_bltn (v := .ty "bool") (by rfl) T.bool (by decide +kernel) rfl) pa_nil))))))), ?_⟩
    refine ⟨_, rfl, _, _, t, _, b1, rfl, .ty "int", ty, k1, b1, rfl, ?_⟩
    cases b1 with
    | false => exact iteF k
    | true => exact iteT ⟨_, rfl, _, _, t, _, b2, rfl, .ty "bool", ty, k2, b2, rfl, k⟩
/-! ### is_drawer_count(value), is_drawer(drawers, value) -/
/-- an int as value: whether it is one; any other known thing: False -/
structure spIsCount (K : PySem.W.Frag) (vs : List V) (H : Hp) (Q : VK) (_ : XK) : Prop where
  h : (∃ n : Int, vs = [.int n] ∧ Q (.bl (decide (1 ≤ n) && decide (n ≤ 7))) H) ∨
  ∃ (v : V) (t : Value) (b1 b2 : Bool), vs = [v] ∧ TyX K H v t ∧ PySem.W.kitOne K t (.type "int") = some b1 ∧ PySem.W.kitOne K t (.type "bool") = some b2 ∧ (b1 && !b2) = false ∧ Q (.bl false) H
theorem scIsCount : FnScope ["value"] ["value"] (defScope sIsCount) := ⟨rfl, rfl, rfl, by decide +kernel, rfl, by decide +kernel, by decide +kernel⟩
theorem ok_isCount {f f1 : Addr} {fd fd1 : FuncData} (F : Fun K "is_drawer_count" "is_drawer_count" sIsCount f fd) (_T : Bt mg) (G : FnOk P w K mg base CX0 1 f1 fd1 ["value"] (spIsInt K)) (g1 : mg "is_integer" = some (.ref f1)) (k1 : PySem.W.keepIn K (.ref f1) = true) (b1 : Binds K fd1 ["value"] [])
    (gM : ∃ t, mg "MOST_DRAWERS" = some (.int 7 t)) : FnOk P w K mg base CX0 2 f fd ["value"] (spIsCount K) := by
  refine F.ok scIsCount (fun vs H Q E h => ?_) (fun cdv A outer s H vs Q E hr h => ?_)
  · rcases h.h with ⟨n, rfl, _⟩ | ⟨v, t, b1, b2, rfl, _⟩ <;> rfl
  · obtain ⟨tM, gM⟩ := gM
    refine ⟨_, pss_one (ps_ret (pe_and (pe_call G (hr.mono (by decide)) rfl g1 k1 b1 .nil pass0 (pa_cons (pv 0) pa_nil)) (pe_one (pe_chain op_le op_le pe_int (pv 0) (pe_glob (v := .int 7) rfl gM ⟨_, rfl⟩))))), ?_⟩
    rcases h.h with ⟨n, rfl, k⟩ | ⟨v, t, c1, c2, rfl, ty, e1, e2, e3, k⟩
    · refine ⟨_, rfl, ⟨.int n, .type "int", true, false, rfl, .base (.int n), kit_ty (by decide +kernel), kit_ty (by decide +kernel), true, rfl, iteT ?_⟩⟩
      refine ⟨_, rfl, _, _, rfl, rfl, _, rfl, ?_⟩
      by_cases h1 : 1 ≤ n
      · rw [decide_eq_true h1] at k ⊢
        exact iteT ⟨_, _, rfl, rfl, k⟩
      · rw [decide_eq_false h1] at k ⊢
        exact iteF k
    · refine ⟨_, rfl, ⟨v, t, c1, c2, rfl, ty, e1, e2, _, rfl, ?_⟩⟩
      rw [e3]
      exact iteF k
structure spIsDrawer (K : PySem.W.Frag) (vs : List V) (H : Hp) (Q : VK) (_ : XK) : Prop where
  h : ∃ n : Int, (∃ i : Int, vs = [.int n, .int i] ∧ Q (.bl (decide (0 ≤ i) && decide (i < n))) H) ∨
  ∃ (v : V) (t : Value) (b1 b2 : Bool), vs = [.int n, v] ∧ TyX K H v t ∧ PySem.W.kitOne K t (.type "int") = some b1 ∧ PySem.W.kitOne K t (.type "bool") = some b2 ∧ (b1 && !b2) = false ∧ Q (.bl false) H
theorem scIsDrawer : FnScope ["drawers", "value"] ["drawers", "value"] (defScope sIsDrawer) := ⟨rfl, rfl, rfl, by decide +kernel, rfl, by decide +kernel, by decide +kernel⟩
theorem ok_isDrawer {f f1 : Addr} {fd fd1 : FuncData} (F : Fun K "is_drawer" "is_drawer" sIsDrawer f fd) (_T : Bt mg) (G : FnOk P w K mg base CX0 1 f1 fd1 ["value"] (spIsInt K)) (g1 : mg "is_integer" = some (.ref f1)) (k1 : PySem.W.keepIn K (.ref f1) = true) (b1 : Binds K fd1 ["value"] []) :
    FnOk P w K mg base CX0 2 f fd ["drawers", "value"] (spIsDrawer K) := by
  refine F.ok scIsDrawer (fun vs H Q E h => ?_) (fun cdv A outer s H vs Q E hr h => ?_)
  · rcases h.h with ⟨n, ⟨i, rfl, _⟩ | ⟨v, t, b1, b2, rfl, _⟩⟩ <;> rfl
  · refine ⟨_, pss_one (ps_ret (pe_and (pe_call G (hr.mono (by decide)) rfl g1 k1 b1 .nil pass0 (pa_cons (pv 1) pa_nil)) (pe_one (pe_chain op_le op_lt pe_int (pv 1) (pv 0))))), ?_⟩
    rcases h.h with ⟨n, ⟨i, rfl, k⟩ | ⟨v, t, c1, c2, rfl, ty, e1, e2, e3, k⟩⟩
    · refine ⟨_, rfl, ⟨.int i, .type "int", true, false, rfl, .base (.int i), kit_ty (by decide +kernel), kit_ty (by decide +kernel), true, rfl, iteT ?_⟩⟩
      refine ⟨_, rfl, _, _, rfl, rfl, _, rfl, ?_⟩
      by_cases h1 : 0 ≤ i
      · rw [decide_eq_true h1] at k ⊢
        exact iteT ⟨_, rfl, _, _, rfl, rfl, k⟩
      · rw [decide_eq_false h1] at k ⊢
        exact iteF k
    · refine ⟨_, rfl, ⟨v, t, c1, c2, rfl, ty, e1, e2, _, rfl, ?_⟩⟩
      rw [e3]
      exact iteF k
end
end DL

set_option Elab.async false
set_option maxRecDepth 100000
namespace DL
open PySem L2
/-! ### is_bar -/
def scV : V → Bool
  | .non => true | .bl _ => true | .int _ => true | .str _ => true | _ => false
def isD (n : Int) : V → Bool
  | .int i => decide (0 ≤ i) && decide (i < n)
  | _ => false
def inW : V → Bool
  | .str z => decide (z = "open") || decide (z = "shut")
  | _ => false
def barB (n : Int) (x0 x1 x2 x3 : V) : Bool := isD n x0 && (isD n x2 && (!decide (x0 = x2) && (inW x1 && inW x3)))
theorem inW_in (x : V) (h : scV x = true) : inV x [.str "open", .str "shut"] = inW x ∧ flatV x = true := by
  have z1 : ∀ z : Str, ((("open" : Str) == z) || ((("shut" : Str) == z) || false)) = (decide (z = "open") || decide (z = "shut")) := fun z => by
    rw [beq_dec, beq_dec, Bool.or_false]
    congr 1
    · exact decide_eq_decide.mpr ⟨Eq.symm, Eq.symm⟩
    · exact decide_eq_decide.mpr ⟨Eq.symm, Eq.symm⟩
  cases x with
  | str z => exact ⟨z1 z, rfl⟩
  | non => exact ⟨rfl, rfl⟩
  | bl b => exact ⟨rfl, rfl⟩
  | int i => exact ⟨rfl, rfl⟩
  | _ => cases h
theorem spIsDrawer_sc {K : PySem.W.Frag} {n : Int} {x : V} {H : Hp} {Q : VK} {E : XK} (hx : scV x = true) (k : Q (.bl (isD n x)) H) : spIsDrawer K [.int n, x] H Q E := by
  cases x with
  | int i => exact ⟨⟨n, .inl ⟨i, rfl, k⟩⟩⟩
  | non => exact ⟨⟨n, .inr ⟨.non, .type "NoneType", false, false, rfl, .base .non, kit_ty (by decide +kernel), kit_ty (by decide +kernel), rfl, k⟩⟩⟩
  | bl b => exact ⟨⟨n, .inr ⟨.bl b, .type "bool", true, true, rfl, .base (.bl b), kit_ty (by decide +kernel), kit_ty (by decide +kernel), rfl, k⟩⟩⟩
  | str z => exact ⟨⟨n, .inr ⟨.str z, .type "str", false, false, rfl, .base (.str z), kit_ty (by decide +kernel), kit_ty (by decide +kernel), rfl, k⟩⟩⟩
  | _ => cases hx
theorem tyT {K : PySem.W.Frag} {H : Hp} {a : Addr} {xs : List V} (h : SqT K H a xs) : TyX K H (.ref a) (.type "tuple") := by
  rcases h with (h | ⟨o, h⟩) | ⟨o, its, n, h1, h2, _⟩
  · exact .base (.tup h)
  · exact .fTuple h
  · exact .kTuple h1 h2
structure spIsBar (K : PySem.W.Frag) (vs : List V) (H : Hp) (Q : VK) (_ : XK) : Prop where
  h : ∃ n : Int, (∃ (v : V) (t : Value), vs = [.int n, v] ∧ TyX K H v t ∧ PySem.W.kitOne K t (.type "tuple") = some false ∧ Q (.bl false) H) ∨
  (∃ (a : Addr) (xs : List V), vs = [.int n, .ref a] ∧ SqT K H a xs ∧ xs.length ≠ 4 ∧ Q (.bl false) H) ∨
  ∃ (a : Addr) (x0 x1 x2 x3 : V), vs = [.int n, .ref a] ∧ SqT K H a [x0, x1, x2, x3] ∧ scV x0 = true ∧ scV x1 = true ∧ scV x2 = true ∧ scV x3 = true ∧ Q (.bl (barB n x0 x1 x2 x3)) H
section
variable {P : Program} {w : World} {K : PySem.W.Frag} {mg : Str → Option Value} {base : Heap}
theorem scIsBar : FnScope ["drawers", "value", "drawer", "way", "other", "stand"] ["drawers", "value"] (defScope sIsBar) := ⟨rfl, rfl, rfl, by decide +kernel, rfl, by decide +kernel, by decide +kernel⟩
theorem ok_isBar {f f1 : Addr} {fd fd1 : FuncData} (F : Fun K "is_bar" "is_bar" sIsBar f fd) (T : Bt mg) (G : FnOk P w K mg base CX0 2 f1 fd1 ["drawers", "value"] (spIsDrawer K)) (g1 : mg "is_drawer" = some (.ref f1)) (k1 : PySem.W.keepIn K (.ref f1) = true) (b1 : Binds K fd1 ["drawers", "value"] [])
    (gW : ∃ aW, mg "WORDS" = some (.ref aW) ∧ ∀ H, SqT K H aW [.str "open", .str "shut"]) : FnOk P w K mg base CX0 3 f fd ["drawers", "value"] (spIsBar K) := by
  refine F.ok scIsBar (fun vs H Q E h => ?_) (fun cdv A outer s H vs Q E hr h => ?_)
  · rcases h.h with ⟨n, ⟨v, t, rfl, _⟩ | ⟨a, xs, rfl, _⟩ | ⟨a, x0, x1, x2, x3, rfl, _⟩⟩ <;> rfl
  · obtain ⟨aW, gW, hW⟩ := gW
    refine ⟨_, pss_cons (ps_if (PW.pt (pw_or (pt_not (pt_val (pe_callB call_isi (by rfl) T.isinstance (by decide +kernel) (pa_cons (pv 1) (pa_cons (pe_bltn (v := .ty "tuple") (by rfl) T.tuple (by decide +kernel) rfl) pa_nil)))))
        (pw_or1 (pt_cmpR op_ne (pe_callB call_len_seq (by rfl) T.len PySem.boot_len (pa_cons (pv 1) pa_nil)) pe_int (nomark _))))) (pss_one (ps_ret pe_bl)) pss_nil)
      (pss_cons (ps_asg (pv 1) (pg_tup (by rfl) (pgs_cons (pg_name (i := 2) scIsBar.nd rfl (.inl rfl)) (pgs_cons (pg_name (i := 3) scIsBar.nd rfl (.inl rfl)) (pgs_cons (pg_name (i := 4) scIsBar.nd rfl (.inl rfl)) (pgs_cons (pg_name (i := 5) scIsBar.nd rfl (.inl rfl)) pgs_nil))))))
      (pss_cons (ps_if (PW.pt (pw_or (pt_not (pt_val (pe_call G (hr.mono (by decide)) rfl g1 k1 b1 .nil pass0 (pa_cons (pv 0) (pa_cons (pv 2) pa_nil))))) (pw_or1 (pt_not (pt_val (pe_call G (hr.mono (by decide)) rfl g1 k1 b1 .nil pass0 (pa_cons (pv 0) (pa_cons (pv 4) pa_nil)))))))) (pss_one (ps_ret pe_bl)) pss_nil)
      (pss_one (ps_ret (pe_and (pe_cmpR op_ne (pv 2) (pv 4) (nomark _)) (pe_and (pe_cmpR op_in_seq (pv 3) (pe_glob (v := .ref aW) rfl gW rfl) (by rfl)) (pe_one (pe_cmpR op_in_seq (pv 5) (pe_glob (v := .ref aW) rfl gW rfl) (by rfl))))))))), ?_⟩
    rcases h.h with ⟨n, ⟨v, t, rfl, ty, e, k⟩ | ⟨a, xs, rfl, hq, hl, k⟩ | ⟨a, x0, x1, x2, x3, rfl, hq, c0, c1, c2, c3, k⟩⟩
    · exact ⟨_, rfl, _, _, t, _, false, rfl, .ty "tuple", ty, e, _, rfl, iteT (iteT k)⟩
    · refine ⟨_, rfl, _, _, _, _, true, rfl, .ty "tuple", tyT hq, kit_ty (by decide +kernel), _, rfl, iteF ?_⟩
      refine ⟨_, rfl, a, xs, rfl, .inr hq, rfl, _, rfl, ?_⟩
      refine ite2 (fun _ => k) (fun z => ?_)
      exact absurd (show (.int (xs.length : Int) : V) = .int 4 by simpa using z) (fun q => hl (by injection q with q; omega))
    · refine ⟨_, rfl, _, _, _, _, true, rfl, .ty "tuple", tyT hq, kit_ty (by decide +kernel), _, rfl, iteF ?_⟩
      refine ⟨_, rfl, a, _, rfl, .inr hq, rfl, _, rfl, iteF ?_⟩
      refine ⟨_, rfl, a, _, rfl, hq, rfl, x0, _, rfl, x1, _, rfl, x2, _, rfl, x3, _, rfl, rfl, ?_⟩
      refine ⟨_, rfl, _, rfl, ?_⟩
      refine spIsDrawer_sc c0 ⟨_, rfl, ?_⟩
      unfold barB at k
      cases d0 : isD n x0 with
      | false => rw [d0] at k; exact iteT (iteT k)
      | true =>
        rw [d0] at k
        refine iteF ⟨_, rfl, _, rfl, ?_⟩
        refine spIsDrawer_sc c2 ⟨_, rfl, ?_⟩
        cases d2 : isD n x2 with
        | false => rw [d2] at k; exact iteT k
        | true =>
          rw [d2] at k
          refine iteF ?_
          obtain ⟨i0, rfl⟩ : ∃ i, x0 = .int i := by cases x0 <;> first | exact ⟨_, rfl⟩ | cases d0
          obtain ⟨i2, rfl⟩ : ∃ i, x2 = .int i := by cases x2 <;> first | exact ⟨_, rfl⟩ | cases d2
          refine ⟨_, rfl, _, rfl, rfl, _, rfl, ?_⟩
          have k' : Q (.bl (!decide ((.int i0 : V) = .int i2) && (inW x1 && inW x3))) H := k
          cases e : decide ((.int i0 : V) = .int i2) with
          | true => rw [e] at k'; exact iteF k'
          | false =>
            rw [e] at k'
            refine iteT ⟨_, rfl, aW, _, rfl, .inr (hW H), (inW_in x1 c1).2, rfl, _, rfl, ?_⟩
            show if inV x1 _ = true then _ else _
            rw [(inW_in x1 c1).1]
            have k'' : Q (.bl (inW x1 && inW x3)) H := k'
            cases e1 : inW x1 with
            | false => rw [e1] at k''; exact iteF k''
            | true =>
              rw [e1] at k''
              refine iteT ⟨_, rfl, aW, _, rfl, .inr (hW H), (inW_in x3 c3).2, rfl, ?_⟩
              show Q (.bl (inV x3 _)) H
              rw [(inW_in x3 c3).1]
              exact k''
end
end DL

set_option Elab.async false
set_option maxRecDepth 100000
namespace DL
open PySem L2
/-! ### bars of the heap -/
structure BarsAt (H : Hp) (t : Addr) (ks : List (Addr × Bar)) : Prop where
  tu : H t = some (.tup (ks.map fun k => V.ref k.1))
  el : ∀ k ∈ ks, H k.1 = some (.tup k.2.vs)
theorem BarsAt.same {H H' : Hp} {t : Addr} {ks : List (Addr × Bar)} (B : BarsAt H t ks) (s : Same H H') : BarsAt H' t ks := ⟨s _ _ B.tu, fun k hk => s _ _ (B.el k hk)⟩
def Bar.ok (n : Int) (b : Bar) : Prop := 0 ≤ b.d ∧ b.d < n ∧ 0 ≤ b.o ∧ b.o < n ∧ b.d ≠ b.o
theorem Bar.ok.low {n : Int} {b : Bar} (h : b.ok n) (hn : n ≤ 7) : b.low := by
  obtain ⟨h1, h2, h3, h4, _⟩ := h
  exact ⟨h1, by omega, h3, by omega⟩
structure OkBars (n : Int) (bs : List Bar) : Prop where
  ok : ∀ b ∈ bs, b.ok n
  asc : bs.Pairwise fun x y => x.code < y.code
theorem inW_wd (b : Bool) : inW (.str (wd b)) = true := by revert b; decide +kernel
theorem barB_ok {n : Int} {b : Bar} (h : b.ok n) : barB n (.int b.d) (.str (wd b.w)) (.int b.o) (.str (wd b.t)) = true := by
  obtain ⟨h1, h2, h3, h4, h5⟩ := h
  unfold barB
  rw [inW_wd, inW_wd]
  show ((decide (0 ≤ b.d) && decide (b.d < n)) && ((decide (0 ≤ b.o) && decide (b.o < n)) && (!decide ((.int b.d : V) = .int b.o) && true))) = true
  have e : decide ((.int b.d : V) = .int b.o) = false := decide_eq_false fun q => h5 (by injection q)
  rw [decide_eq_true h1, decide_eq_true h2, decide_eq_true h3, decide_eq_true h4, e]
  rfl
theorem spIsBar_ok {K : PySem.W.Frag} {n : Int} {a : Addr} {b : Bar} {H : Hp} {Q : VK} {E : XK} (h : b.ok n) (ha : SqT K H a b.vs) (k : Q (.bl true) H) : spIsBar K [.int n, .ref a] H Q E :=
  ⟨⟨n, .inr (.inr ⟨a, _, _, _, _, rfl, ha, rfl, rfl, rfl, rfl, by rw [barB_ok h]; exact k⟩)⟩⟩
theorem SqT.of' {K : PySem.W.Frag} {H : Hp} {a : Addr} {xs : List V} (h : H a = some (.tup xs)) : SqT K H a xs := .inl (.inl h)
theorem same_upd {H : Hp} {p : Addr} {o : HO} (h : H p = none) : Same H (upd H p o) := fun b u e => by rw [upd_ne (ne_of_none e h)]; exact e
theorem at_prev {α : Type} {xs : List α} {i : Nat} {v : α} (h0 : 0 < i) (h : xs[i - 1]? = some v) : atI xs ((i : Int) - 1) = some v := by
  have e : (i : Int) - 1 = ((i - 1 : Nat) : Int) := by omega
  rw [e]
  exact atI_nat h
theorem pw_prev {bs : List Bar} (h : bs.Pairwise fun x y => x.code < y.code) {i : Nat} (h0 : 0 < i) {x y : Bar} (hx : bs[i - 1]? = some x) (hy : bs[i]? = some y) : x.code < y.code := by
  obtain ⟨l1, e1⟩ := List.getElem?_eq_some_iff.mp hx
  obtain ⟨l2, e2⟩ := List.getElem?_eq_some_iff.mp hy
  have := List.pairwise_iff_getElem.mp h (i - 1) i l1 l2 (by omega)
  rw [e1, e2] at this
  exact this
theorem not_leq {n : Int} {x y : Bar} (hn : n ≤ 7) (hx : x.ok n) (hy : y.ok n) (h : x.code < y.code) : y.leq x = false := by
  rw [Bar.leq_code (hy.low hn) (hx.low hn)]
  exact decide_eq_false (by omega)
/-! ### check_drawers, check_bars, __init__ of what is right -/
structure spCheckDrawers (vs : List V) (H : Hp) (Q : VK) (_ : XK) : Prop where
  h : ∃ n : Int, vs = [.int n] ∧ 1 ≤ n ∧ n ≤ 7 ∧ Q .non H
structure spCheckBars (vs : List V) (H : Hp) (Q : VK) (_ : XK) : Prop where
  h : ∃ (n : Int) (t : Addr) (ks : List (Addr × Bar)), vs = [.int n, .ref t] ∧ n ≤ 7 ∧ BarsAt H t ks ∧ OkBars n (ks.map (·.2)) ∧ ∀ H', Same H H' → Q .non H'
def cfl (n : Int) (t : Addr) : List (Str × V) := putF "_bars" (.ref t) (putF "_drawers" (.int n) [])
/-- a Cabinet stands at c -/
def CabAt (C : Addr) (H : Hp) (c : Addr) (n : Int) (t : Addr) : Prop := ∃ dx, H c = some (.ins C dx (cfl n t))
structure spInit (C : Addr) (vs : List V) (H : Hp) (Q : VK) (_ : XK) : Prop where
  h : ∃ (p dx : Addr) (n : Int) (t : Addr) (ks : List (Addr × Bar)), vs = [.ref p, .int n, .ref t] ∧ H p = some (.ins C dx []) ∧ 1 ≤ n ∧ n ≤ 7 ∧ BarsAt H t ks ∧ OkBars n (ks.map (·.2)) ∧
    ∀ H', H' p = some (.ins C dx (cfl n t)) → (∀ b o, b ≠ p → H b = some o → H' b = some o) → Q .non H'
/-- the class -/
structure CabT (K : PySem.W.Frag) (mg : Str → Option Value) (C : Addr) : Prop where
  cl : Cls K C
  nD : NoAttr K C "_drawers"
  nB : NoAttr K C "_bars"
  mgC : mg "Cabinet" = some (.ref C)
section
variable {P : Program} {w : World} {K : PySem.W.Frag} {mg : Str → Option Value} {base : Heap}
theorem scCheckDrawers : FnScope ["drawers"] ["drawers"] (defScope sCheckDrawers) := ⟨rfl, rfl, rfl, by decide +kernel, rfl, by decide +kernel, by decide +kernel⟩
theorem ok_checkDrawers {f f1 : Addr} {fd fd1 : FuncData} (F : Fun K "check_drawers" "check_drawers" sCheckDrawers f fd) (G : FnOk P w K mg base CX0 2 f1 fd1 ["value"] (spIsCount K)) (g1 : mg "is_drawer_count" = some (.ref f1)) (k1 : PySem.W.keepIn K (.ref f1) = true) (b1 : Binds K fd1 ["value"] []) :
    FnOk P w K mg base CX0 3 f fd ["drawers"] spCheckDrawers := by
  refine F.ok scCheckDrawers (fun vs H Q E h => ?_) (fun cdv A outer s H vs Q E hr h => ?_)
  · obtain ⟨n, rfl, _⟩ := h.h
    rfl
  · obtain ⟨n, rfl, h1, h2, k⟩ := h.h
    refine ⟨_, pss_one (ps_if (pt_not (pt_val (pe_call G (hr.mono (by decide)) rfl g1 k1 b1 .nil pass0 (pa_cons (pv 0) pa_nil)))) (pss_one ps_never) pss_nil), ?_⟩
    refine ⟨_, rfl, ⟨.inl ⟨n, rfl, _, rfl, ?_⟩⟩⟩
    rw [decide_eq_true h1, decide_eq_true h2]
    exact iteF k
theorem scCheckBars : FnScope ["drawers", "bars", "index", "bar"] ["drawers", "bars"] (defScope sCheckBars) := ⟨rfl, rfl, rfl, by decide +kernel, rfl, by decide +kernel, by decide +kernel⟩
theorem ok_checkBars {f f1 : Addr} {fd fd1 : FuncData} (F : Fun K "check_bars" "check_bars" sCheckBars f fd) (T : Bt mg) (G : FnOk P w K mg base CX0 3 f1 fd1 ["drawers", "value"] (spIsBar K)) (g1 : mg "is_bar" = some (.ref f1)) (k1 : PySem.W.keepIn K (.ref f1) = true) (b1 : Binds K fd1 ["drawers", "value"] []) :
    FnOk P w K mg base CX0 4 f fd ["drawers", "bars"] spCheckBars := by
  refine F.ok scCheckBars (fun vs H Q E h => ?_) (fun cdv A outer s H vs Q E hr h => ?_)
  · obtain ⟨n, t, ks, rfl, _⟩ := h.h
    rfl
  · obtain ⟨n, t, ks, rfl, hn, B, O, k⟩ := h.h
    have hu : _ < cLine := hr.units0
    refine ⟨_, pss_cons (ps_if (pt_not (pt_val (pe_callB call_isi (by rfl) T.isinstance (by decide +kernel) (pa_cons (pv 1) (pa_cons (pe_bltn (v := .ty "tuple") (by rfl) T.tuple (by decide +kernel) rfl) pa_nil))))) (pss_one ps_never) pss_nil)
      (pss_one (ps_for PassesOwn.never rfl (pi_enumT (by rfl) T.enumerate (pa_cons (pv 1) pa_nil)) (pg_tup (by rfl) (pgs_cons (pg_name (i := 2) scCheckBars.nd rfl (.inl rfl)) (pgs_cons (pg_name (i := 3) scCheckBars.nd rfl (.inl rfl)) pgs_nil)))
        (pss_cons (ps_if (pt_not (pt_val (pe_call G (hr.mono (by decide)) rfl g1 k1 b1 .nil pass0 (pa_cons (pv 0) (pa_cons (pv 3) pa_nil))))) (pss_one ps_never) pss_nil)
        (pss_one (ps_if (PW.pt (pw_and (pt_cmpR op_gt (pv 2) pe_int (nomark _)) (pw_and1 (pt_cmpR (op_leB hu) (pv 3) (pe_ix ix_tup (pv 1) (pe_op op_sub (pv 2) pe_int) (fun _ _ => rfl)) (nomark _))))) (pss_one ps_never) pss_nil))))), ?_⟩
    refine ⟨_, rfl, _, _, _, _, true, rfl, .ty "tuple", tyT (SqT.of' B.tu), kit_ty (by decide +kernel), _, rfl, iteF ?_⟩
    refine ⟨_, rfl, t, _, rfl, SqT.of' B.tu, ?_⟩
    refine for_it walk_enumT (fun i σ H' => ∃ v2 v3, σ = [some (.int n), some (.ref t), v2, v3] ∧ Same H H') ⟨_, _, rfl, Same.refl H⟩ (fun i σ H' _ ⟨_, _, _, s1⟩ => SqT.of' (s1 _ _ B.tu)) ?_ ?_
    · rintro i x σ H1 H2 hi ⟨v2, v3, rfl, s1⟩ ⟨T, x1, x2, rfl, hT, rfl, e1, e2⟩
      have e1' : V.int (i : Nat) = x1 := Option.some.inj e1
      subst e1'
      have e2 : (ks.map fun k => V.ref k.1)[i]? = some x2 := e2
      rw [List.getElem?_map] at e2
      cases ek : ks[i]? with
      | none => rw [ek] at e2; cases e2
      | some kk =>
        rw [ek] at e2
        have e2' : V.ref kk.1 = x2 := Option.some.inj e2
        subst e2'
        have s2 : Same H (upd H1 T (.tup [.int (i : Nat), .ref kk.1])) := s1.trans (same_upd hT)
        have hm : kk ∈ ks := List.mem_of_getElem? ek
        have hok : kk.2.ok n := O.ok _ (List.mem_map.mpr ⟨kk, hm, rfl⟩)
        refine ⟨T, _, rfl, SqT.of' upd_same, rfl, _, _, rfl, _, _, rfl, rfl, ?_⟩
        refine ⟨_, rfl, _, rfl, spIsBar_ok hok (SqT.of' (s2 _ _ (B.el kk hm))) ⟨_, rfl, iteF ?_⟩⟩
        refine ⟨_, rfl, _, _, rfl, rfl, _, rfl, ?_⟩
        refine ite2 (fun z => ?_) (fun z => iteF ⟨_, _, rfl, s2⟩)
        have h0 : 0 < i := by have := of_decide_eq_true z; omega
        obtain ⟨kp, ep⟩ : ∃ kp, ks[i - 1]? = some kp := by
          have := (List.getElem?_eq_some_iff.mp ek).1
          exact ⟨ks[i - 1]'(by omega), List.getElem?_eq_getElem (by omega)⟩
        have hmp : kp ∈ ks := List.mem_of_getElem? ep
        have hokp : kp.2.ok n := O.ok _ (List.mem_map.mpr ⟨kp, hmp, rfl⟩)
        refine ⟨_, rfl, _, rfl, _, rfl, _, _, rfl, rfl, t, _, _, .ref kp.1, rfl, rfl, SqT.of' (s2 _ _ B.tu), at_prev h0 (by rw [List.getElem?_map, ep]; rfl), ?_⟩
        refine ⟨kk.1, kp.1, kk.2, kp.2, rfl, rfl, SqT.of' (s2 _ _ (B.el kk hm)), SqT.of' (s2 _ _ (B.el kp hmp)), _, rfl, ?_⟩
        have hlt : kp.2.code < kk.2.code := pw_prev O.asc h0 (by rw [List.getElem?_map, ep]; rfl) (by rw [List.getElem?_map, ek]; rfl)
        rw [not_leq hn hokp hok hlt]
        exact iteF ⟨_, _, rfl, s2⟩
    · rintro σ H' ⟨v2, v3, rfl, s1⟩
      exact k H' s1
theorem scInit : FnScope ["self", "drawers", "bars"] ["self", "drawers", "bars"] (defScope sInit) := ⟨rfl, rfl, rfl, by decide +kernel, rfl, by decide +kernel, by decide +kernel⟩
theorem ok_init {f f1 f2 C : Addr} {fd fd1 fd2 : FuncData} (F : Fun K "__init__" "Cabinet.__init__" sInit f fd) (T : CabT K mg C) (G1 : FnOk P w K mg base CX0 3 f1 fd1 ["drawers"] spCheckDrawers) (g1 : mg "check_drawers" = some (.ref f1)) (k1 : PySem.W.keepIn K (.ref f1) = true) (b1 : Binds K fd1 ["drawers"] [])
    (G2 : FnOk P w K mg base CX0 4 f2 fd2 ["drawers", "bars"] spCheckBars) (g2 : mg "check_bars" = some (.ref f2)) (k2 : PySem.W.keepIn K (.ref f2) = true) (b2 : Binds K fd2 ["drawers", "bars"] []) : FnOk P w K mg base CX0 5 f fd ["self", "drawers", "bars"] (spInit C) := by
  refine F.ok scInit (fun vs H Q E h => ?_) (fun cdv A outer s H vs Q E hr h => ?_)
  · obtain ⟨p, dx, n, t, ks, rfl, _⟩ := h.h
    rfl
  · obtain ⟨p, dx, n, t, ks, rfl, hp, h1, h7, B, O, k⟩ := h.h
    refine ⟨_, pss_cons (ps_expr (pe_call G1 (hr.mono (by decide)) rfl g1 k1 b1 .nil pass0 (pa_cons (pv 1) pa_nil))) (pss_cons (ps_expr (pe_call G2 (hr.mono (by decide)) rfl g2 k2 b2 .nil pass0 (pa_cons (pv 1) (pa_cons (pv 2) pa_nil))))
      (pss_cons (ps_fld (pv 0) (pv 1) rfl) (pss_one (ps_fld (pv 0) (pv 2) rfl)))), ?_⟩
    refine ⟨_, rfl, ⟨n, rfl, h1, h7, ?_⟩⟩
    refine ⟨_, rfl, _, rfl, ⟨n, t, ks, rfl, h7, B, O, fun H1 s1 => ?_⟩⟩
    refine ⟨_, rfl, _, rfl, p, C, dx, _, rfl, s1 _ _ hp, T.cl, T.nD, (by show 0 < 1000; decide), _, rfl, _, rfl, p, C, dx, _, rfl, upd_same, T.cl, T.nB, (by show 1 < 1000; decide), ?_⟩
    refine k _ upd_same fun b o hb e => ?_
    rw [upd_ne hb, upd_ne hb]
    exact s1 _ _ e
end
end DL

set_option Elab.async false
set_option maxRecDepth 100000
set_option maxHeartbeats 1000000
namespace DL
open PySem PySem.Spec PyProof.Rows L2
/-- super().__init__(..) called: the error's args are laid anew -/
theorem mw_call {P : Program} {w : World} {A : Around} {E : Value → Shared → Prop} {h : Heap} {g : Array GenState} {d : Drawn} {t : Nat} {os : OsState} {nm q : Str} {C N : Addr} {bs bm : List Value} {hdct : Bool} {sn : List Str} {sub : List Value} {ab : Bool} {col : Option Bool} {dd : Option Addr} {k0 k1 k2 k3 k5 : Option Value}
    {u e t0 : Addr} {rest : List Value} {Q : Value → Shared → Prop}
    (hC : h.get? C = some (excClassObj nm q C N bs bm hdct sn sub ab col dd k0 k1 k2 k3 k5 "ValueError.__new__")) (he : h.get? e = some ({ cls := .ref C, dict := none, data := .fields #[.ref t0, .none, .none, .none, .bool false, .none] } : Obj)) (hu : h.get? u = some (PySem.W.kxs_mw "ValueError.__init__" e)) (hrest : rest.length ≤ sizeLine)
    (hq : ∀ h' t1, (∀ b o, b ≠ e → h.get? b = some o → h'.get? b = some o) → h'.get? e = some ({ cls := .ref C, dict := none, data := .fields #[.ref t1, .none, .none, .none, .bool false, .none] } : Obj) → Q .none ⟨h', g, d, t, os⟩) :
    wpAny (model P w) A (call (.ref u) rest) Q E ⟨h, g, d, t, os⟩ := by
  have FB := F.excBase_ValueError
  refine wpAny_call (codeAny_of_tree ?_)
  show wpAny _ A.in1 (callAny (.ref u) ⟨rest, []⟩) _ _ _
  simp only [callAny]
  refine wpAny_bind (wpAny_load hu ?_)
  simp only [PySem.W.kxs_mw, show (Value.type "method-wrapper" == Value.type "method" || Value.type "method-wrapper" == Value.type "builtin_function_or_method" || Value.type "method-wrapper" == Value.type "method-wrapper") = true by decide, if_true]
  refine PySem.W.KFB.if_so (by decide) ?_
  refine wpAny_bind (PySem.W.check_bound_init FB.toExcCallFacts hC he rfl ?_)
  refine wpAny_bind (wpAny_pure (wpAny_pure ?_))
  refine ⟨plainId_quiet FB.init.plain _, codeAny_builtin FB.initEntry ?_⟩
  exact PySem.W.exc_init_tree (cls := .ref C) (t0 := t0) (dv := none) (c2 := .none) (c3 := .none) (b4 := .bool false) he hrest fun h' k he' _ => hq h' _ k he'
structure SupK (K : PySem.W.Frag) (P : Program) (f C cc cda : Addr) (fd : FuncData) (slf : Str) : Prop where
  T : OexC K C
  mro : ∃ cd, PySem.W.clsIn K C = some cd ∧ PySem.W.alongIn K "__init__" ((cd.mro.dropWhile (· != .ref C)).drop 1) = some (some (.builtin "ValueError.__init__"))
  lf : ∃ oc od osl, K.lookup f = some ⟨oc, od, .func fd, osl⟩
  hp : ∃ ar, (fd.params.posonlyargs ++ fd.params.args).head? = some ar ∧ ar.arg = slf
  code : ∃ ccl cdd vs ccs file tf, K.lookup cda = some ⟨ccl, cdd, .fields vs, ccs⟩ ∧ vs[2]? = some (.str file tf) ∧ ((P.main.file : Str) == file) = true
  cell : ∃ cl cld csl, K.lookup cc = some ⟨cl, cld, .cell (some (.ref C)), csl⟩
  sub : PySem.W.mroIn K C (.ref C) = some true
  any : PySem.W.nsIn K cStatics "thirdparty.any" = some none
  subB : PySem.W.subIn K (.ref C) (.type "ValueError") = some true
  top : (P.main.scope.names.lookup ("super" : Str)).isSome = false
theorem boot_super_ : bootBuiltins ("super" : Str) = some (.type "super") := by decide +kernel
section
variable {X : Cx} {pins : List (Addr × Obj)} {σ : L2.St} {H : Hp} {s : Shared} {D : Ends} {f C cc cda a : Addr} {fd : FuncData} {slf : Str} {e : Expr} {es : List Expr} {ta : TA} {body : List Stmt} {p0 p1 apos pos pos' : Pos} {pl : Sem Bool}
theorem sup_run (S : SupK X.K X.prog f C cc cda fd slf) (hfu : X.env.func = some f) (hco : X.env.code = .ref cda) (hcl : X.env.cells.lookup ("__class__" : Str) = some cc) (hks : X.env.kindOf "super" = some .globalImplicit) (hkc : X.env.kindOf "__class__" = some .free)
    (hka : X.env.kindOf slf = some .local) (hN : X.N[0]? = some slf) (hm : X.mg "super" = none) (ha : PA X (e :: es) ta) (I : Inv X pins σ H s) (hσ : σ[0]? = some (some (.ref a))) (hea : H a = some (exo a C none))
    (h : ta σ H fun vs H1 => vs.length ≤ 1000 ∧ H1 a = some (exo a C none) ∧ D.nx σ H1)
    (hev : eval (.Call (.Attribute (.Call (.Name "super" p0) [] [] p1) "__init__" apos) (e :: es) [] pos) X.env = (do
      let ov ← attributeBase (.Call (.Name "super" p0) [] [] p1) "__init__" X.env (eval (.Call (.Name "super" p0) [] [] p1) X.env)
      standAt apos.atName
      let (f, first) ← holding [ov] (getMethod ov "__init__" pl)
      callWith pos f first (backTo pos (starEach (e :: es) X.env)) []) := by rfl)
    (hi : interactive X.env = false := by rfl) (hsw : swapsWith (.Call (.Attribute (.Call (.Name "super" p0) [] [] p1) "__init__" apos) (e :: es) [] pos) none pos'.line X.env = pure false := by rfl)
    (hst : starEach (e :: es) X.env = (false, eval e X.env) :: starEach es X.env := by rfl) (hpl : (backTo pos (starEach es X.env)).any (·.1) = false := by rfl) :
    PySem.wpAt (model X.prog X.w) X.A (.func body X.env) (exec (.Expr (.Call (.Attribute (.Call (.Name "super" p0) [] [] p1) "__init__" apos) (e :: es) [] pos) pos') X.env) (SP X pins D) X.xe s := by
  obtain ⟨cd, hcd, halong⟩ := S.mro
  obtain ⟨oc, od, osl, lf⟩ := S.lf
  obtain ⟨ar, har, hslf⟩ := S.hp
  obtain ⟨ccl, cdd, vs, ccs, file, tf, hcode, hvs, hfile⟩ := S.code
  obtain ⟨cl, cld, csl, hcell⟩ := S.cell
  have X0 := I.kIn
  obtain ⟨mb, hb1, hb2⟩ := I.mod.blt
  obtain ⟨m, hn, hl⟩ := I.loc
  obtain ⟨u, ru, hlook⟩ := hl 0 slf (.ref a) hN hσ (.inl hka)
  have hmv : m slf = some (.ref a) := by
    obtain rfl : u = Value.ref a := ru
    rcases hlook with ⟨_, q⟩ | ⟨q | q, _⟩
    · exact q
    · rw [hka] at q; cases q
    · rw [hka] at q; cases q
  have hbk := I.bk
  have hok := I.ok
  obtain ⟨t1, ho⟩ := exo_at I.hok hea
  have hac : a ≠ C := fun z => by
    obtain ⟨nm, q, N, bs, bm, sn, sub, ab, col, dd, k0, k1, k2, k3, k5, hC, _⟩ := S.T.cls
    have := (I.bs C _ (I.mod.kin _ _ hC)).2
    rw [← z, hea] at this
    cases this
  have hD : ∃ oD, s.heap.get? C = some oD ∧ oD.data = .cls cd := by
    unfold PySem.W.clsIn at hcd
    split at hcd
    · rename_i c d cd' sl ho'
      cases hcd
      exact ⟨_, X0 _ _ ho', rfl⟩
    · cases hcd
  obtain ⟨oD, hD1, hD2⟩ := hD
  obtain ⟨hh, g, d, t, os⟩ := s
  refine PySem.ks_wpAt_Expr_any ?_ hi hsw
  refine PySem.ks_wpAt_MethodCall ?_ hev
  refine PySem.ks_wpAt_super_base hks hkc rfl hfu (X0 _ _ lf) rfl har hco (X0 _ _ hcode) rfl hvs hfile S.top ?_
  refine PySem.W.ks_loadName_global hok.kind hks (Calls.loadGlobal_builtin (by rw [hok.glob]; exact I.mod.glob.keeps hbk) hm (by rw [hok.blt]; exact hb1.keeps hbk) ((hb2 "super" (by decide)).trans boot_super_) ⟨rfl, ?_⟩)
  refine wpAny_loadName_free hok.kind hkc hcl ⟨_, X0 _ _ hcell, rfl⟩ ?_
  rw [hslf]
  refine wpAny_loadName_local hok.kind hka hn hmv ?_
  refine PySem.ks_wpAny_isType_cls hD1 hD2 ⟨rfl, ?_⟩
  refine PySem.ks_wpAny_call_super hD1 hD2 ho rfl (fun c z => by cases z) (PySem.W.looks_mroIn X0 S.sub) (fun h' e' k => ?_)
  have I1 : Inv X pins σ H ⟨h', g, d, t, os⟩ := I.kept (t' := t) k
  have X1 := I1.kIn
  obtain ⟨t2, ho1⟩ := exo_at I1.hok hea
  have hI : PySem.W.Looks (model X.prog X.w) h' (isInstance (.ref a) (.type "ValueError")) true := (show PySem.W.InstAt h' a _ C none from ⟨ho1, rfl, rfl, trivial⟩).type.andThen (PySem.W.looks_subIn X1 S.subB)
  refine PySem.W.kxs_getMethod PySem.W.kxs_ValueError e' (PySem.W.looks_opaque X1 S.any) (l₀ := cd.mro) (fun A Q E s k q => wpAny_bind ((PySem.W.looks_clsIn X1 hcd) A _ E s k (wpAny_pure q))) rfl X1 halong hI hac rfl ?_
  have I2 : Inv X ((h'.objs.size, PySem.W.kxs_mw "ValueError.__init__" a) :: pins) σ H ⟨h'.push (PySem.W.kxs_mw "ValueError.__init__" a), g, d, t + 1, os⟩ :=
    ClX.pin_new (t' := t + 1) I1 (fun b u z => Heap.get?_push_of_some _ z) (Nat.le_refl _) (Heap.get?_push_size _ rfl) (fun v z => by cases z)
  rw [hst]
  refine PySem.W.kxs_callWith (i := "ValueError.__init__") (x := a) (by show (false || (backTo pos (starEach es X.env)).any (·.1)) = false; rw [hpl]; rfl) ?_
  refine PySem.Calls.evalArgs_plain ?_
  have hrun := ha.run pos _ _ σ H _ I2 h
  rw [hst] at hrun
  refine thn hrun fun us s1 ⟨vs1, H1, I3, r1, hlen, hea3, q⟩ => ⟨ClX.pin_at I3, ?_⟩
  obtain ⟨t3, ho3⟩ := exo_at I3.hok hea3
  obtain ⟨nm, q', N', bs, bm, sn, sub, ab, col, dd, k0, k1, k2, k3, k5, hC, hbm⟩ := S.T.cls
  have hlen2 : us.length ≤ sizeLine := by
    rw [← Paired.length r1, sizeLine_eq]
    omega
  obtain ⟨hh3, g3, d3, t4, os3⟩ := s1
  refine mw_call (I3.kIn _ _ hC) ho3 (ClX.pin_at I3) hlen2 fun h4 t5 k4 e4 => ?_
  have J := (ClX.unpin I3).write (t' := t4) (x := a) (e := a) (o := exo a C none) (by rw [hea3]; exact True.intro) (.inl rfl) k4 ⟨_, e4⟩ (exo_ok e4)
  have eu : upd H1 a (exo a C none) = H1 := by
    funext b
    by_cases hb : b = a
    · rw [hb, upd_same, hea3]
    · rw [upd_ne hb]
  rw [eu] at J
  exact ⟨σ, H1, J, q⟩
end
/-! ### a method that says super(): its body runs where its class's cell is read -/
structure SupScope (N ps : List Str) (sc : Scope) : Prop where
  kind : sc.kind = .function
  co : sc.isCoroutine = false
  gen : sc.isGenerator = false
  nd : N.Nodup
  pre : N.take ps.length = ps
  par : ∀ x ∈ ps, sc.names.lookup x = some .local
  nocell : ∀ y ∈ sc.names, y.2 ≠ .cell
  only : ∀ y ∈ sc.names, y.2 = .free → y.1 = "__class__"
def cxS (CX : CXT) (P : Program) (w : World) (K : PySem.W.Frag) (mg : Str → Option Value) (base : Heap) (N : List Str) (qual : Str) (scope : Scope) (f : Addr) (cd : Value) (cc : Addr) (A : Around) (outer : List Env) (s : Shared) (H : Hp) (E : XK) : Cx where
  prog := P
  w := w
  K := K
  mg := mg
  base := base
  A := A.deeper (PySem.W.ksEnv qual scope s.heap.objs.size f cd cc)
  N := N
  s_0 := s
  H_0 := H
  env := PySem.W.ksEnv qual scope s.heap.objs.size f cd cc
  outer := outer
  stack := PySem.W.ksEnv qual scope s.heap.objs.size f cd cc :: outer
  ex := []
  calm := true
  fn := fun _ => false
  pn := []
  xe := fun e s' => wpAny (model P w) (A.deeper (PySem.W.ksEnv qual scope s.heap.objs.size f cd cc)) (leaving (PySem.W.ksEnv qual scope s.heap.objs.size f cd cc) e) (fun _ s'' => CX outer H s E e s'') (fun e' s'' => CX outer H s E e' s'') s'
theorem zip_sub : ∀ (ps : List Str) (us : List Value), ((ps.zip us).map (·.1)).Sublist ps
  | [], us => by simp
  | p :: ps, [] => by simp
  | p :: ps, u :: us => by
    show (p :: (ps.zip us).map (·.1)).Sublist (p :: ps)
    exact (zip_sub ps us).cons₂ p
theorem zip_get : ∀ {ps : List Str} {us : List Value} {i : Nat} {x : Str} {u : Value}, ps.Nodup → ps[i]? = some x → us[i]? = some u → (ps.zip us).reverse.lookup x = some u := by
  intro ps us i x u nd hp hu
  have hm : (x, u) ∈ (ps.zip us).reverse := by
    rw [List.mem_reverse]
    have : (ps.zip us)[i]? = some (x, u) := by
      rw [List.getElem?_zip_eq_some]
      exact ⟨hp, hu⟩
    exact List.mem_of_getElem? this
  have nd' : ((ps.zip us).reverse.map (·.1)).Nodup := by
    rw [List.map_reverse]
    refine (List.reverse_perm _).nodup_iff.mpr ?_
    exact nd.sublist (zip_sub ps us)
  clear hp hu nd
  generalize (ps.zip us).reverse = l at hm nd'
  induction l with
  | nil => cases hm
  | cons p l ih =>
    obtain ⟨y, v⟩ := p
    rw [List.map_cons, List.nodup_cons] at nd'
    rcases List.mem_cons.mp hm with e | e
    · cases e
      simp [List.lookup]
    · have hne : ¬ x = y := fun z => nd'.1 (z ▸ List.mem_map.mpr ⟨(x, u), e, rfl⟩)
      have : (x == y) = false := by simpa using hne
      simp only [List.lookup, this]
      exact ih e nd'.2
theorem inv_startS {CX : CXT} {P : Program} {w : World} {K : PySem.W.Frag} {mg : Str → Option Value} {base : Heap} {N ps : List Str} {qual : Str} {scope : Scope} {f cc D : Addr} {cd cl : Value} {cld : Option Addr} {csl : Array (Option Value)} {A : Around} {outer : List Env} {s : Shared} {h₀ : Heap} {H : Hp} {E : XK} {us : List Value} {vs : List V} {tk : Nat}
    (S : SupScope N ps scope) (hcell : K.lookup cc = some ⟨cl, cld, .cell (some (.ref D)), csl⟩) (hd : A.handled = none) (e0 : Env0 P w K mg base A outer s H) (hl : vs.length = ps.length) (r : Vals vs us)
    (hns : h₀.Ns s.heap.objs.size (fun x => (ps.zip us).reverse.lookup x)) (hk : ∀ b o, s.heap.get? b = some o → h₀.get? b = some o) :
    Inv (cxS CX P w K mg base N qual scope f cd cc A outer s H E) [] (L2.start N vs) H { s with heap := h₀, toks := tk } := by
  have hpl : ps.length ≤ N.length := by have := congrArg List.length S.pre; rw [List.length_take] at this; omega
  have noA : ∀ b : Addr, b ∉ (cxS CX P w K mg base N qual scope f cd cc A outer s H E).ex := fun b z => absurd (show b ∈ ([] : List Addr) from z) (by simp)
  have one : ∀ {y : Str} {c : Addr}, (cxS CX P w K mg base N qual scope f cd cc A outer s H E).env.cells.lookup y = some c → y = "__class__" ∧ c = cc := fun {y c} z => by
    have z : ([("__class__", cc)] : List (Str × Addr)).lookup y = some c := z
    by_cases q : y = "__class__"
    · subst q
      simp [List.lookup] at z
      exact ⟨rfl, z.symm⟩
    · have : (y == ("__class__" : Str)) = false := by simpa using q
      simp [List.lookup, this] at z
  have hcb := e0.mod.kin _ _ hcell
  refine ⟨⟨e0.mod, S.kind, rfl, rfl, Nat.le_refl _, fun y z c h1 h2 => ?_, fun y hy => ?_, fun y c z _ => (by cases z), fun _ => hd, Around.frames_deeper e0.frames, .inr ⟨rfl, rfl⟩, fun b z => absurd z (noA b), e0.bs, e0.bsz, fun b _ _ => noA b, fun b z => absurd z (noA b), e0.funs, e0.frf⟩,
    rfl, e0.bare, Un.kept hk, ⟨_, hns, fun i y v h1 h2 h3 => ?_⟩, fun y c h => ?_, e0.hok.fresh (Nat.le_refl _), fun y c h => ?_, fun p hp => absurd (show p ∈ ([] : List (Addr × Obj)) from hp) (by simp), e0.hok.kept hk, ?_⟩
  · rw [(one h1).1, (one h2).1]
  · have hy : scope.names.lookup y = some .cell ∨ scope.names.lookup y = some .free := hy
    rcases hy with hy | hy
    · exact absurd rfl (S.nocell _ (PySem.mem_of_lookup hy))
    · have := S.only _ (PySem.mem_of_lookup hy) rfl
      have this : y = "__class__" := this
      subst this
      exact ⟨cc, by show ([("__class__", cc)] : List (Str × Addr)).lookup ("__class__" : Str) = some cc; simp [List.lookup]⟩
  · have hi : i < vs.length := by
      unfold L2.start at h2
      by_cases hi : i < vs.length
      · exact hi
      · rw [List.getElem?_append_right (by simpa using hi)] at h2
        rw [List.getElem?_replicate] at h2
        split at h2 <;> cases h2
    have ha : vs[i]? = some v := by
      unfold L2.start at h2
      rw [List.getElem?_append_left (by simpa using hi), List.getElem?_map] at h2
      cases e : vs[i]? with
      | none => rw [e] at h2; cases h2
      | some a => rw [e] at h2; cases h2; rfl
    obtain ⟨u, hu, rv⟩ := r.get ha
    have hp : ps[i]? = some y := by
      rw [← S.pre, List.getElem?_take_of_lt (by omega)]; exact h1
    have ndP : ps.Nodup := by rw [← S.pre]; exact S.nd.sublist (List.take_sublist _ _)
    exact ⟨u, rv, .inl ⟨S.par y (List.mem_of_getElem? hp), zip_get ndP hp hu⟩⟩
  · rw [(one h).2]
    exact ⟨_, _, hk _ _ (e0.bs _ _ hcb).1, rfl⟩
  · rw [(one h).2]
    exact (e0.bs _ _ hcb).2
  · unfold L2.start
    show _ = N.length
    rw [List.length_append, List.length_map, List.length_replicate]
    omega
theorem fn_ofS {CX : CXT} {P : Program} {w : World} {K : PySem.W.Frag} {mg : Str → Option Value} {base : Heap} {k : Nat} {f cc D : Addr} {name qual : Str} {params : Arguments} {body : List Stmt} {scope : Scope} {dV kV doc pm cdv ct oc cl : Value} {an od cld : Option Addr}
    {osl csl : Array (Option Value)} {N ps : List Str} {sp : Sp} (lk : K.lookup f = some ⟨oc, od, .func (PySem.W.ksFn name qual params body scope dV kV doc pm an cdv ct cc), osl⟩) (hcd : PySem.W.codeIn K cdv qual = true) (hcell : K.lookup cc = some ⟨cl, cld, .cell (some (.ref D)), csl⟩) (S : SupScope N ps scope)
    (len : ∀ vs H Q E, sp vs H Q E → vs.length = ps.length)
    (hbody : ∀ (A : Around) (outer : List Env) (s s1 : Shared) (H : Hp) (vs : List V) (Q : VK) (E : XK), sp vs H Q E → Inv (cxS CX P w K mg base N qual scope f cdv cc A outer s H E) [] (L2.start N vs) H s1 →
      PySem.wpAt (model P w) (cxS CX P w K mg base N qual scope f cdv cc A outer s H E).A (.func body (cxS CX P w K mg base N qual scope f cdv cc A outer s H E).env) (execs body (cxS CX P w K mg base N qual scope f cdv cc A outer s H E).env)
        (SP (cxS CX P w K mg base N qual scope f cdv cc A outer s H E) [] { nx := fun _ H' => Q .non H', rt := Q }) (cxS CX P w K mg base N qual scope f cdv cc A outer s H E).xe s1) :
    FnOk P w K mg base CX (k + 1) f (PySem.W.ksFn name qual params body scope dV kV doc pm an cdv ct cc) ps sp := by
  refine ⟨len, fun A outer s H args us vs Q E hr e0 hb r hsp => ?_⟩
  have hl := len _ _ _ _ hsp
  have KX : K.In s.heap := e0.mod.kin.keeps fun b o e => (e0.bs b o e).1
  have lim : s.heap.NoLimit := e0.mod.nolimit.keeps fun b o e => (e0.bs b o e).1
  refine PySem.ks_codeAny_call_defAt (fd := PySem.W.ksFn name qual params body scope dV kV doc pm an cdv ct cc) (body := body) (binds := ps.zip us) hr.depth (KX _ _ lk) rfl lim (PySem.W.codeRec_of KX hcd) rfl hb S.nocell (fun y hy => S.par _ (List.of_mem_zip hy).1) (fun h₀ hns hk => ?_) S.co S.gen S.kind
  have I : Inv (cxS CX P w K mg base N qual scope f cdv cc A outer s H E) [] (L2.start N vs) H { s with heap := h₀, toks := s.toks + (ps.zip us).length } := inv_startS S hcell hr.hd e0 hl r hns hk
  refine PySem.ks_wpAt_mono (hbody A outer s _ H vs Q E hsp I) (fun fl s' hs => ?_) fun e s' hs => hs
  have fin : ∀ {σ' : L2.St} {H' : Hp} {v : V} {u : Value}, Inv (cxS CX P w K mg base N qual scope f cdv cc A outer s H E) [] σ' H' s' → RelV v u → Q v H' → CE outer P w H s Q u s' :=
    fun {σ' H' v u} J rv q => ⟨v, H', J.os, J.bare, J.base, J.hok, rv, q⟩
  cases fl with
  | ret u =>
    obtain ⟨v, σ', H', J, rv, q⟩ := hs
    exact fin J rv q
  | next =>
    obtain ⟨σ', H', J, q⟩ := hs
    exact fin (v := V.non) (u := Value.none) J rfl q
  | brk =>
    obtain ⟨_, _, _, q⟩ := hs
    exact False.elim q
  | cont =>
    obtain ⟨_, _, _, q⟩ := hs
    exact False.elim q
end DL

set_option Elab.async false
set_option maxRecDepth 100000
set_option maxHeartbeats 1000000
namespace DL
open PySem PySem.Spec PyProof.Rows L2
/-! ### {x}: None or a number -/
def tFmtN (te : TE) : TE := fun σ H Q => te σ H fun x H1 => (x = .non ∧ Q (.str "None") H1) ∨ ∃ i : Int, x = .int i ∧ i.natAbs.log2 < 1920 ∧ Q (.str (toString i)) H1
theorem pe_fmtN {X : Cx} {e : Expr} {te : TE} {pos : Pos} (he : PE X e te) : PE X (.FormattedValue e (-1) none pos) (tFmtN te) := by
  refine ⟨fun pins s σ H Q I h => ?_⟩
  refine wpAny_FormattedValue_plain (thn (he.run pins s σ H _ I h) fun v s1 hv => ?_)
  obtain ⟨x, H1, I1, r1, q⟩ := hv
  rcases q with ⟨rfl, q⟩ | ⟨i, rfl, hz, q⟩
  · obtain rfl : v = Value.none := r1
    exact wpAny_formatField_none ⟨.str "None", H1, I1.tok _, ⟨_, rfl⟩, q⟩
  · obtain ⟨t, rfl⟩ := r1
    exact wpAny_formatField_int hz ⟨.str (toString i), H1, I1.tok _, ⟨_, rfl⟩, q⟩
/-- a def of a class with super() in it -/
structure FunS (K : PySem.W.Frag) (x qual : Str) (st : Stmt) (f cda cc : Addr) (fd : FuncData) : Prop where
  ex : ∃ (oc : Value) (od an : Option Addr) (kV doc pm ct : Value) (osl : Array (Option Value)), fd = PySem.W.ksFn x qual (defArgs st) (defBody st) (defScope st) .none kV doc pm an (.ref cda) ct cc ∧ K.lookup f = some ⟨oc, od, .func fd, osl⟩ ∧ PySem.W.codeIn K (.ref cda) qual = true
theorem small_log {i : Int} (h0 : 0 ≤ i) (h1 : i ≤ 1000) : i.natAbs.log2 < 1920 := by
  have : i.natAbs < 2 ^ 1920 := Nat.lt_of_le_of_lt (show i.natAbs ≤ 1000 by omega) (by decide +kernel)
  by_cases z : i.natAbs = 0
  · rw [z]; decide
  · exact (Nat.log2_lt z).mpr this
end DL

set_option Elab.async false
set_option maxRecDepth 100000
set_option maxHeartbeats 1000000
namespace DL
open PySem L2
/-! ### the checks with what they raise -/
/-- the raised error: its dict is new -/
def exBad (CB : Addr) (x : V) (H : Hp) (E : XK) : Prop := ∀ (d : Addr) (H' : Hp), H d = none → Same H H' → H' d = some (.xd [("index", x)]) → E (.ref CB) (some d) H'
structure spCkDX (K : PySem.W.Frag) (CD : Addr) (vs : List V) (H : Hp) (Q : VK) (E : XK) : Prop where
  h : (∃ n : Int, vs = [.int n] ∧ (1 ≤ n ∧ n ≤ 7 → Q .non H) ∧ (¬ (1 ≤ n ∧ n ≤ 7) → E (.ref CD) none H)) ∨
  ∃ (v : V) (t : Value) (b1 b2 : Bool), vs = [v] ∧ TyX K H v t ∧ PySem.W.kitOne K t (.type "int") = some b1 ∧ PySem.W.kitOne K t (.type "bool") = some b2 ∧ (b1 && !b2) = false ∧ E (.ref CD) none H
/-- what is_bar says False of -/
def NoBar (K : PySem.W.Frag) (H : Hp) (n : Int) (v : V) : Prop := (∃ t : Value, TyX K H v t ∧ PySem.W.kitOne K t (.type "tuple") = some false) ∨
  (∃ (a : Addr) (xs : List V), v = .ref a ∧ SqT K H a xs ∧ xs.length ≠ 4) ∨
  ∃ (a : Addr) (x0 x1 x2 x3 : V), v = .ref a ∧ SqT K H a [x0, x1, x2, x3] ∧ scV x0 = true ∧ scV x1 = true ∧ scV x2 = true ∧ scV x3 = true ∧ barB n x0 x1 x2 x3 = false
theorem NoBar.sp {K : PySem.W.Frag} {H : Hp} {n : Int} {v : V} {Q : VK} {E : XK} (h : NoBar K H n v) (k : Q (.bl false) H) : spIsBar K [.int n, v] H Q E := by
  rcases h with ⟨t, h1, h2⟩ | ⟨a, xs, rfl, h1, h2⟩ | ⟨a, x0, x1, x2, x3, rfl, h1, c0, c1, c2, c3, h2⟩
  · exact ⟨⟨n, .inl ⟨v, t, rfl, h1, h2, k⟩⟩⟩
  · exact ⟨⟨n, .inr (.inl ⟨a, xs, rfl, h1, h2, k⟩)⟩⟩
  · exact ⟨⟨n, .inr (.inr ⟨a, x0, x1, x2, x3, rfl, h1, c0, c1, c2, c3, by rw [h2]; exact k⟩)⟩⟩
/-- wrong bars, no tuple: None; else the first wrong one stands behind good ones -/
structure spCkBX (K : PySem.W.Frag) (CB : Addr) (vs : List V) (H : Hp) (Q : VK) (E : XK) : Prop where
  h : (∃ (n : Int) (t : Addr) (ks : List (Addr × Bar)), vs = [.int n, .ref t] ∧ n ≤ 7 ∧ BarsAt H t ks ∧ OkBars n (ks.map (·.2)) ∧ ∀ H', Same H H' → Q .non H') ∨
  (∃ (n : Int) (v : V) (t : Value), vs = [.int n, v] ∧ TyX K H v t ∧ PySem.W.kitOne K t (.type "tuple") = some false ∧ exBad CB .non H E) ∨
  ∃ (n : Int) (t : Addr) (ks : List (Addr × Bar)) (x : V) (ys : List V), vs = [.int n, .ref t] ∧ n ≤ 7 ∧ H t = some (.tup ((ks.map fun k => V.ref k.1) ++ x :: ys)) ∧ (∀ k ∈ ks, H k.1 = some (.tup k.2.vs)) ∧ OkBars n (ks.map (·.2)) ∧ ks.length ≤ 100 ∧
    ((∀ H', Same H H' → NoBar K H' n x) ∨ ∃ (a : Addr) (b : Bar) (kp : Addr × Bar), x = .ref a ∧ H a = some (.tup b.vs) ∧ b.ok n ∧ 0 < ks.length ∧ ks[ks.length - 1]? = some kp ∧ b.leq kp.2 = true) ∧ ∀ H', Same H H' → exBad CB (.int ks.length) H' E
end DL

set_option Elab.async false
set_option maxRecDepth 100000
namespace DL
open PySem L2
/-! ### drawing: the row of draws stands at r, the script at sc -/
def But (r : Addr) (H H' : Hp) : Prop := ∀ b o, b ≠ r → H b = some o → H' b = some o
theorem But.refl (r : Addr) (H : Hp) : But r H H := fun _ _ _ h => h
theorem But.trans {r : Addr} {H H1 H2 : Hp} (a : But r H H1) (b : But r H1 H2) : But r H H2 := fun c o hc h => b c o hc (a c o hc h)
theorem sbut {r : Addr} {H H' : Hp} (s : Same H H') : But r H H' := fun c o _ h => s c o h
theorem but_upd {r : Addr} {H : Hp} {o : HO} : But r H (upd H r o) := fun c u hc h => by rw [upd_ne hc]; exact h
theorem But.seq {K : PySem.W.Frag} {r : Addr} {H H' : Hp} {a : Addr} {xs : List V} (s : But r H H') (ha : a ≠ r) (h : SqL K H a xs) : SqL K H' a xs := by
  rcases h with (h | ⟨o, h⟩) | h
  · exact .inl (.inl (s _ _ ha h))
  · exact .inl (.inr ⟨o, s _ _ ha h⟩)
  · exact .inr h
theorem But.tup {r : Addr} {H H' : Hp} {a : Addr} {xs : List V} {ys : List V} (s : But r H H') (hr : H r = some (.lst ys)) (h : H a = some (.tup xs)) : H' a = some (.tup xs) :=
  s _ _ (ne_of h hr (by intro z; cases z)) h
structure RowOk (H : Hp) (r sc : Addr) : Prop where
  h : ∃ i m e : Int, H r = some (.lst [.ref sc, .int i, .int m, .int e]) ∧ 0 ≤ i ∧ 0 ≤ m ∧ m < 2147483647 ∧ 0 ≤ e
theorem RowOk.same {H H' : Hp} {r sc : Addr} (R : RowOk H r sc) (s : Same H H') : RowOk H' r sc := by
  obtain ⟨i, m, e, h, q⟩ := R.h
  exact ⟨⟨i, m, e, s _ _ h, q⟩⟩
theorem But.seqR {K : PySem.W.Frag} {r sc : Addr} {H H' : Hp} {a : Addr} {ns : List Int} (s : But r H H') (R : RowOk H r sc) (h : SqL K H a (ns.map V.int)) : SqL K H' a (ns.map V.int) := by
  obtain ⟨i, m, e, hR, _⟩ := R.h
  have nd : ∀ u : HO, H a = some u → u ≠ .lst [.ref sc, .int i, .int m, .int e] → a ≠ r := fun u hu hn z => by
    rw [z, hR] at hu
    exact hn (Option.some.inj hu).symm
  rcases h with (h | ⟨o, h⟩) | h
  · refine .inl (.inl (s _ _ (nd _ h fun z => ?_) h))
    injection z with z
    cases ns with
    | nil => cases z
    | cons n ns => injection z with z _; cases z
  · exact .inl (.inr ⟨o, s _ _ (nd _ h fun z => by cases z) h⟩)
  · exact .inr h
structure spTaken (K : PySem.W.Frag) (vs : List V) (H : Hp) (Q : VK) (_ : XK) : Prop where
  h : ∃ (r sc : Addr) (ns : List Int) (many : Int), vs = [.ref r, .int many] ∧ RowOk H r sc ∧ SqL K H sc (ns.map V.int) ∧ 1 ≤ many ∧ many ≤ 1000 ∧
    ∀ (v : Int) (H' : Hp), 0 ≤ v → v < many → RowOk H' r sc → But r H H' → Q (.int v) H'
section
variable {P : Program} {w : World} {K : PySem.W.Frag} {mg : Str → Option Value} {base : Heap}
theorem scTaken : FnScope ["_law_row", "_law_many", "_law_found", "_law_cell"] ["_law_row", "_law_many"] (defScope sTaken) := ⟨rfl, rfl, rfl, by decide +kernel, rfl, by decide +kernel, by decide +kernel⟩
theorem ok_taken {f : Addr} {fd : FuncData} (F : Fun K "_law_taken" "_law_taken" sTaken f fd) (T : Bt mg) : FnOk P w K mg base CX0 1 f fd ["_law_row", "_law_many"] (spTaken K) := by
  refine F.ok scTaken (fun vs H Q E h => ?_) (fun cdv A outer s H vs Q E hr h => ?_)
  · obtain ⟨r, sc, ns, many, rfl, _⟩ := h.h
    rfl
  · obtain ⟨r, sc, ns, many, rfl, R, S, h1, h2, k⟩ := h.h
    obtain ⟨i, m, e, hR, hi, hm0, hm, he⟩ := R.h
    have dv : CDivW e many := wide_div (b := 10) (by omega) (by omega) (by decide) (by decide)
    refine ⟨_, pss_cons (ps_if (pt_cmpR op_gt (pe_ix ix_list (pv 0) pe_int (fun _ _ => rfl)) pe_int (nomark _))
        (pss_cons (ps_set (i := 2) scTaken.nd rfl (.inl rfl) (pe_op op_mod (pe_callTy call_int1 (by rfl) T.int (by decide +kernel) (pa_cons (pe_ix ix_list (pv 0) pe_int (fun _ _ => rfl)) pa_nil)) (pv 1)))
        (pss_cons (ps_asg (pe_op op_fdivW (pe_ix ix_list (pv 0) pe_int (fun _ _ => rfl)) (pv 1)) (pg_sub (pv 0) pe_int set_list))
        (pss_one (ps_ret (pv 2))))) pss_nil)
      (pss_cons (ps_asg (pe_op op_add (pe_ix ix_list (pv 0) pe_int (fun _ _ => rfl)) pe_int) (pg_sub (pv 0) pe_int set_list))
      (pss_cons (ps_if (pt_cmpR op_gt (pe_ix ix_list (pv 0) pe_int (fun _ _ => rfl)) (pe_callB call_len_seq (by rfl) T.len PySem.boot_len (pa_cons (pe_ix ix_list (pv 0) pe_int (fun _ _ => rfl)) pa_nil)) (nomark _))
        (pss_cons (ps_asg (pe_op op_mod (pe_callTy call_int1 (by rfl) T.int (by decide +kernel) (pa_cons (pe_op op_add (pe_op op_mul (pe_ix ix_list (pv 0) pe_int (fun _ _ => rfl)) pe_int) pe_int) pa_nil)) pe_int) (pg_sub (pv 0) pe_int set_list))
        (pss_one (ps_ret (pe_op op_mod (pe_callTy call_int1 (by rfl) T.int (by decide +kernel) (pa_cons (pe_op op_fdiv (pe_ix ix_list (pv 0) pe_int (fun _ _ => rfl)) pe_int) pa_nil)) (pv 1))))) pss_nil)
      (pss_cons (ps_set (i := 3) scTaken.nd rfl (.inl rfl) (pe_ix ix_list (pe_ix ix_list (pv 0) pe_int (fun _ _ => rfl)) (pe_op op_sub (pe_ix ix_list (pv 0) pe_int (fun _ _ => rfl)) pe_int) (fun _ _ => rfl)))
      (pss_cons (ps_asg (pe_op op_mod (pe_callTy call_int1 (by rfl) T.int (by decide +kernel) (pa_cons (pe_op op_add (pe_op op_add (pe_op op_mul (pe_ix ix_list (pv 0) pe_int (fun _ _ => rfl)) pe_int) (pv 3)) pe_int) pa_nil)) pe_int) (pg_sub (pv 0) pe_int set_list))
      (pss_cons (ps_if (pt_cmpR op_ge (pv 3) (pe_op op_pow pe_int pe_int) (nomark _)) (pss_one (ps_asg (pe_op op_fdivW (pv 3) (pv 1)) (pg_sub (pv 0) pe_int set_list))) pss_nil)
      (pss_one (ps_ret (pe_op op_mod (pe_callTy call_int1 (by rfl) T.int (by decide +kernel) (pa_cons (pv 3) pa_nil)) (pv 1))))))))), ?_⟩
    refine ⟨_, rfl, r, _, _, .int e, rfl, rfl, SqL.of hR, rfl, _, _, rfl, rfl, _, rfl, ?_⟩
    refine ite2 (fun z => ?_) (fun _ => ?_)
    · refine ⟨_, rfl, r, _, _, .int e, rfl, rfl, SqL.of hR, rfl, .inl ⟨_, rfl, _, rfl, _, _, rfl, rfl, (by omega), ?_⟩⟩
      refine ⟨_, rfl, r, _, _, .int e, rfl, rfl, SqL.of hR, rfl, _, rfl, _, _, rfl, rfl, dv, ?_⟩
      refine ⟨_, rfl, r, _, _, 3, rfl, rfl, hR, rfl, _, rfl, ?_⟩
      exact k _ _ (Int.emod_nonneg _ (by omega)) (Int.emod_lt_of_pos _ (by omega)) ⟨⟨i, m, e / many, upd_same, hi, hm0, hm, Int.ediv_nonneg he (by omega)⟩⟩ but_upd
    · refine ⟨_, rfl, r, _, _, .int i, rfl, rfl, SqL.of hR, rfl, _, _, rfl, rfl, ?_⟩
      refine ⟨_, rfl, r, _, _, 1, rfl, rfl, hR, rfl, ?_⟩
      have S1 : SqL K (upd H r (.lst [.ref sc, .int (i + 1), .int m, .int e])) sc (ns.map V.int) := but_upd.seqR R S
      refine ⟨_, rfl, r, _, _, .int (i + 1), rfl, rfl, SqL.of upd_same, rfl, ?_⟩
      refine ⟨_, rfl, r, _, _, .ref sc, rfl, rfl, SqL.of upd_same, rfl, sc, _, rfl, .inl S1, _, _, rfl, rfl, _, rfl, ?_⟩
      refine ite2 (fun z => ?_) (fun z => ?_)
      · refine ⟨_, rfl, r, _, _, .int m, rfl, rfl, SqL.of upd_same, rfl, _, _, rfl, rfl, .inl ⟨by omega, by omega⟩, _, _, rfl, rfl, .inl ⟨_, rfl, _, _, rfl, rfl, (by show (0 : Int) < 2147483647; decide), ?_⟩⟩
        refine ⟨_, rfl, r, _, _, 2, rfl, rfl, upd_same, rfl, ?_⟩
        refine ⟨_, rfl, r, _, _, .int ((m * 48271 + 11) % 2147483647), rfl, rfl, SqL.of upd_same, rfl, _, _, rfl, rfl, ⟨by decide, by decide⟩, .inl ⟨_, rfl, _, rfl, _, _, rfl, rfl, (by omega), ?_⟩⟩
        refine k _ _ (Int.emod_nonneg _ (by omega)) (Int.emod_lt_of_pos _ (by omega)) ⟨⟨i + 1, (m * 48271 + 11) % 2147483647, e, upd_same, by omega, Int.emod_nonneg _ (by decide), Int.emod_lt_of_pos _ (by decide), he⟩⟩ (but_upd.trans but_upd)
      · have hlt : i < ns.length := by
          have := of_decide_eq_false (by simpa using z : decide ((ns.map V.int).length < i + 1) = false)
          rw [List.length_map] at this
          omega
        have hc : ∃ c, ns[i.toNat]? = some c := ⟨ns[i.toNat]'(by omega), List.getElem?_eq_getElem (by omega)⟩
        obtain ⟨c, hc⟩ := hc
        have hat : atI (ns.map V.int) ((i + 1) - 1) = some (.int c) := by
          have e1 : (i + 1) - 1 = ((i.toNat : Nat) : Int) := by omega
          rw [e1]
          exact atI_nat (by rw [List.getElem?_map, hc]; rfl)
        refine ⟨_, rfl, r, _, _, .ref sc, rfl, rfl, SqL.of upd_same, rfl, _, rfl, r, _, _, .int (i + 1), rfl, rfl, SqL.of upd_same, rfl, _, _, rfl, rfl, sc, _, _, .int c, rfl, rfl, S1, hat, ?_⟩
        refine ⟨_, rfl, r, _, _, .int m, rfl, rfl, SqL.of upd_same, rfl, _, _, rfl, rfl, .inl ⟨by omega, by omega⟩, _, rfl, _, _, rfl, rfl, _, _, rfl, rfl, .inl ⟨_, rfl, _, _, rfl, rfl, (by show (0 : Int) < 2147483647; decide), ?_⟩⟩
        refine ⟨_, rfl, r, _, _, 2, rfl, rfl, upd_same, rfl, ?_⟩
        refine ⟨_, rfl, _, _, rfl, rfl, ⟨by decide, by decide, by decide⟩, _, _, rfl, rfl, _, rfl, ?_⟩
        have m1 := Int.emod_nonneg (m * 48271 + c + 11) (show (2147483647 : Int) ≠ 0 by decide)
        have m2 := Int.emod_lt_of_pos (m * 48271 + c + 11) (show (0 : Int) < 2147483647 by decide)
        have v1 := Int.emod_nonneg c (show many ≠ 0 by omega)
        have v2 := Int.emod_lt_of_pos c (show 0 < many by omega)
        refine ite2 (fun z => ?_) (fun _ => ?_)
        · have hc0 : (10 : Int) ^ (18 : Int).toNat ≤ c := of_decide_eq_true z
          have hc1 : 0 ≤ c := by
            have : (0 : Int) ≤ (10 : Int) ^ (18 : Int).toNat := by decide
            omega
          refine ⟨_, rfl, _, rfl, _, _, rfl, rfl, wide_div (b := 10) (by omega) (by omega) (by decide) (by decide), ?_⟩
          refine ⟨_, rfl, r, _, _, 3, rfl, rfl, upd_same, rfl, ?_⟩
          refine ⟨_, rfl, .inl ⟨_, rfl, _, rfl, _, _, rfl, rfl, (by omega), ?_⟩⟩
          exact k _ _ v1 v2 ⟨⟨i + 1, _, c / many, upd_same, by omega, m1, m2, Int.ediv_nonneg hc1 (by omega)⟩⟩ ((but_upd.trans but_upd).trans but_upd)
        · refine ⟨_, rfl, .inl ⟨_, rfl, _, rfl, _, _, rfl, rfl, (by omega), ?_⟩⟩
          exact k _ _ v1 v2 ⟨⟨i + 1, _, e, upd_same, by omega, m1, m2, he⟩⟩ (but_upd.trans but_upd)
end
end DL

set_option Elab.async false
set_option maxRecDepth 100000
namespace DL
open PySem L2
theorem keys_put {kvs : List (List Key × V)} {bs : List Bar} {b : Bar} (v : V) (h : kvs.map (·.1) = bs.map Bar.key) (hn : bs.Nodup) :
    ∃ bs' : List Bar, (putK kvs b.key v).map (·.1) = bs'.map Bar.key ∧ bs'.Nodup ∧ (∀ x ∈ bs', x = b ∨ x ∈ bs) ∧ bs'.length ≤ bs.length + 1 := by
  unfold putK
  by_cases e : (kvs.any fun kv => decide (kv.1 = b.key)) = true
  · rw [if_pos e]
    refine ⟨bs, ?_, hn, fun x hx => .inr hx, Nat.le_succ _⟩
    rw [← h, List.map_map]
    refine List.map_congr_left fun kv _ => ?_
    show (if kv.1 = b.key then (kv.1, v) else kv).1 = kv.1
    by_cases q : kv.1 = b.key
    · rw [if_pos q]
    · rw [if_neg q]
  · rw [if_neg e]
    have hnot : b ∉ bs := fun hm => e (by
      rw [List.any_eq_true]
      have : b.key ∈ kvs.map (·.1) := by rw [h]; exact List.mem_map.mpr ⟨b, hm, rfl⟩
      obtain ⟨kv, hkv, q⟩ := List.mem_map.mp this
      exact ⟨kv, hkv, decide_eq_true q⟩)
    refine ⟨bs ++ [b], by rw [List.map_append, List.map_append, h]; rfl, ?_, fun x hx => ?_, by simp⟩
    · rw [List.nodup_append]
      refine ⟨hn, List.nodup_cons.mpr ⟨by simp, List.nodup_nil⟩, fun x hx y hy => ?_⟩
      rw [List.mem_singleton.mp hy]
      exact fun q => hnot (q ▸ hx)
    · rcases List.mem_append.mp hx with hx | hx
      · exact .inr hx
      · exact .inl (List.mem_singleton.mp hx)
theorem asc_of {n : Int} (hn : n ≤ 7) {xs bs : List Bar} (hp : xs.Perm bs) (hs : xs.Pairwise fun x y => x.code ≤ y.code) (hd : bs.Nodup) (ho : ∀ b ∈ bs, b.ok n) : OkBars n xs := by
  have hx : ∀ b ∈ xs, b.ok n := fun b hb => ho b (hp.mem_iff.mp hb)
  refine ⟨hx, ?_⟩
  have hd' : xs.Nodup := hp.nodup_iff.mpr hd
  have := hs.and hd'
  refine List.Pairwise.imp_of_mem (fun {a b} ha hb q => ?_) this
  obtain ⟨q1, q2⟩ := q
  rcases Int.lt_or_eq_of_le q1 with z | z
  · exact z
  · exact absurd (Bar.code_inj ((hx a ha).low hn) ((hx b hb).low hn) z) q2
structure spParts (K : PySem.W.Frag) (vs : List V) (H : Hp) (Q : VK) (_ : XK) : Prop where
  h : ∃ (r sc : Addr) (ns : List Int) (most : Int), vs = [.ref r, .int most] ∧ RowOk H r sc ∧ SqL K H sc (ns.map V.int) ∧ 1 ≤ most ∧ most ≤ 7 ∧
    ∀ (p t : Addr) (n : Int) (ks : List (Addr × Bar)) (H' : Hp), H p = none → H t = none → 1 ≤ n → n ≤ most → H' p = some (.lst [.int n, .ref t]) → BarsAt H' t ks → OkBars n (ks.map (·.2)) → ks.length ≤ 13 → RowOk H' r sc → But r H H' → Q (.ref p) H'
theorem three_at {v : Int} (h0 : 0 ≤ v) (h3 : v < 3) : ∃ c : Int, atI [V.int 3, V.int 6, V.int 14] v = some (.int c) ∧ 1 ≤ c ∧ c ≤ 14 := by
  have : v = 0 ∨ v = 1 ∨ v = 2 := by omega
  rcases this with rfl | rfl | rfl
  · exact ⟨3, rfl, by decide, by decide⟩
  · exact ⟨6, rfl, by decide, by decide⟩
  · exact ⟨14, rfl, by decide, by decide⟩
theorem two_at {v : Int} (h0 : 0 ≤ v) (h3 : v < 2) : ∃ c : Bool, atI [V.str "open", V.str "shut"] v = some (.str (wd c)) := by
  have : v = 0 ∨ v = 1 := by omega
  rcases this with rfl | rfl
  · exact ⟨false, rfl⟩
  · exact ⟨true, rfl⟩
section
variable {P : Program} {w : World} {K : PySem.W.Frag} {mg : Str → Option Value} {base : Heap}
theorem scParts : FnScope ["_law_row", "_law_most", "_law_many", "_law_found", "_law_k", "_law_drawer", "_law_other", "_law_way", "_law_stand"] ["_law_row", "_law_most"] (defScope sParts) := ⟨rfl, rfl, rfl, by decide +kernel, rfl, by decide +kernel, by decide +kernel⟩
theorem ok_parts {f f1 : Addr} {fd fd1 : FuncData} (F : Fun K "_law_parts" "_law_parts" sParts f fd) (T : Bt mg) (G : FnOk P w K mg base CX0 1 f1 fd1 ["_law_row", "_law_many"] (spTaken K)) (g1 : mg "_law_taken" = some (.ref f1)) (k1 : PySem.W.keepIn K (.ref f1) = true) (b1 : Binds K fd1 ["_law_row", "_law_many"] []) :
    FnOk P w K mg base CX0 2 f fd ["_law_row", "_law_most"] (spParts K) := by
  refine F.ok scParts (fun vs H Q E h => ?_) (fun cdv A outer s H vs Q E hr h => ?_)
  · obtain ⟨r, sc, ns, most, rfl, _⟩ := h.h
    rfl
  · obtain ⟨r, sc, ns, most, rfl, R, S, h1, h7, k⟩ := h.h
    have hu := hu_of hr
    obtain ⟨i0, m0, e0, hR0, _⟩ := id R.h
    refine ⟨_, pss_cons (ps_par (i := 2) (j := 3) (by rfl) scParts.nd rfl rfl (by decide) rfl rfl (pa_cons (pe_op op_add pe_int (pe_call G (hr.mono (by decide)) rfl g1 k1 b1 .nil pass0 (pa_cons (pv 0) (pa_cons (pv 1) pa_nil)))) (pa_cons pe_dnewT pa_nil)) (by rfl))
      (pss_cons (ps_for PassesOwn.never rfl (pi_range1 (by rfl) T.range (pa_cons (pe_call G (hr.mono (by decide)) rfl g1 k1 b1 .nil pass0 (pa_cons (pv 0) (pa_cons (pe_ix ix_list (pe_lst (pa_cons pe_int (pa_cons pe_int (pa_cons pe_int pa_nil)))) (pe_call G (hr.mono (by decide)) rfl g1 k1 b1 .nil pass0 (pa_cons (pv 0) (pa_cons pe_int pa_nil))) (fun _ _ => rfl)) pa_nil))) pa_nil)) (pg_name (i := 4) scParts.nd rfl (.inl rfl))
        (pss_cons (ps_par (i := 5) (j := 6) (by rfl) scParts.nd rfl rfl (by decide) rfl rfl (pa_cons (pe_call G (hr.mono (by decide)) rfl g1 k1 b1 .nil pass0 (pa_cons (pv 0) (pa_cons (pv 2) pa_nil))) (pa_cons (pe_call G (hr.mono (by decide)) rfl g1 k1 b1 .nil pass0 (pa_cons (pv 0) (pa_cons (pv 2) pa_nil))) pa_nil)) (by rfl))
        (pss_one (ps_if (pt_cmpR op_ne (pv 5) (pv 6) (nomark _))
          (pss_cons (ps_par (i := 7) (j := 8) (by rfl) scParts.nd rfl rfl (by decide) rfl rfl (pa_cons (pe_ix ix_list (pe_lst (pa_cons pe_str (pa_cons pe_str pa_nil))) (pe_op op_fdiv (pe_call G (hr.mono (by decide)) rfl g1 k1 b1 .nil pass0 (pa_cons (pv 0) (pa_cons pe_int pa_nil))) pe_int) (fun _ _ => rfl))
            (pa_cons (pe_ix ix_list (pe_lst (pa_cons pe_str (pa_cons pe_str pa_nil))) (pe_call G (hr.mono (by decide)) rfl g1 k1 b1 .nil pass0 (pa_cons (pv 0) (pa_cons pe_int pa_nil))) (fun _ _ => rfl)) pa_nil)) (by rfl))
          (pss_one (ps_dput hu (pv 3) (pe_tup (pa_cons (pv 5) (pa_cons (pv 7) (pa_cons (pv 6) (pa_cons (pv 8) pa_nil))))) pe_bl rfl))) pss_nil))))
      (pss_one (ps_ret (pe_lst (pa_cons (pv 2) (pa_cons (pe_callTy call_tuple_of (by rfl) T.tuple (by decide +kernel) (pa_cons (pe_callB (cr_sortB (by rfl)) (by rfl) T.sorted (by decide +kernel) (pa_cons (pv 3) pa_nil)) pa_nil)) pa_nil)))))), ?_⟩
    -- many, found
    refine ⟨_, rfl, _, rfl, ⟨⟨r, sc, ns, most, rfl, R, S, h1, by omega, fun v H1 v0 v1 R1 B1 => ?_⟩⟩⟩
    refine ⟨_, _, rfl, rfl, fun d hd => ⟨_, _, rfl, ?_⟩⟩
    obtain ⟨i1, m1, e1, hR1, _⟩ := id R1.h
    have ndr : d ≠ r := (ne_of_none hR1 hd).symm
    have hd0 : H d = none := by
      cases q : H d with
      | none => rfl
      | some o =>
        rw [B1 d o ndr q] at hd
        cases hd
    have R2 : RowOk (upd H1 d (.dT [])) r sc := R1.same (same_upd hd)
    have B2 : But r H (upd H1 d (.dT [])) := B1.trans (sbut (same_upd hd))
    -- range(..)
    refine ⟨_, rfl, (by show 3 ≤ sizeLine; decide), fun l hl => ?_⟩
    have nlr : l ≠ r := by
      obtain ⟨_, _, _, q, _⟩ := id R2.h
      exact (ne_of_none q hl).symm
    have R3 := R2.same (same_upd (o := .lst [V.int 3, V.int 6, V.int 14]) hl)
    have B3 : But r H _ := B2.trans (sbut (same_upd (o := .lst [V.int 3, V.int 6, V.int 14]) hl))
    refine ⟨_, rfl, ⟨⟨r, sc, ns, 3, rfl, R3, B3.seqR R S, by decide, by decide, fun v2 H3 w0 w1 R4 B4 => ?_⟩⟩⟩
    obtain ⟨c, hc, c1, c14⟩ := three_at w0 w1
    refine ⟨l, _, v2, .int c, rfl, rfl, SqL.of (B4 _ _ nlr upd_same), hc, ?_⟩
    have B5 : But r H H3 := B3.trans B4
    refine ⟨⟨r, sc, ns, c, rfl, R4, B5.seqR R S, c1, by omega, fun v3 H4 x0 x1 R5 B6 => ?_⟩⟩
    refine ⟨v3, rfl, by omega, by omega, ?_⟩
    have B7 : But r H H4 := B5.trans B6
    have hd4 : H4 d = some (.dT []) := B6 _ _ ndr (B4 _ _ ndr (by rw [upd_ne (ne_of_none (upd_same (H := H1) (a := d)) hl)]; exact upd_same))
    refine for_range (lo := 0) (n := v3.toNat) (fun i σ H5 => ∃ (kvs : List (List Key × V)) (bs : List Bar) (u4 u5 u6 u7 u8 : Option V), σ = [some (.ref r), some (.int most), some (.int (1 + v)), some (.ref d), u4, u5, u6, u7, u8] ∧ H5 d = some (.dT kvs) ∧ kvs.map (·.1) = bs.map Bar.key ∧ bs.Nodup ∧ (∀ b ∈ bs, b.ok (1 + v)) ∧ bs.length ≤ i ∧ RowOk H5 r sc ∧ But r H H5)
      ⟨[], [], _, _, _, _, _, rfl, hd4, rfl, List.nodup_nil, fun b hb => by simp at hb, Nat.le_refl _, R5, B7⟩ ?_ ?_
    · rintro i σ H5 hi ⟨kvs, bs, u4, u5, u6, u7, u8, rfl, hD, hk, hnd, hok, hlen, R6, B8⟩
      refine ⟨_, rfl, _, rfl, ⟨⟨r, sc, ns, 1 + v, rfl, R6, B8.seqR R S, by omega, by omega, fun a H6 a0 a1 R7 B9 => ?_⟩⟩⟩
      refine ⟨_, rfl, _, rfl, ⟨⟨r, sc, ns, 1 + v, rfl, R7, (B8.trans B9).seqR R S, by omega, by omega, fun o H7 o0 o1 R8 B10 => ?_⟩⟩⟩
      have hD7 : H7 d = some (.dT kvs) := B10 _ _ ndr (B9 _ _ ndr hD)
      have B11 : But r H H7 := (B8.trans B9).trans B10
      refine ⟨_, _, rfl, _, rfl, _, rfl, rfl, _, rfl, ?_⟩
      refine ite2 (fun z => ?_) (fun _ => ?_)
      · have hao : a ≠ o := fun q => by subst q; simp at z
        refine ⟨(by show 2 ≤ sizeLine; decide), fun l1 hl1 => ?_⟩
        have R9 := R8.same (same_upd (o := .lst [V.str "open", V.str "shut"]) hl1)
        have nl1 : l1 ≠ r := by
          obtain ⟨_, _, _, q, _⟩ := id R8.h
          exact (ne_of_none q hl1).symm
        refine ⟨_, rfl, ⟨⟨r, sc, ns, 3, rfl, R9, (B11.trans (sbut (same_upd hl1))).seqR R S, by decide, by decide, fun y H8 y0 y1 R10 B12 => ?_⟩⟩⟩
        obtain ⟨cw, hcw⟩ := two_at (v := y / 2) (by omega) (by omega)
        refine ⟨_, _, rfl, rfl, ⟨by decide, by decide⟩, l1, _, _, _, rfl, rfl, SqL.of (B12 _ _ nl1 upd_same), hcw, ?_⟩
        refine ⟨(by show 2 ≤ sizeLine; decide), fun l2 hl2 => ?_⟩
        have R11 := R10.same (same_upd (o := .lst [V.str "open", V.str "shut"]) hl2)
        have nl2 : l2 ≠ r := by
          obtain ⟨_, _, _, q, _⟩ := id R10.h
          exact (ne_of_none q hl2).symm
        have B13 : But r H7 (upd H8 l2 (.lst [V.str "open", V.str "shut"])) := ((sbut (same_upd hl1)).trans B12).trans (sbut (same_upd hl2))
        refine ⟨_, rfl, ⟨⟨r, sc, ns, 2, rfl, R11, (B11.trans B13).seqR R S, by decide, by decide, fun y2 H9 z0 z1 R12 B14 => ?_⟩⟩⟩
        obtain ⟨ct, hct⟩ := two_at z0 z1
        refine ⟨l2, _, _, _, rfl, rfl, SqL.of (B14 _ _ nl2 upd_same), hct, ?_⟩
        have B15 : But r H7 H9 := B13.trans B14
        have hD9 : H9 d = some (.dT kvs) := B15 _ _ ndr hD7
        refine ⟨_, _, rfl, _, rfl, _, rfl, _, rfl, _, rfl, _, rfl, (by show 4 ≤ sizeLine; decide), fun q hq => ?_⟩
        have hlen2 : kvs.length = bs.length := by
          have := congrArg List.length hk
          rw [List.length_map, List.length_map] at this
          exact this
        refine ⟨d, _, rfl, DPut.t (k := (⟨a, cw, o, ct⟩ : Bar).key) (by rw [upd_ne (ne_of_none hD9 hq)]; exact hD9) upd_same (by rw [hlen2]; exact small1000 (by omega)), ?_⟩
        obtain ⟨bs', g1', g2', g3', g4'⟩ := keys_put (b := ⟨a, cw, o, ct⟩) (.bl true) hk hnd
        have nqr : q ≠ r := by
          obtain ⟨_, _, _, q', _⟩ := id R12.h
          exact (ne_of_none q' hq).symm
        refine ⟨_, bs', _, _, _, _, _, rfl, upd_same, g1', g2', fun b hb => ?_, by omega, ?_, ?_⟩
        · rcases g3' b hb with rfl | hb
          · exact ⟨a0, a1, o0, o1, hao⟩
          · exact hok b hb
        · obtain ⟨i', m', e', q1, q2⟩ := (R12.same (same_upd (o := .tup (⟨a, cw, o, ct⟩ : Bar).vs) hq)).h
          exact ⟨⟨i', m', e', by rw [upd_ne (Ne.symm ndr)]; exact q1, q2⟩⟩
        · refine fun c u hc hH => ?_
          have hcd : c ≠ d := fun z' => by rw [z', hd0] at hH; cases hH
          rw [upd_ne hcd]
          exact same_upd hq _ _ (B15 _ _ hc (B11 _ _ hc hH))
      · exact ⟨kvs, bs, _, _, _, _, _, rfl, hD7, hk, hnd, hok, by omega, R8, B11⟩
    · rintro σ H5 ⟨kvs, bs, u4, u5, u6, u7, u8, rfl, hD, hk, hnd, hok, hlen, R6, B8⟩
      refine ⟨_, rfl, _, rfl, d, kvs, bs, rfl, .inl hD, hk, fun b hb => (hok b hb).low (by omega), fun ks p g1' g2' g3' hp => ?_⟩
      refine ⟨p, _, rfl, .inl ⟨SqL.of upd_same, fun t ht => ?_⟩⟩
      refine ⟨(by show 2 ≤ sizeLine; decide), fun q hq => ?_⟩
      have sp : Same H5 (upd H5 p (.lst (ks.map fun k => V.ref k.1))) := same_upd hp
      have st : Same H5 (upd (upd H5 p (.lst (ks.map fun k => V.ref k.1))) t (.tup (ks.map fun k => V.ref k.1))) := sp.trans (same_upd ht)
      have sq : Same H5 _ := st.trans (same_upd (o := .lst [.int (1 + v), .ref t]) hq)
      obtain ⟨i', m', e', qR, _⟩ := id R6.h
      have nfree : ∀ {c : Addr}, H5 c = none → H c = none := fun {c} hc => by
        cases q' : H c with
        | none => rfl
        | some o =>
          have ncr : c ≠ r := fun z => by rw [z, qR] at hc; cases hc
          rw [B8 c o ncr q'] at hc
          cases hc
      refine k q t (1 + v) ks _ (nfree (st.free hq)) (nfree (sp.free ht)) (by omega) (by omega) upd_same ⟨by rw [upd_ne (ne_of_none upd_same hq)]; exact upd_same, fun kk hkk => sq _ _ (g1' kk hkk)⟩
        (asc_of (by omega) g2' g3' hnd hok) ?_ (R6.same sq) (B8.trans (sbut sq))
      have := g2'.length_eq
      rw [List.length_map] at this
      omega
/-! ### the cabinet of a draw -/
end
end DL

set_option Elab.async false
set_option maxRecDepth 100000
namespace DL
open PySem L2
/-! ### rules with the written part named, for blocks within blocks -/
theorem ix_tupK {X : Cx} {K : PySem.W.Frag} (hK : X.K = K) : IxR X (rIxT K) := by subst hK; exact ix_tup
end DL

set_option Elab.async false
set_option maxRecDepth 100000
namespace DL
open PySem L2 HT TL
/-! ### standings: a truth value a drawer (true: open) -/
def sg (b : Bool) : Nat := if b = true then 111 else 115
def sstr (st : List Bool) : Str := ⟨(st.map sg).toArray⟩
def sat (st : List Bool) (i : Int) : Bool := st.getD i.toNat false
def sgn (b : Bool) : Str := if b = true then "s" else "o"
/-- whether the bar stands against the pull -/
def hind (b : Bar) (st : List Bool) (d : Int) : Bool := decide (b.d = d) && ((sat st d == b.w) && (sat st b.o == b.t))
def goesB (bs : List Bar) (st : List Bool) (d : Int) : Bool := !(bs.any fun b => hind b st d)
def flip (st : List Bool) (d : Int) : List Bool := st.set d.toNat (!sat st d)
theorem flip_len (st : List Bool) (d : Int) : (flip st d).length = st.length := by unfold flip; rw [List.length_set]
def drs (n : Nat) : List Int := (List.range n).map fun (i : Nat) => (i : Int)
def freeL (bs : List Bar) (st : List Bool) : List Int := (drs st.length).filter fun d => goesB bs st d
/-- the table of signs -/
structure SgT (K : PySem.W.Frag) (w : World) (mg : Str → Option Value) (aS : Addr) : Prop where
  g : mg "SIGNS" = some (.ref aS)
  o : KDct K w aS "open" (.str "o")
  s : KDct K w aS "shut" (.str "s")
theorem SgT.at {K : PySem.W.Frag} {w : World} {mg : Str → Option Value} {aS : Addr} (T : SgT K w mg aS) (b : Bool) : KDct K w aS (wd b) (.str (sgn b)) := by
  cases b
  · exact T.o
  · exact T.s
end DL

set_option Elab.async false
set_option maxRecDepth 100000
namespace DL
open PySem L2 HT TL
theorem new_at {H : Hp} {a : Addr} {o : HO} (h : H a = none) : Same H (upd H a o) ∧ (upd H a o) a = some o := ⟨same_upd h, upd_same⟩
/-! ### comprehensions that pick, in one word -/
theorem take_pick {α : Type} (p : α → Bool) (v : α → V) {l : List α} {i : Nat} {z : α} (h : l[i]? = some z) :
    ((l.take (i + 1)).filter p).map v = if p z = true then ((l.take i).filter p).map v ++ [v z] else ((l.take i).filter p).map v := by
  obtain ⟨hl, e⟩ := List.getElem?_eq_some_iff.mp h
  rw [List.take_succ_eq_append_getElem hl, List.filter_append, e]
  by_cases q : p z = true
  · rw [if_pos q, List.filter_cons_of_pos q, List.filter_nil, List.map_append]
    rfl
  · rw [if_neg q, List.filter_cons_of_neg q, List.filter_nil, List.append_nil]
theorem lc_pick {α : Type} {J : It} {n : Nat} {G : Hp → Prop} {Y : Nat → Hp → V → Hp → Prop} (wk : Walk J n G Y) (l : List α) (hl : l.length = n) (hn : n ≤ 3000) (p : α → Bool) (v : α → V) {g : TG} {tt : TT} {te : TE} {vs : List Nat} {σ : L2.St} {H1 : Hp} {D : Addr} {Qd : Hp → Prop}
    (hD : H1 D = none) (hG : ∀ H, Same H1 H → G H)
    (hs : ∀ i x z H H' (Tk : V → Hp → Prop) (Nk : Hp → Prop), l[i]? = some z → Same H1 H → Y i H x H' → (∀ H4, p z = true → Same H H4 → Tk (v z) H4) → (∀ H4, p z = false → Same H H4 → Nk H4) →
      g x (wipe σ vs) H' fun σ2 H2 => wipe σ2 vs = wipe σ vs ∧ tt σ2 H2 fun b H3 => if b = true then te σ2 H3 Tk else Nk H3)
    (hd : ∀ H, Same H1 H → H D = some (.lst ((l.filter p).map v)) → Qd H) :
    ∃ W : Nat → Nat → Hp → Prop, (∃ m, W 0 m (upd H1 D (.lst []))) ∧ ∀ i m H, W i m H →
      (J.stop i H ∧ Qd H) ∨ (J.go i H ∧ ∃ Nx : Hp → Prop, (∀ H', Nx H' → ∃ m', m' < m ∧ W (i + 1) m' H') ∧ ∀ x H', J.yld i H x H' → g x (wipe σ vs) H' fun σ2 H2 => wipe σ2 vs = wipe σ vs ∧ tt σ2 H2 fun b H3 =>
        if b = true then te σ2 H3 fun y H4 => ∃ acc, H4 D = some (.lst acc) ∧ acc.length < sizeLine ∧ Nx (upd H4 D (.lst (acc ++ [y]))) else Nx H3) := by
  refine lc_it wk (fun i H' => Same H1 H' ∧ H' D = some (.lst (((l.take i).filter p).map v))) ⟨same_upd hD, upd_same⟩ (fun i H' _ q => hG H' q.1) ?_ ?_
  · rintro i x H H' hi ⟨s1, hD1⟩ y
    have hi' : i < l.length := by omega
    have ez : l[i]? = some l[i] := List.getElem?_eq_getElem hi'
    refine hs i x l[i] H H' _ _ ez s1 y (fun H4 hp s4 => ?_) (fun H4 hp s4 => ?_)
    · refine ⟨_, s4 _ _ hD1, ?_, fun b o e => ?_, ?_⟩
      · rw [List.length_map]
        have h1 := List.length_filter_le p (l.take i)
        rw [List.length_take] at h1
        have h2 : (3000 : Nat) < sizeLine := by decide
        omega
      · rw [upd_ne (ne_of_none e hD)]
        exact s4 _ _ (s1 b o e)
      · rw [upd_same, take_pick p v ez, if_pos hp]
    · refine ⟨s1.trans s4, ?_⟩
      rw [take_pick p v ez, if_neg (by rw [hp]; exact Bool.false_ne_true)]
      exact s4 _ _ hD1
  · rintro H ⟨s1, hD1⟩
    rw [← hl, List.take_length] at hD1
    exact hd H s1 hD1
/-! ### walks over the bars of a tuple -/
end DL

set_option Elab.async false
set_option maxRecDepth 100000
namespace DL
open PySem L2 HT TL
structure CabOk (C : Addr) (H : Hp) (c : Addr) (n : Int) (bs : List Bar) : Prop where
  h : ∃ (t : Addr) (ks : List (Addr × Bar)), CabAt C H c n t ∧ BarsAt H t ks ∧ ks.map (·.2) = bs ∧ OkBars n bs ∧ 1 ≤ n ∧ n ≤ 7 ∧ bs.length ≤ 100
theorem tYes_of {σ : L2.St} {H : Hp} {Q : Bool → Hp → Prop} (h : Q true H) : tYes σ H Q := h
theorem CabOk.same {C : Addr} {H H' : Hp} {c : Addr} {n : Int} {bs : List Bar} (B : CabOk C H c n bs) (s : Same H H') : CabOk C H' c n bs := by
  obtain ⟨t, ks, ⟨dx, h1⟩, h2, h3⟩ := B.h
  exact ⟨⟨t, ks, ⟨dx, s _ _ h1⟩, h2.same s, h3⟩⟩
end DL

set_option Elab.async false
set_option maxRecDepth 100000
namespace DL
open PySem L2 HT TL
/-- a drawn cabinet's parts: the list at p -/
structure DrOk (H : Hp) (p : Addr) (n : Int) (bs : List Bar) : Prop where
  h : ∃ (t : Addr) (ks : List (Addr × Bar)) (zs : List V), H p = some (.lst (.int n :: .ref t :: zs)) ∧ BarsAt H t ks ∧ ks.map (·.2) = bs ∧ OkBars n bs ∧ 1 ≤ n ∧ n ≤ 7 ∧ bs.length ≤ 100
theorem DrOk.same {H H' : Hp} {p : Addr} {n : Int} {bs : List Bar} (B : DrOk H p n bs) (s : Same H H') : DrOk H' p n bs := by
  obtain ⟨t, ks, zs, h1, h2, h3⟩ := B.h
  exact ⟨⟨t, ks, zs, s _ _ h1, h2.same s, h3⟩⟩
end DL

set_option Elab.async false
set_option maxRecDepth 100000

set_option Elab.async false
set_option maxRecDepth 100000
namespace DL
open PySem L2 HT TL
/-! ### plain data: what == sees -/
/-- data of so many levels at most, whose texts are texts -/
def dok (k : Nat) (d : PyData) : Prop := d.canLay0 = true ∧ d.depth ≤ k
theorem dok_shaped {k : Nat} {d : PyData} (h : dok k d) (hk : k ≤ 64) : SeqAt.shaped d = true := by
  unfold SeqAt.shaped
  rw [h.1, decide_eq_true (Nat.le_trans h.2 hk)]
  rfl
theorem dok_all {k : Nat} : ∀ {ds : List PyData}, (∀ d ∈ ds, dok k d) → PyData.canLayAll0 ds = true ∧ PyData.depthAll ds ≤ k
  | [], _ => ⟨by simp [PyData.canLayAll0], by simp [PyData.depthAll]⟩
  | d :: ds, h => by
    obtain ⟨h1, h2⟩ := dok_all (ds := ds) fun e he => h e (List.mem_cons_of_mem _ he)
    obtain ⟨h3, h4⟩ := h d List.mem_cons_self
    refine ⟨by simp [PyData.canLayAll0, h1, h3], ?_⟩
    simp only [PyData.depthAll]
    omega
theorem dok_list {k : Nat} {ds : List PyData} (h : ∀ d ∈ ds, dok k d) : dok (k + 1) (.list ds) := by
  obtain ⟨h1, h2⟩ := dok_all h
  exact ⟨by simpa [PyData.canLay0] using h1, by simp only [PyData.depth]; omega⟩
theorem dok_int (i : Int) : dok 1 (.int i) := ⟨by simp [PyData.canLay0], by simp [PyData.depth]⟩
end DL
namespace DL
open PySem L2 HT TL
theorem dok_str {z : Str} (h : PyData.strOk z = true) : dok 1 (.str z) := ⟨by simpa [PyData.canLay0] using h, by simp [PyData.depth]⟩
theorem eqv_self {k : Nat} {d : PyData} (h : dok k d) : PyData.eqv d d = true := SeqAt.eqv_refl d h.1
end DL

set_option Elab.async false
set_option maxRecDepth 100000

set_option Elab.async false
set_option maxRecDepth 100000
set_option maxHeartbeats 1000000

set_option Elab.async false
set_option maxRecDepth 100000
namespace DL
open PySem L2
/-! ### what the top tells of own errors -/
/-- which clause takes an error of the class at S: the clause names the class at T -/
theorem exm_of {K : PySem.W.Frag} {S T : Addr} {r : Bool} (h1 : PySem.W.subIn K (.ref T) (.type "BaseException") = some true) (h2 : PySem.W.isClsIn K T = true) (h3 : PySem.W.typeIn K (.ref T) = some (.type "type")) (h4 : PySem.W.subIn K (.ref S) (.ref T) = some r) :
    PySem.W.exmOne K (.ref S) (.ref T) = some r := by
  have e1 : (PySem.W.subIn K (.ref T) (.type "BaseException") == some true) = true := by rw [h1] <;> rfl
  have e2 : ((PySem.W.clsIn K T).isSome && PySem.W.typeIn K (.ref T) == some (.type "type")) = true := by
    have h2' : (PySem.W.clsIn K T).isSome = true := h2
    rw [h2', h3] <;> rfl
  show (if (PySem.W.subIn K (.ref T) (.type "BaseException") == some true) = true then (if ((PySem.W.clsIn K T).isSome && PySem.W.typeIn K (.ref T) == some (.type "type")) = true then PySem.W.subIn K (.ref S) (.ref T) else none) else none) = some r
  rw [if_pos e1, if_pos e2]
  exact h4
theorem drop_self (C : Addr) (bm : List Value) : ((Value.ref C :: bm).dropWhile (· != Value.ref C)).drop 1 = bm := by
  have : (Value.ref C != Value.ref C) = false := by
    have e : (Value.ref C == Value.ref C) = true := by simp
    simp [bne, e]
  rw [List.dropWhile_cons, this]
  rfl
theorem mro_is {K : PySem.W.Frag} {nm q : Str} {C N : Addr} {bs bm : List Value} {hdct : Bool} {sn : List Str} {sub : List Value} {ab : Bool} {col : Option Bool} {dd : Option Addr} {k0 k1 k2 k3 k5 : Option Value} {x : Option (Option Value)}
    (h : K.lookup C = some (excClassObj nm q C N bs bm hdct sn sub ab col dd k0 k1 k2 k3 k5 "ValueError.__new__")) (al : PySem.W.alongIn K "__init__" bm = x) :
    ∃ cd, PySem.W.clsIn K C = some cd ∧ PySem.W.alongIn K "__init__" ((cd.mro.dropWhile (· != .ref C)).drop 1) = x := by
  refine ⟨_, by unfold PySem.W.clsIn; rw [h], ?_⟩
  exact (congrArg _ (drop_self C bm)).trans al
theorem bindsS {K : PySem.W.Frag} {fd : FuncData} {ps : List Str} (h : ∀ us : List Value, us.length = ps.length → bindArgs fd ⟨us, []⟩ = pure (ps.zip us)) : Binds K fd ps [] := .all h
end DL

set_option Elab.async false
set_option maxRecDepth 100000
set_option maxHeartbeats 1000000

set_option Elab.async false
set_option maxRecDepth 100000

set_option Elab.async false
set_option maxRecDepth 100000
namespace DL
open PySem L2 HT TL
/-! ### patterns and rows -/
theorem SqT.same {K : PySem.W.Frag} {H H' : Hp} {a : Addr} {xs : List V} (s : Same H H') (h : SqT K H a xs) : SqT K H' a xs := by
  rcases h with (h | ⟨o, h⟩) | h
  · exact .inl (.inl (s _ _ h))
  · exact .inl (.inr ⟨o, s _ _ h⟩)
  · exact .inr h
def runB (bs : List Bar) (st : List Bool) : List Int → Option (List Bool)
  | [] => some st
  | d :: ds => if goesB bs st d = true then runB bs (flip st d) ds else none
theorem runB_cons (bs : List Bar) (st : List Bool) (d : Int) (ds : List Int) : runB bs st (d :: ds) = if goesB bs st d = true then runB bs (flip st d) ds else none := rfl
end DL

set_option Elab.async false
set_option maxRecDepth 100000

set_option Elab.async false
set_option maxRecDepth 100000
namespace DL
open PySem L2 HT TL
/-! ### a drawn cabinet: its parts at p, itself at c; the row of draws at r -/
structure Lay (C r p c : Addr) (H : Hp) (n : Int) (bs : List Bar) : Prop where
  h : ∃ (t : Addr) (ks : List (Addr × Bar)) (zs : List V), H p = some (.lst (.int n :: .ref t :: zs)) ∧ CabAt C H c n t ∧ BarsAt H t ks ∧ ks.map (·.2) = bs ∧ OkBars n bs ∧ 1 ≤ n ∧ n ≤ 7 ∧ bs.length ≤ 100 ∧ p ≠ r
theorem Lay.but {C r sc p c : Addr} {H H' : Hp} {n : Int} {bs : List Bar} (L : Lay C r p c H n bs) (R : RowOk H r sc) (B : But r H H') : Lay C r p c H' n bs := by
  obtain ⟨t, ks, zs, h1, ⟨dx, h2⟩, h3, h4, h5, h6, h7, h8, h9⟩ := L.h
  obtain ⟨i, m, e, hR, _⟩ := R.h
  exact ⟨⟨t, ks, zs, B _ _ h9 h1, ⟨dx, B _ _ (ne_of h2 hR (by intro z; cases z)) h2⟩, ⟨B.tup hR h3.tu, fun k hk => B.tup hR (h3.el k hk)⟩, h4, h5, h6, h7, h8, h9⟩⟩
theorem Lay.same {C r p c : Addr} {H H' : Hp} {n : Int} {bs : List Bar} (L : Lay C r p c H n bs) (s : Same H H') : Lay C r p c H' n bs := by
  obtain ⟨t, ks, zs, h1, ⟨dx, h2⟩, h3, h4⟩ := L.h
  exact ⟨⟨t, ks, zs, s _ _ h1, ⟨dx, s _ _ h2⟩, h3.same s, h4⟩⟩
theorem Lay.n1 {C r p c : Addr} {H : Hp} {n : Int} {bs : List Bar} (L : Lay C r p c H n bs) : 1 ≤ n ∧ n ≤ 7 := by
  obtain ⟨t, ks, zs, h1, h2, h3, h4, h5, h6, h7, h8⟩ := L.h
  exact ⟨h6, h7⟩
theorem free_in {bs : List Bar} {st : List Bool} {d : Int} (h : d ∈ freeL bs st) : 0 ≤ d ∧ d < st.length := by
  have hm := (List.mem_filter.mp h).1
  unfold drs at hm
  obtain ⟨i, hi, rfl⟩ := List.mem_map.mp hm
  have := List.mem_range.mp hi
  omega
end DL

set_option Elab.async false
set_option maxRecDepth 100000
set_option maxHeartbeats 1000000
namespace DL
open PySem L2 HT TL
/-! ### forms of single values: standings, tries, whatever they are -/
def sgnB (n : Int) (z : Str) : V → Bool
  | .str y => decide ((y.length : Int) = n) && y.cps.toList.all fun c => decide (c ∈ z.cps.toList)
  | _ => false
end DL

set_option Elab.async false
set_option maxRecDepth 100000
namespace DL
open PySem L2 HT TL RZ
/-! ### sets of drawers -/
/-- a set: its drawers stand at a -/
structure SetAt (K : PySem.W.Frag) (H : Hp) (n : Int) (a : Addr) (ns : List Int) : Prop where
  at' : SqT K H a (ns.map V.int)
  low : ∀ d ∈ ns, 0 ≤ d ∧ d < n
  asc : ns.Pairwise (· < ·)
theorem SetAt.same {K : PySem.W.Frag} {H H' : Hp} {n : Int} {a : Addr} {ns : List Int} (S : SetAt K H n a ns) (s : Same H H') : SetAt K H' n a ns := ⟨SqT.same s S.at', S.low, S.asc⟩
end DL

set_option Elab.async false
set_option maxRecDepth 100000

set_option Elab.async false
set_option maxRecDepth 100000
set_option maxHeartbeats 1000000
namespace DL
open PySem PySem.Spec PyProof.Rows L2
/-! ### several clauses, with or without a name for the error -/
abbrev ClA := Value × Option Nat × (Addr → Value → Option Addr → TS)
def offI (i : Nat) (D : Ends) : Ends := { nx := fun σ H => D.nx (σ.set i none) H, rt := D.rt, bk := fun σ H => D.bk (σ.set i none) H, ct := fun σ H => D.ct (σ.set i none) H }
def runA (ts : Addr → Value → Option Addr → TS) (o : Option Nat) (a : Addr) (cls : Value) (d : Option Addr) (D : Ends) (σ : L2.St) (H : Hp) : Prop :=
  match o with
  | none => ts a cls d D σ H
  | some i => ts a cls d (offI i D) (σ.set i (some (.ref a))) H
def wAny (K : PySem.W.Frag) (Wout : WX) (D : Ends) : List ClA → WX
  | [] => Wout
  | (c, o, ts) :: r => fun cls d σ H => ∃ b, PySem.W.exmOne K cls c = some b ∧ (b = true → ∀ a, H a = none → runA ts o a cls d D σ H) ∧ (b = false → wAny K Wout D r cls d σ H)
inductive ClsA (X : Cx) : List ExceptHandler → List ClA → Prop
  | nil : ClsA X [] []
  | plain {x : Str} {c : Value} {ts : Addr → Value → Option Addr → TS} {b₀ : Stmt} {suite : List Stmt} {np pos' : Pos} {hds : List ExceptHandler} {l : List ClA} (hc : Names X x c)
      (su : ∀ (a : Addr) (oe : Obj) (cls : Value) (d : Option Addr) (pn : List (Addr × Obj)), Zc cls d oe → (∃ vs, oe.data = .fields vs) → PSs (X.suite a ((a, oe) :: pn)) (b₀ :: suite) (ts a cls d)) (r : ClsA X hds l) :
      ClsA X (.ExceptHandler (some (.Name x np)) none (b₀ :: suite) pos' :: hds) ((c, none, ts) :: l)
  | named {x n : Str} {i : Nat} {c : Value} {ts : Addr → Value → Option Addr → TS} {b₀ : Stmt} {suite : List Stmt} {np pos' : Pos} {hds : List ExceptHandler} {l : List ClA} (hN : X.N.Nodup) (hi : X.N[i]? = some n) (hln : X.env.kindOf n = some .local) (hc : Names X x c)
      (su : ∀ (a : Addr) (oe : Obj) (cls : Value) (d : Option Addr) (pn : List (Addr × Obj)), Zc cls d oe → (∃ vs, oe.data = .fields vs) → PSs (X.suite a ((a, oe) :: pn)) (b₀ :: suite) (ts a cls d)) (r : ClsA X hds l) :
      ClsA X (.ExceptHandler (some (.Name x np)) (some n) (b₀ :: suite) pos' :: hds) ((c, some i, ts) :: l)
section
variable {X : Cx} {body : List Stmt} {k₀ : ExceptHandler} {ks : List ExceptHandler} {l : List ClA} {pos : Pos} {tb : WX → TS} {Wout : WX}
theorem ps_try_any (hst : X.stack = X.env :: X.outer) (hfr : X.env.frame = some X.env.locals) (tk : Takes X Wout)
    (hbd : ∀ (W : WX) (pn : List (Addr × Obj)) (xe : Value → Shared → Prop), Takes (X.tr pn xe) W → PassesOwn (model X.prog X.w) X.A X.env xe → PSs (X.tr pn xe) body (tb W))
    (hcl : ClsA X (k₀ :: ks) l) : PS X (.Try body (k₀ :: ks) [] [] pos) (fun D σ H => tb (wAny X.K Wout D l) D σ H) := by
  refine ⟨fun pins s σ H D I rd => ?_⟩
  have okX := I.ok
  have afr : X.A.frames = some (X.env :: X.outer) := by rw [okX.frames, hst]
  have nom : ∀ {x : Str} {c : Value} {a : Addr} {oe : Obj} {σ' : L2.St} {H' : Hp} {s' : Shared} {Q : Value → Shared → Prop} {E : Value → Shared → Prop} {np : Pos}, Names X x c → Inv (X.suite a ((a, oe) :: (X.pn ++ pins))) [] σ' H' s' → Q c s' → wpAny (model X.prog X.w) (X.A.mark (some (.ref a))) (eval (.Name x np) X.env) Q E s' :=
    fun {x c a oe σ' H' s' Q E np} nm Sv q => by
      obtain ⟨gl, ndb, mm | ⟨mm, bo, nn⟩⟩ := nm
      · exact ld_glob (X := X.suite a ((a, oe) :: (X.pn ++ pins))) Sv gl mm q ndb
      · exact ld_blt (X := X.suite a ((a, oe) :: (X.pn ++ pins))) Sv gl mm bo q nn ndb
  refine wpAny_Try_except ?_
  refine wpAny_mono ((hbd (wAny X.K Wout D l) (X.pn ++ pins) (fun ev sA => wpAny (model X.prog X.w) X.A (noteFrame ev X.env) (fun _ sB => wpAny (model X.prog X.w) X.A (setFlight ev none) (fun _ sC => wpAny (model X.prog X.w) X.A (handleBy ev X.env (k₀ :: ks)) (SP X pins D) X.xe sC) X.xe sB) X.xe sA)
    (fun u s' cx => ?_) PassesOwn.looking).run [] s σ H D (I.toTry _) rd) (fun fl sE ends => ?_) (fun ev sE z => z)
  · obtain ⟨a, B, sI, pinsT, σT, HT, cls, d, rfl, Jt, nb, grow, inAir, free, osE, bareE, wish⟩ := cx
    have Jx : Inv X pins σT HT sI := Jt.ofTry okX
    have air : Sky B (X.env :: X.outer) a (Zc cls d) X.env.locals s'.heap := by rw [← hst]; exact inAir
    show wpAny (model X.prog X.w) X.A (noteFrame (.ref a) X.env) _ _ _
    refine Sky.land Zc.steady afr hfr air fun hA flA upA => ?_
    have JA : Inv X pins σT HT { s' with heap := hA } := Jx.landed nb flA.1 (grow.trans upA) osE bareE
    obtain ⟨oA, vA, getA, zcA, dataA⟩ := flA.there
    have apart : a ∉ frs (X.env :: X.outer) := fun mm => by
      obtain ⟨_, oB, getB, isF⟩ := flA.2.2.1.mem mm
      rw [getA] at getB
      cases getB
      exact isF _ dataA
    have ne1 : a ≠ X.env.locals := fun z => apart (List.mem_filterMap.mpr ⟨X.env, List.mem_cons_self, by rw [hfr, z]⟩)
    have ne2 : a ∉ X.fs := fun mm => by
      obtain ⟨en, hen, q⟩ := List.mem_filterMap.mp mm
      exact apart (List.mem_filterMap.mpr ⟨en, List.mem_cons_of_mem _ hen, q⟩)
    have SA := JA.suite getA dataA free ne1 ne2
    have tyA : PySem.W.Looks (model X.prog X.w) hA (typeOf (.ref a)) cls := fun A Q E s k q => wpAny_typeOf_ref (k _ _ getA) (by rw [zcA.1]; exact q)
    have walk : ∀ {hds : List ExceptHandler} {cl : List ClA}, ClsA X hds cl → wAny X.K Wout D cl cls d σT HT → wpAny (model X.prog X.w) X.A (handleBy (.ref a) X.env hds) (SP X pins D) X.xe { s' with heap := hA } := by
      intro hds cl hk
      induction hk with
      | nil =>
        intro wsh
        refine wpAny_handleBy_nil ?_
        obtain ⟨f1, f2, f3, oe, vs, T, oT, ts', fe, fz, fd, f4, fr⟩ := id flA
        unfold PySem.passOn
        refine wpAny_bind (wpAny_field fe fd f4 ?_)
        rw [if_neg (show ¬ ((Value.ref T == Value.none) = true) from by simp)]
        have out : wpAny (model X.prog X.w) X.A (setFlight (.ref a) X.env.frame) (fun _ sD => wpAny (model X.prog X.w) X.A (throw (.ref a) : Sem Flow) (SP X pins D) X.xe sD) X.xe { s' with heap := hA } := by
          rw [hfr]
          refine HandSPX.setFlight_upZ flA fun hB inB upB => wpAny_throw (tk _ _ ?_)
          exact ⟨a, B, sI, pins, σT, HT, cls, d, rfl, Jx, nb, (grow.trans upA).trans upB, .inr (.inr (by rw [hst]; exact inB)), free, osE, bareE, wsh⟩
        first
          | exact wpAny_bind (wpAny_pure (wpAny_bind out))
          | exact wpAny_bind out
      | @plain x c ts b₀ suite np pos' hds2 l2 hc su r ih =>
        intro wsh
        obtain ⟨b, mt, yes, no⟩ := wsh
        refine wpAny_handleBy_cons (codeAny_handlers_test ?_) (by intro z; cases z)
        have lm := PySem.W.exm_one (M := model X.prog X.w) (JA.kIn) tyA mt
        refine nom hc SA (lm.here ?_)
        cases b with
        | false =>
          show wpAny _ X.A (handleBy (.ref a) X.env hds2) _ _ _
          exact ih (no rfl)
        | true =>
          refine codeAny_handlers_suite ?_
          refine HandSPX.lands_againZ flA fun hB flB upB => ?_
          have JB : Inv X pins σT HT { s' with heap := hB } := Jx.landed nb flB.1 ((grow.trans upA).trans upB) osE bareE
          obtain ⟨oB, vB, getB, zcB, dataB⟩ := flB.there
          have SB := JB.suite getB dataB free ne1 ne2
          refine wpAny_mono ((su a oB cls d (X.pn ++ pins) zcB ⟨_, dataB⟩).run [] _ _ HT _ SB (yes rfl a free)) (fun fl sE ends => ?_) (fun _ _ z => False.elim z)
          cases fl with
          | next => exact let ⟨_, _, Sx, qx⟩ := ends; ⟨_, _, Sx.unsuite okX, qx⟩
          | brk => exact let ⟨_, _, Sx, qx⟩ := ends; ⟨_, _, Sx.unsuite okX, qx⟩
          | cont => exact let ⟨_, _, Sx, qx⟩ := ends; ⟨_, _, Sx.unsuite okX, qx⟩
          | ret u => exact let ⟨_, _, _, Sx, rx, qx⟩ := ends; ⟨_, _, _, Sx.unsuite okX, rx, qx⟩
      | @named x n i c ts b₀ suite np pos' hds2 l2 hN hi hln hc su r ih =>
        intro wsh
        obtain ⟨b, mt, yes, no⟩ := wsh
        refine wpAny_handleBy_cons (codeAny_handlers_test ?_) (by intro z; cases z)
        have lm := PySem.W.exm_one (M := model X.prog X.w) (JA.kIn) tyA mt
        refine nom hc SA (lm.here ?_)
        cases b with
        | false =>
          show wpAny _ X.A (handleBy (.ref a) X.env hds2) _ _ _
          exact ih (no rfl)
        | true =>
          refine codeAny_handlers_suite_as ?_
          refine HandSPX.lands_againZ flA fun hB flB upB => ?_
          have JB : Inv X pins σT HT { s' with heap := hB } := Jx.landed nb flB.1 ((grow.trans upA).trans upB) osE bareE
          obtain ⟨oB, vB, getB, zcB, dataB⟩ := flB.there
          have SB := JB.suite getB dataB free ne1 ne2
          refine store_ok (X := X.suite a ((a, oB) :: (X.pn ++ pins))) (v := .ref a) SB hN hi (.inl hln) rfl (fun sF SF => ?_) (.inr hln)
          refine wpAny_mono ((su a oB cls d (X.pn ++ pins) zcB ⟨_, dataB⟩).run [] sF _ HT _ SF (yes rfl a free)) (fun fl sE ends => ?_) (fun _ _ z => False.elim z)
          cases fl with
          | next => exact let ⟨_, _, Sx, qx⟩ := ends; gone_ok (Sx.unsuite okX) hN hi hln fun _ Jz => ⟨_, _, Jz, qx⟩
          | brk => exact let ⟨_, _, Sx, qx⟩ := ends; gone_ok (Sx.unsuite okX) hN hi hln fun _ Jz => ⟨_, _, Jz, qx⟩
          | cont => exact let ⟨_, _, Sx, qx⟩ := ends; gone_ok (Sx.unsuite okX) hN hi hln fun _ Jz => ⟨_, _, Jz, qx⟩
          | ret u => exact let ⟨_, _, _, Sx, rx, qx⟩ := ends; gone_ok (Sx.unsuite okX) hN hi hln fun _ Jz => ⟨_, _, _, Jz, rx, qx⟩
    exact walk hcl wish
  · cases fl with
    | next => exact let ⟨_, _, Jz, qx⟩ := ends; wpAny_execs_nil ⟨_, _, Jz.ofTry okX, qx⟩
    | brk => exact let ⟨_, _, Jz, qx⟩ := ends; ⟨_, _, Jz.ofTry okX, qx⟩
    | cont => exact let ⟨_, _, Jz, qx⟩ := ends; ⟨_, _, Jz.ofTry okX, qx⟩
    | ret u => exact let ⟨_, _, _, Jz, rx, qx⟩ := ends; ⟨_, _, _, Jz.ofTry okX, rx, qx⟩
end
end DL

set_option Elab.async false
set_option maxRecDepth 100000
set_option maxHeartbeats 1000000

set_option Elab.async false
set_option maxRecDepth 100000
set_option maxHeartbeats 1000000
namespace DL
open PySem L2 HT TL
/-! ### standings, patterns, drawers, lengths that are refused, whatever they are -/
def NoStr (K : PySem.W.Frag) (H : Hp) (v : V) : Prop := ∃ t, (∀ H', Same H H' → TyX K H' v t) ∧ PySem.W.kitOne K t (.type "str") = some false
def BadSgn (K : PySem.W.Frag) (z : Str) (H : Hp) (n : Int) (v : V) : Prop := NoStr K H v ∨ ∃ y, v = .str y ∧ y.length ≤ 1000 ∧ sgnB n z (.str y) = false
theorem BadSgn.same {K : PySem.W.Frag} {z : Str} {H H' : Hp} {n : Int} {v : V} (h : BadSgn K z H n v) (s : Same H H') : BadSgn K z H' n v := by
  rcases h with ⟨t, h1, h2⟩ | h
  · exact .inl ⟨t, fun H2 s2 => h1 H2 (s.trans s2), h2⟩
  · exact .inr h
end DL

set_option Elab.async false
set_option maxRecDepth 100000
set_option maxHeartbeats 1000000

set_option Elab.async false
set_option maxRecDepth 100000
set_option maxHeartbeats 1000000
namespace DL
open PySem L2 HT TL
/-! ### what is no cabinet -/
def NoCab (K : PySem.W.Frag) (C : Addr) (H : Hp) (v : V) : Prop := ∃ t, (∀ H', Same H H' → TyX K H' v t) ∧ PySem.W.kitOne K t (.ref C) = some false
theorem NoCab.same {K : PySem.W.Frag} {C : Addr} {H H' : Hp} {v : V} (h : NoCab K C H v) (s : Same H H') : NoCab K C H' v := by
  obtain ⟨t, h1, h2⟩ := h
  exact ⟨t, fun H2 s2 => h1 H2 (s.trans s2), h2⟩
end DL

set_option Elab.async false
set_option maxRecDepth 100000
set_option maxHeartbeats 1000000
namespace DL
open PySem PySem.Spec PyProof.Rows L2 HT TL
/-! ### InvalidText, by its own __init__ -/
structure spIni2 (C : Addr) (vs : List V) (H : Hp) (Q : VK) (_ : XK) : Prop where
  h : ∃ (a : Addr) (i j : Int), vs = [.ref a, .int i, .int j] ∧ 0 ≤ i ∧ i ≤ 100 ∧ 0 ≤ j ∧ j ≤ 100 ∧ H a = some (exo a C none) ∧ ∀ dx, H dx = none → dx ≠ a → Q .non (upd (upd (upd H dx (exd dx [("line", .int i)])) a (exo a C (some dx))) dx (exd dx [("word", .int j), ("line", .int i)]))
structure Ini2 (P : Program) (w : World) (K : PySem.W.Frag) (mg : Str → Option Value) (base : Heap) (CB : Addr) : Prop where
  T : OexC K CB
  g : mg "InvalidText" = some (.ref CB)
  i : ∃ fI fd, PySem.W.findIn K (.ref CB) "__init__" = some (some (.ref fI)) ∧ PySem.W.typeIn K (.ref fI) = some (.type "function") ∧ FnOk P w K mg base CX0 1 fI fd ["self", "line", "word"] (spIni2 CB) ∧ Binds K fd ["self", "line", "word"] []
/-- whatever its fields and wherever -/
def exAny (C : Addr) (H : Hp) (E : XK) : Prop := ∀ d H', Same H H' → E (.ref C) d H'
theorem exAny.at' {C : Addr} {H H1 : Hp} {E : XK} (k : exAny C H E) (s : Same H H1) : exAny C H1 E := fun d H' s' => k d H' (s.trans s')
theorem str_len (a b : Str) : (a ++ b).length = a.length + b.length := by
  show (a ++ b).cps.size = a.cps.size + b.cps.size
  rw [← Array.length_toList, ← Array.length_toList, ← Array.length_toList]
  exact (congrArg List.length (TL.tl_append a b)).trans (List.length_append ..)
theorem fig_len {i : Int} (h0 : 0 ≤ i) (h1 : i ≤ 100) : (toString i : Str).length ≤ 3 := by
  have z : ∀ n : Fin 101, ((toString ((n.val : Nat) : Int) : Str)).length ≤ 3 := by decide +kernel
  have := z ⟨i.toNat, by omega⟩
  rw [show ((i.toNat : Nat) : Int) = i by omega] at this
  exact this
section
variable {P : Program} {w : World} {K : PySem.W.Frag} {mg : Str → Option Value} {base : Heap}
theorem scInvText : SupScope ["self", "line", "word"] ["self", "line", "word"] (defScope s_InvalidText__init_) := ⟨rfl, rfl, rfl, by decide +kernel, rfl, by decide +kernel, by decide +kernel, by decide +kernel⟩
theorem ok_InvTextInit {f C cc cda : Addr} {fd : FuncData} (F : FunS K "__init__" "InvalidText.__init__" s_InvalidText__init_ f cda cc fd) (S : SupK K P f C cc cda fd "self") (hm : mg "super" = none) (hi : PySem.W.findIn K (.ref C) "line" = some none) (hi2 : PySem.W.findIn K (.ref C) "word" = some none) :
    FnOk P w K mg base CX0 1 f fd ["self", "line", "word"] (spIni2 C) := by
  obtain ⟨oc, od, an, kV, doc, pm, ct, osl, rfl, lk, hcd⟩ := F.ex
  obtain ⟨cl, cld, csl, hcell⟩ := S.cell
  refine fn_ofS lk hcd hcell scInvText (fun vs H Q E h => ?_) (fun A outer s s1 H vs Q E hsp I => ?_)
  · obtain ⟨a, i, j, rfl, _⟩ := h.h
    rfl
  · obtain ⟨a, i, j, rfl, i0, i1, j0, j1, hea, q⟩ := hsp.h
    have rest : PSs (cxS CX0 P w K mg base ["self", "line", "word"] "InvalidText.__init__" (defScope s_InvalidText__init_) f (.ref cda) cc A outer s H E) ((defBody s_InvalidText__init_).drop 1) _ := pss_cons (ps_ost (pv 0) (pv 1)) (pss_one (ps_ost (pv 0) (pv 2)))
    refine PySem.ks_wpAt_execs_cons (PySem.ks_wpAt_mono (sup_run (D := { nx := fun σ' H' => σ' = L2.start ["self", "line", "word"] [.ref a, .int i, .int j] ∧ H' = H, rt := fun _ _ => False }) S rfl rfl rfl rfl rfl rfl rfl hm
      (pa_cons (pe_joined (.cons pe_str (.cons (pe_fmtN (pv 1)) (.cons pe_str (.cons (pe_fmtN (pv 2)) .nil))))) pa_nil) I rfl hea ?_) (fun fl s' hs => ?_) fun _ _ z => z)
    · have e0 : (Str.empty).length = 0 := by decide +kernel
      have e1 : ("line " : Str).length = 5 := by decide +kernel
      have e2 : (", word " : Str).length = 7 := by decide +kernel
      have f1 := fig_len i0 i1
      have f2 := fig_len j0 j1
      have big : (100 : Nat) < sizeLine := by decide
      refine ⟨_, rfl, by rw [str_len, e0, e1]; omega, _, rfl, .inr ⟨i, rfl, small_log i0 (by omega), _, rfl, by rw [str_len, str_len, e0, e1]; omega, _, rfl, by rw [str_len, str_len, str_len, e0, e1, e2]; omega, _, rfl, .inr ⟨j, rfl, small_log j0 (by omega), _, rfl, by rw [str_len, str_len, str_len, str_len, e0, e1, e2]; omega, by show 1 ≤ 1000; decide, hea, rfl, rfl⟩⟩⟩
    · cases fl with
      | next =>
        obtain ⟨σ', H', J, rfl, rfl⟩ := hs
        refine PySem.wpAt_of_wpAny (rest.run [] s' _ _ _ J ⟨_, rfl, _, rfl, a, C, rfl, S.T, hi, .inl ⟨hea, fun dx hdx hda => ?_⟩⟩)
        refine ⟨_, rfl, _, rfl, a, C, rfl, S.T, hi2, .inr ⟨dx, [("line", .int i)], upd_same, by rw [upd_ne hda, upd_same], (by show 1 ≤ 900; decide), q dx hdx hda⟩⟩
      | ret u =>
        obtain ⟨_, _, _, _, _, z⟩ := hs
        exact False.elim z
      | brk =>
        obtain ⟨_, _, _, z⟩ := hs
        exact False.elim z
      | cont =>
        obtain ⟨_, _, _, z⟩ := hs
        exact False.elim z
/-! ### Unlike -/
end
end DL

set_option Elab.async false
set_option maxRecDepth 100000
set_option maxHeartbeats 1000000
namespace DL
open PySem PySem.Spec PyProof.Rows L2
theorem es_end {prog : Program} {w : World} {A : Around} {E : Value → Shared → Prop} {s : Shared} {e it l : Addr} {n : Int} {i : Nat} {items : Array Value} {old : Value} {Q : Option Value → Shared → Prop} (calm : A.handled = none)
    (he : IsEnum s.heap e it n old) (hit : s.heap.IsListIter it l i) (hl : s.heap.IsList l items) (hx : items[i]? = none) (hQ : ∀ h', Heap.ExtBut it s.heap h' → Q none { s with heap := h' }) : wpAny (model prog w) A (pyNext (.ref e)) Q E s := by
  have hT : s.TypeIs (.ref e) "enumerate" := ⟨_, he, rfl⟩
  unfold pyNext
  refine wpAny_bind (wpAny_attempt (wpAny_callSpecial?_slot (name := Str.ofString "__next__") hT F.slot_enumerate_next (wpAny_call_entry F.slot_enumerate_next hT F.entry_enumerate_next ?_ (F.args_enumerate_next_1 _))))
  show wpAny _ _ (field (.ref e) 2 >>= _) _ _ _
  refine wpAny_bind (wpAny_field he rfl (x := .ref it) rfl (wpAny_bind (wpAny_nextOf_list_end (by simp [calm]) hit hl hx fun h' c k q => ?_)))
  obtain ⟨o, q1, q2⟩ := q
  exact wpAny_bind (wpAny_isInstance (T := "StopIteration") (b := true) ⟨o, q1, q2⟩ isSubtype_stop (wpAny_pure (hQ _ k)))
/-! ### for i, x in enumerate(xs, start=k0), xs a list -/
def Ies (K : PySem.W.Frag) (k0 : Int) (a : Addr) : It :=
  ⟨fun i H => ∃ (xs : List V) (x : V), SqL K H a xs ∧ xs[i]? = some x, fun i H v H' => ∃ T x, v = .ref T ∧ H T = none ∧ H' = upd H T (.tup [.int (k0 + (i : Nat)), x]) ∧ ∀ xs, SqL K H a xs → xs[i]? = some x, fun i H => ∃ xs : List V, SqL K H a xs ∧ xs.length ≤ i⟩
theorem turn_es {P : Program} {w : World} {K : PySem.W.Frag} {elts : List Expr} {kk : Nat} {tpos : Pos} {k0 : Int} {a e it : Addr} (n1 : e ≠ it) (n2 : a ≠ it) (n3 : e ≠ a) :
    Turn P w K (.Tuple elts kk tpos) (Ies K k0 a) [e, it] e (fun i h => (∃ old, IsEnum h e it (k0 + (i : Nat)) old) ∧ h.IsListIter it a i) where
  mem := by simp
  obj := fun i h st b hb => by
    obtain ⟨⟨old, he⟩, ⟨o, ho, _, hd⟩⟩ := st
    have e' : b = e ∨ b = it := by simpa using hb
    rcases e' with z | z <;> rw [z]
    · exact ⟨_, he, fun v q => nomatch q⟩
    · exact ⟨o, ho, fun v q => by rw [hd] at q; cases q⟩
  keep := fun i h h' st k => ⟨st.1.elim fun old he => ⟨old, k e (by simp) _ he⟩, st.2.at fun o q => k it (by simp) o q⟩
  item := by
    intro X hP hw hK hc i pins s σ H E I hf st hg
    subst hP hw hK
    obtain ⟨⟨old, he⟩, hit⟩ := st
    obtain ⟨xs, x, hq, hx⟩ := hg
    obtain ⟨its, rv, p, hz⟩ := I.list hq
    obtain ⟨u, hu, ru⟩ := rv.get hx
    have lte : e < s.heap.objs.size := Heap.lt_size he
    have lti : it < s.heap.objs.size := by obtain ⟨_, q, _⟩ := hit; exact Heap.lt_size q
    have hu2 : its.toArray[i]? = some u := by simpa using hu
    have lt : i < its.toArray.size := (Array.getElem?_eq_some_iff.mp hu2).1
    have calm : X.A.in1.in1.handled = none := by simp [I.ok.hd hc]
    refine wpAny_pyNext_enum_itemC (Draws.list (by simp [I.ok.hd hc]) it a n2 its.toArray) he ⟨hit, p.isList⟩ lt n1 (by simp [n1, n3]) fun y g tk px en st2 hT hsz hk => ?_
    obtain rfl : u = y := by
      have px : its.toArray[i]? = some y := px
      rw [hu2] at px
      exact Option.some.inj px
    refine ⟨_, rfl, wpAny_letOwnedTupleGo_enum (s := { s with heap := g, toks := tk + 1 }) en fun g2 en2 sb => ?_⟩
    have up : ∀ c o, c ≠ e → g.get? c = some o → g2.get? c = some o := fun c o c1 q => (sb.2 c c1).trans q
    have hT2 := up _ _ (Nat.ne_of_gt lte) hT
    have new : ObjOk X.prog X.w (upd H s.heap.objs.size (.tup [.int (k0 + (i : Nat)), x])) g2 s.heap.objs.size (.tup [.int (k0 + (i : Nat)), x]) :=
      ⟨by show 2 ≤ sizeLine; decide, [.int (k0 + (i : Nat)) tk, u], .cons ⟨_, rfl⟩ (.cons ru .nil), ⟨_, hT2, rfl, _, rfl⟩⟩
    have I1 : Inv X pins σ (upd H s.heap.objs.size (.tup [.int (k0 + (i : Nat)), x])) { s with heap := g2, toks := tk + 1 } :=
      I.turnedNew (ch := [e, it]) (fun b ob hb q => up b ob (fun z => hb (by simp [z])) (hk b ob (fun z => hb (by simp [z])) (fun z => hb (by simp [z])) q)) hf (Nat.le_refl _) new
    refine ⟨.ref s.heap.objs.size, _, I1, rfl, ⟨_, x, rfl, I.hok.fresh (Nat.le_refl _), rfl, fun ys hy => by rw [I.list_inj hy hq]; exact hx⟩, ⟨⟨u, ?_⟩, st2.1.at fun o q => up it o n1.symm q⟩, fun b hb => ?_⟩
    · have e1 : k0 + ((i + 1 : Nat) : Int) = k0 + (i : Nat) + 1 := by omega
      rw [e1]
      exact en2
    · have hb' : b < s.heap.objs.size := by
        have e' : b = e ∨ b = it := by simpa using hb
        rcases e' with z | z <;> rw [z]
        · exact lte
        · exact lti
      rw [upd_ne (Nat.ne_of_lt hb')]
      exact (hf b hb).1
  done := by
    intro X hP hw hK hc i pins s σ H E I hf st hg
    subst hP hw hK
    obtain ⟨⟨old, he⟩, hit⟩ := st
    obtain ⟨xs, hq, hx⟩ := hg
    obtain ⟨its, rv, p, hz⟩ := I.list hq
    obtain ⟨f0, f1, f2, f3, f4, f5⟩ := hf it (by simp)
    have hl := rv.length
    exact es_end (I.ok.hd hc) he hit p.isList (by simp; omega) fun h' eb => ⟨rfl, I.turned (t' := s.toks) (fun b o hb q => eb b o hb q) f0 f1 f3 f4 f5⟩
  self := fun A i s Q E st h => let ⟨⟨_, he⟩, _⟩ := st; wpAny_pyIter_enum he h
def iEs (K : PySem.W.Frag) (k0 : Int) (te : TE) : TI := fun σ H R => te σ H fun x H1 => ∃ a xs, x = .ref a ∧ SqL K H1 a xs ∧ R (Ies K k0 a) H1
theorem pi_es {X : Cx} {e : Expr} {te : TE} {p pos kpos tpos cpos : Pos} {elts : List Expr} {kk j : Nat} {k0 : Int} (hg : Gl X "enumerate") (hm : X.mg "enumerate" = none) (ha : PE X e te) (k1 : -(2 ^ 63) ≤ k0) (k2 : k0 < 2 ^ 63)
    (hs : starEach [e] X.env = (false, eval e X.env) :: starEach [] X.env := by rfl) (he : backTo pos (starEach [e] X.env) = (false, eval e X.env) :: backTo pos (starEach [] X.env) := by rfl) :
    PI X (.Tuple elts kk tpos) (.Call (.Name "enumerate" p) [e] [⟨some "start", .Constant (.int k0) j cpos, kpos⟩] pos) (iEs X.K k0 te) := by
  refine ⟨fun pins s σ H R I h => ?_⟩
  have hpl : (backTo pos (starEach [e] X.env)).any (·.1) = false := by rw [he]; rfl
  refine wpAny_Call_Name_kw (ld_blt I hg hm boot_enumerate (cw_kw (args_cons (thn (ha.run pins s σ H _ I h) fun u s1 ⟨x, H1, I1, rx, q1⟩ => ?_) hs) he hpl))
  obtain ⟨a, xs, ex, qx, q⟩ := q1
  subst ex
  obtain rfl : u = .ref a := rx
  obtain ⟨its, rv, p1, _⟩ := I1.list qx
  have la : a < s1.heap.objs.size := p1.lt
  refine args_nil (PyProof.Rows.kwAll_cons (wpAny_Constant_int (PyProof.Rows.kwAll_nil ?_)))
  refine enum_begins_start (begins_list a its.toArray) (show s1.heap.IsList a its.toArray from p1.isList) k1 k2 fun g en hit hsz k3 => wpAny_pyIter_enum en ?_
  have I2 : Inv X pins σ H1 { s1 with heap := g, toks := s1.toks + 1 } := I1.kept (t' := s1.toks + 1) fun c o q => k3 _ _ q
  refine ⟨s1.heap.objs.size + 1, [s1.heap.objs.size + 1, s1.heap.objs.size], _, _, H1, rfl, I2, turn_es (k0 := k0) (Nat.succ_ne_self _) (Nat.ne_of_lt la) (Nat.ne_of_gt (Nat.lt_succ_of_lt la)), ⟨⟨.none, ?_⟩, ⟨_, hit, rfl, rfl⟩⟩, fun c hcm => ?_, q⟩
  · have e0 : k0 + ((0 : Nat) : Int) = k0 := Int.add_zero k0
    rw [e0]
    exact en
  · have hle : s1.heap.objs.size ≤ c := by
      have e' : c = s1.heap.objs.size + 1 ∨ c = s1.heap.objs.size := by simpa using hcm
      rcases e' with z | z <;> rw [z]
      · exact Nat.le_add_right _ _
      · exact Nat.le_refl _
    exact I1.fpOk hle (I1.hok.fresh hle)
theorem walk_es {K : PySem.W.Frag} {k0 : Int} {a : Addr} {xs : List V} : Walk (Ies K k0 a) xs.length (fun H => SqL K H a xs) (YPair (fun i => some (.int (k0 + (i : Nat)))) (fun i => xs[i]?)) := by
  refine ⟨fun i _ hi q => ⟨xs, xs[i], q, by simp [hi]⟩, fun _ q => ⟨xs, q, Nat.le_refl _⟩, fun i H v H' _ q y => ?_⟩
  obtain ⟨T, x, h1, h2, h3, h4⟩ := y
  exact ⟨T, .int (k0 + (i : Nat)), x, h1, h2, h3, rfl, h4 xs q⟩
end DL

set_option Elab.async false
set_option maxRecDepth 100000
set_option maxHeartbeats 2000000
namespace DL
open PySem PySem.Spec PyProof.Rows L2 HT TL
/-! ### words and lines -/
/-- the words of a line: what stands between spaces, if anything -/
def wordsL (z : Str) : List Str := (Txt.split z " ").filter fun x => !decide (x = "")
structure spWordsOf (vs : List V) (H : Hp) (Q : VK) (_ : XK) : Prop where
  h : ∃ z : Str, vs = [.str z] ∧ z.length ≤ 1000 ∧ (Txt.split z " ").length ≤ 1000 ∧ ∀ (l : Addr) (H' : Hp), H l = none → Same H H' → H' l = some (.lst ((wordsL z).map V.str)) → Q (.ref l) H'
section
variable {P : Program} {w : World} {K : PySem.W.Frag} {mg : Str → Option Value} {base : Heap}
theorem scWOg : FnScope ["line", "word"] ["line"] (defScope s_words_of) := ⟨rfl, rfl, rfl, by decide +kernel, rfl, by decide +kernel, by decide +kernel⟩
theorem ok_wordsOf {f : Addr} {fd : FuncData} (F : Fun K "words_of" "words_of" s_words_of f fd) : FnOk P w K mg base CX0 1 f fd ["line"] spWordsOf := by
  refine F.ok scWOg (fun vs H Q E h => ?_) (fun cdv A outer s H vs Q E hr h => ?_)
  · obtain ⟨z, rfl, _⟩ := h.h
    rfl
  · obtain ⟨z, rfl, z1, z2, k⟩ := h.h
    refine ⟨_, pss_one (ps_ret (pe_lc (own := [("word", 1)]) (g := gName 1) (by rfl) scWOg.nd (pi_list (pe_m1 PySem.F.slot_str_split PySem.F.type_str_split mt_split (pv 0) pe_str)) (blkOk_by (N := ["line", "word"]) (sc := defScope s_words_of) (by decide +kernel)) (fun _ _ _ _ _ => pg_name (i := 1) scWOg.nd rfl (Or.inl rfl))
      (fun _ _ _ _ _ => pts_one (pt_cmpR op_ne (pv 1) pe_str (nomark _))) (fun _ _ _ _ _ => pv 1))), ?_⟩
    refine ⟨_, rfl, ⟨_, rfl⟩, z, " ", rfl, rfl, rfl, Nat.le_trans (Nat.add_le_add_right z1 2) (by decide), fun p hp => ?_⟩
    obtain ⟨s1, f1⟩ := new_at (o := .lst ((Txt.split z " ").map V.str)) hp
    generalize upd H p (.lst ((Txt.split z " ").map V.str)) = H1 at s1 f1 ⊢
    refine ⟨p, rfl, ⟨_, SqL.of f1⟩, fun D nD => ?_⟩
    refine lc_pick (walk_list (K := K) (a := p) (xs := (Txt.split z " ").map V.str)) (Txt.split z " ") (by rw [List.length_map]) (by rw [List.length_map]; omega) (fun x => !decide (x = "")) V.str nD (fun H' s => SqL.of (s _ _ f1)) ?_ ?_
    · rintro i x y H2 H3 Tk Nk ez s ⟨rfl, ex⟩ kT kF
      rw [List.getElem?_map, ez] at ex
      cases ex
      refine ⟨rfl, _, rfl, rfl, _, rfl, ?_⟩
      by_cases q : y = ""
      · subst q
        rw [decide_eq_true rfl]
        exact iteF (kF _ (by simp) (Same.refl _))
      · rw [decide_eq_false fun e => q (by injection e)]
        exact iteT ⟨_, rfl, kT _ (by simp [q]) (Same.refl _)⟩
    · intro H2 s2 hD
      refine k D H2 ?_ (s1.trans s2) hD
      cases q : H D with
      | none => rfl
      | some o => rw [s1 _ _ q] at nD; cases nD
/-- a choice: the texts that may stand there -/
def ChoAt (K : PySem.W.Frag) (H : Hp) (a : Addr) (cs : List Str) : Prop := SqL K H a (cs.map V.str) ∨ SqT K H a (cs.map V.str)
theorem op_notInK9 {X : Cx} {K : PySem.W.Frag} (hK : X.K = K) : OpR X (compareOp .NotIn) (rIn K true) := by subst hK; exact op_notIn_seq
theorem sl_listK9 {X : Cx} {K : PySem.W.Frag} (hK : X.K = K) : SlR X (rSlL K) := by subst hK; exact sl_list
abbrev nCkWs : List Str := ["line", "words", "allowed", "place", "word", "choices"]
theorem scCkWs : FnScope nCkWs ["line", "words", "allowed"] (defScope s_check_words) := ⟨rfl, rfl, rfl, by decide +kernel, rfl, by decide +kernel, by decide +kernel⟩
theorem inV_mem9 (x : Str) (cs : List Str) : inV (.str x) (cs.map V.str) = decide (x ∈ cs) := by
  unfold inV
  rw [Bool.eq_iff_iff, List.any_eq_true, decide_eq_true_eq]
  constructor
  · rintro ⟨y, hy, e⟩
    obtain ⟨z, hz, rfl⟩ := List.mem_map.mp hy
    have : z = x := by simpa [eqV] using e
    rw [← this]
    exact hz
  · intro h
    exact ⟨.str x, List.mem_map_of_mem h, by simp [eqV]⟩
/-- the text of a figure -/
def fig (n : Int) : Str := toString n
theorem fig_back {n : Int} (h0 : 0 ≤ n) (h7 : n ≤ 7) : PySem.intText? (fig n) = some n ∧ (fig n).length ≤ 640 := by
  have z : ∀ m : Fin 8, PySem.intText? (fig ((m.val : Nat) : Int)) = some ((m.val : Nat) : Int) ∧ (fig ((m.val : Nat) : Int)).length ≤ 640 := by decide +kernel
  have := z ⟨n.toNat, by omega⟩
  rw [show ((n.toNat : Nat) : Int) = n by omega] at this
  exact this
theorem fig_inj {a b : Int} (a0 : 0 ≤ a) (a7 : a ≤ 7) (b0 : 0 ≤ b) (b7 : b ≤ 7) (e : fig a = fig b) : a = b := by
  have h1 := (fig_back a0 a7).1
  rw [e, (fig_back b0 b7).1] at h1
  exact (Option.some.inj h1).symm
theorem scRDg : FnScope ["words", "drawers"] ["words"] (defScope s_read_drawers) := ⟨rfl, rfl, rfl, by decide +kernel, rfl, by decide +kernel, by decide +kernel⟩
/-- the words of a bar's line -/
def barW (b : Bar) : List Str := ["bar", fig b.d, wd b.w, fig b.o, wd b.t]
abbrev nRB : List Str := ["drawers", "line", "words", "names", "others", "drawer", "name"]
theorem scRB : FnScope nRB ["drawers", "line", "words"] (defScope s_read_bar) := ⟨rfl, rfl, rfl, by decide +kernel, rfl, by decide +kernel, by decide +kernel⟩
end
end DL

set_option Elab.async false
set_option maxRecDepth 100000
set_option maxHeartbeats 2000000
namespace DL
open PySem PySem.Spec PyProof.Rows L2 HT TL
/-! ### texts that are refused: the line and the word -/
/-- InvalidText, its two fields told -/
def exTx (C : Addr) (i j : Int) (H : Hp) (E : XK) : Prop := ∀ (d : Addr) (H' : Hp), H d = none → Same H H' → H' d = some (.xd [("word", .int j), ("line", .int i)]) → E (.ref C) (some d) H'
theorem none_back {H H' : Hp} {d : Addr} (s : Same H H') (h : H' d = none) : H d = none := by
  cases q : H d with
  | none => rfl
  | some o => rw [s _ _ q] at h; cases h
theorem exTx.at' {C : Addr} {i j : Int} {H H1 : Hp} {E : XK} (k : exTx C i j H E) (s : Same H H1) : exTx C i j H1 E := fun d H' hd s' hx => k d H' (none_back s hd) (s.trans s') hx
theorem ini2_tx {CB a : Addr} {i j : Int} {H1 : Hp} {E E2 : XK} (ha : H1 a = none) (i0 : 0 ≤ i) (i1 : i ≤ 100) (j0 : 0 ≤ j) (j1 : j ≤ 100) (k : exTx CB i j H1 E) :
    spIni2 CB [.ref a, .int i, .int j] (upd H1 a (exo a CB none)) (fun v H2 => v = .non ∧ ∃ (d : Addr) (fs : List (Str × V)), H2 a = some (exo a CB (some d)) ∧ H2 d = some (exd d fs) ∧ H1 d = none ∧ E (.ref CB) (some d) (upd (del H2 a) d (.xd fs))) E2 := by
  refine ⟨⟨a, i, j, rfl, i0, i1, j0, j1, upd_same, fun dx hdx hda => ?_⟩⟩
  have hd1 : H1 dx = none := by rw [upd_ne hda] at hdx; exact hdx
  refine ⟨rfl, dx, _, by rw [upd_ne hda.symm, upd_same], upd_same, hd1, k _ _ hd1 (fun b o e => ?_) upd_same⟩
  have hba : b ≠ a := ne_of_none e ha
  have hbd : b ≠ dx := ne_of_none e hd1
  rw [upd_ne hbd, del_ne hba, upd_ne hbd, upd_ne hba, upd_ne hbd, upd_ne hba]
  exact e
/-- the first place (counted from k) where the word is none of the choices, or one is wanting, or one too many -/
def chk : List Str → List (List Str) → Nat → Option Nat
  | [], [], _ => none
  | [], _ :: _, k => some k
  | _ :: _, [], k => some k
  | x :: ws, c :: cs, k => if x ∈ c then chk ws cs (k + 1) else some k
theorem chk_ne : ∀ (ws : List Str) (cs : List (List Str)) (k : Nat), ws.length ≠ cs.length → ws.length = 0 ∨ cs.length = 0 → chk ws cs k = some k
  | [], [], _, h, _ => absurd rfl h
  | [], _ :: _, _, _, _ => rfl
  | _ :: _, [], _, _, _ => rfl
  | _ :: _, _ :: _, _, _, h => by rcases h with h | h <;> simp at h
theorem chk_step {ws : List Str} {cs : List (List Str)} {i : Nat} {x : Str} {c : List Str} (hx : ws[i]? = some x) (hc : cs[i]? = some c) (k : Nat) : chk (ws.drop i) (cs.drop i) k = if x ∈ c then chk (ws.drop (i + 1)) (cs.drop (i + 1)) (k + 1) else some k := by
  obtain ⟨h1, h2⟩ := List.getElem?_eq_some_iff.mp hx
  obtain ⟨g1, g2⟩ := List.getElem?_eq_some_iff.mp hc
  rw [List.drop_eq_getElem_cons h1, List.drop_eq_getElem_cons g1, h2, g2]
  rfl
/-- told by a number, or not at all -/
def tellO (o : Option Nat) (A : Prop) (B : Nat → Prop) : Prop := match o with | none => A | some j => B j
structure spWords2 (K : PySem.W.Frag) (CI : Addr) (vs : List V) (H : Hp) (Q : VK) (E : XK) : Prop where
  h : ∃ (ln : Int) (l a : Addr) (ws : List Str) (cs : List (Addr × List Str)), vs = [.int ln, .ref l, .ref a] ∧ 0 ≤ ln ∧ ln ≤ 100 ∧ H l = some (.lst (ws.map V.str)) ∧ H a = some (.lst (cs.map fun c => V.ref c.1)) ∧ (∀ c ∈ cs, ∀ H', Same H H' → ChoAt K H' c.1 c.2) ∧ ws.length ≤ 50 ∧ cs.length ≤ 50 ∧
    ∀ H', Same H H' → tellO (chk ws (cs.map (·.2)) 1) (Q .non H') fun j => exTx CI ln j H' E
section
variable {P : Program} {w : World} {K : PySem.W.Frag} {mg : Str → Option Value} {base : Heap}
theorem ok_ckWords2 {f CI : Addr} {fd : FuncData} (F : Fun K "check_words" "check_words" s_check_words f fd) (T : Bt mg) (zZ : mg "zip" = none) (zM : mg "min" = none) (BT : Ini2 P w K mg base CI) : FnOk P w K mg base (L2.CX P w) 4 f fd ["line", "words", "allowed"] (spWords2 K CI) := by
  refine F.okX scCkWs (fun vs H Q E h => ?_) (fun cdv A outer s H vs Q E hr h => ?_)
  · obtain ⟨ln, l, a, ws, cs, rfl, _⟩ := h.h
    rfl
  · obtain ⟨ln, l, a, ws, cs, rfl, ln0, ln1, hl, ha, hc, w50, c50, k⟩ := h.h
    obtain ⟨fI, fdI, i1, i2, GI, bI⟩ := BT.i
    refine ⟨_, pss_cons (ps_for (passes_of rfl) rfl (pi_ez (by rfl) T.enumerate (by rfl) zZ (pa_cons (pv 1) (pa_cons (pv 2) pa_nil)) (by decide) (by decide)) (pg_tup (by rfl) (pgs_cons (pg_name (i := 3) scCkWs.nd rfl (Or.inl rfl)) (pgs_cons (pg_tup (by rfl) (pgs_cons (pg_name (i := 4) scCkWs.nd rfl (Or.inl rfl)) (pgs_cons (pg_name (i := 5) scCkWs.nd rfl (Or.inl rfl)) pgs_nil))) pgs_nil)))
        (pss_one (ps_if (pt_cmpR op_notIn_seq (pv 4) (pv 5) (by rfl)) (pss_one (ps_raise rfl (takes_of rfl rfl rfl rfl) (pmk_oex BT.T i1 i2 GI (hr.mono (by decide)) bI .nil pass0 rfl BT.g (pa_cons (pv 0) (pa_cons (pv 3) pa_nil))))) pss_nil)))
      (pss_one (ps_if (pt_cmpR op_ne (pe_callB call_len_seq (by rfl) T.len (by decide +kernel) (pa_cons (pv 1) pa_nil)) (pe_callB call_len_seq (by rfl) T.len (by decide +kernel) (pa_cons (pv 2) pa_nil)) (nomark _))
        (pss_one (ps_raise rfl (takes_of rfl rfl rfl rfl) (pmk_oex BT.T i1 i2 GI (hr.mono (by decide)) bI .nil pass0 rfl BT.g (pa_cons (pv 0) (pa_cons (pe_op op_add (pe_callB (call_min2 rfl) (by rfl) zM (by decide +kernel) (pa_cons (pe_callB call_len_seq (by rfl) T.len (by decide +kernel) (pa_cons (pv 1) pa_nil)) (pa_cons (pe_callB call_len_seq (by rfl) T.len (by decide +kernel) (pa_cons (pv 2) pa_nil)) pa_nil))) pe_int) pa_nil))))) pss_nil)), ?_⟩
    refine ⟨_, rfl, _, rfl, l, a, _, _, rfl, SqL.of hl, SqL.of ha, ?_⟩
    obtain ⟨ds, eds⟩ : ∃ ds, cs.map (·.2) = ds := ⟨_, rfl⟩
    have dl : ds.length = cs.length := by rw [← eds, List.length_map]
    rw [eds] at k
    refine for_it (walk_ez (xs := ws.map V.str) (ys := cs.map fun c => V.ref c.1)) (fun i σ H' => ∃ v3 v4 v5 : Option V, σ = [some (.int ln), some (.ref l), some (.ref a), v3, v4, v5] ∧ Same H H' ∧ chk ws ds 1 = chk (ws.drop i) (ds.drop i) (1 + i)) ⟨_, _, _, rfl, Same.refl _, rfl⟩ (fun i σ H' _ ⟨_, _, _, _, s, _⟩ => ⟨SqL.of (s _ _ hl), SqL.of (s _ _ ha)⟩) ?_ ?_
    · rintro i x σ H1 H2 hi ⟨v3, v4, v5, rfl, s1, ek⟩ ⟨Tt, U, y, z, rfl, nT, nU, nTU, rfl, hy, hz⟩
      rw [List.getElem?_map] at hy hz
      cases ey : ws[i]? with
      | none => rw [ey] at hy; cases hy
      | some wd =>
        rw [ey] at hy
        cases hy
        cases ec : cs[i]? with
        | none => rw [ec] at hz; cases hz
        | some c =>
          rw [ec] at hz
          cases hz
          have i50 : i < 50 := by
            have := (List.getElem?_eq_some_iff.mp ey).1
            omega
          have nU' : (upd H1 Tt (.tup [.int (1 + (i : Nat)), .ref U])) U = none := by rw [upd_ne nTU.symm]; exact nU
          obtain ⟨s2, fU⟩ := new_at (o := .tup [.str wd, .ref c.1]) nU'
          have fT : (upd (upd H1 Tt (.tup [.int (1 + (i : Nat)), .ref U])) U (.tup [.str wd, .ref c.1])) Tt = some (.tup [.int (1 + (i : Nat)), .ref U]) := by rw [upd_ne nTU]; exact upd_same
          have s3 := (s1.trans (same_upd nT)).trans s2
          generalize upd (upd H1 Tt (.tup [.int (1 + (i : Nat)), .ref U])) U (.tup [.str wd, .ref c.1]) = H3 at fU fT s3 ⊢
          refine ⟨Tt, _, rfl, SqT.of' fT, rfl, _, _, rfl, _, _, rfl, ⟨U, _, rfl, SqT.of' fU, rfl, _, _, rfl, _, _, rfl, rfl, rfl, ?_⟩⟩
          refine ⟨_, rfl, _, rfl, c.1, c.2.map V.str, rfl, hc c (List.mem_of_getElem? ec) H3 s3, rfl, by simp [flatV], ?_⟩
          have ed : ds[i]? = some c.2 := by rw [← eds, List.getElem?_map, ec]; rfl
          rw [chk_step ey ed] at ek
          rw [inV_mem9]
          by_cases mem : wd ∈ c.2
          · rw [if_pos mem] at ek
            rw [decide_eq_true mem]
            exact ⟨_, rfl, iteF ⟨_, _, _, rfl, s3, by rw [ek, Nat.add_assoc]⟩⟩
          · rw [if_neg mem] at ek
            rw [decide_eq_false mem]
            have kk := k H3 s3
            rw [ek] at kk
            have kk : exTx CI ln ((1 + i : Nat) : Int) H3 E := kk
            rw [show ((1 + i : Nat) : Int) = 1 + (i : Int) by omega] at kk
            exact ⟨_, rfl, iteT ⟨_, rfl, _, rfl, (by show 2 ≤ 1000; decide), fun x hx => ini2_tx hx ln0 ln1 (by omega) (by omega) kk⟩⟩
    · rintro σ H1 ⟨v3, v4, v5, rfl, s1, ek⟩
      refine ⟨_, rfl, l, _, rfl, .inl (SqL.of (s1 _ _ hl)), _, rfl, a, _, rfl, .inl (SqL.of (s1 _ _ ha)), ?_⟩
      rw [List.length_map, List.length_map] at ek ⊢
      refine ⟨rfl, _, rfl, ?_⟩
      have kk := k H1 s1
      rw [ek] at kk
      by_cases q : ws.length = cs.length
      · rw [q, Nat.min_self, List.drop_eq_nil_of_le (by omega), List.drop_eq_nil_of_le (by omega)] at kk
        rw [decide_eq_true (by rw [q])]
        exact iteF kk
      · have ne : chk (ws.drop (min ws.length cs.length)) (ds.drop (min ws.length cs.length)) (1 + min ws.length cs.length) = some (1 + min ws.length cs.length) := by
          refine chk_ne _ _ _ ?_ ?_
          · rw [List.length_drop, List.length_drop]; omega
          · rw [List.length_drop, List.length_drop]; omega
        rw [ne] at kk
        have kk : exTx CI ln ((1 + min ws.length cs.length : Nat) : Int) H1 E := kk
        rw [decide_eq_false (fun z => q (by injection z with z; omega))]
        refine iteT ⟨_, rfl, _, rfl, l, _, rfl, .inl (SqL.of (s1 _ _ hl)), _, rfl, a, _, rfl, .inl (SqL.of (s1 _ _ ha)), _, _, rfl, _, _, rfl, rfl, (by show 2 ≤ 1000; decide), fun x hx => ?_⟩
        rw [List.length_map, List.length_map]
        have em : (if ((cs.length : Nat) : Int) < ((ws.length : Nat) : Int) then ((cs.length : Nat) : Int) else ((ws.length : Nat) : Int)) + 1 = ((1 + min ws.length cs.length : Nat) : Int) := by
          split <;> omega
        refine ini2_tx hx ln0 ln1 ?_ ?_ ?_
        · split <;> omega
        · split <;> omega
        · rw [em]; exact kk
end
end DL

set_option Elab.async false
set_option maxRecDepth 100000
set_option maxHeartbeats 2000000
namespace DL
open PySem PySem.Spec PyProof.Rows L2 HT TL
/-! ### lines that are read or refused -/
theorem cut_to (xs : List V) (j : Nat) : cutV xs none (some (j : Int)) = xs.take j := by
  unfold cutV
  rw [HT.sIx_nat, HT.sIx_none, List.drop_zero, Nat.sub_zero]
  by_cases h : j ≤ xs.length
  · rw [Nat.min_eq_left h]
  · rw [Nat.min_eq_right (by omega), List.take_length, List.take_of_length_le (by omega)]
theorem cut_from (xs : List V) (j : Nat) : cutV xs (some (j : Int)) none = xs.drop j := by
  unfold cutV
  rw [HT.sIx_nat, HT.sIx_none]
  by_cases h : j ≤ xs.length
  · rw [Nat.min_eq_left h, List.take_of_length_le (by rw [List.length_drop]; omega)]
  · rw [Nat.min_eq_right (by omega), Nat.sub_self, List.take_zero, List.drop_eq_nil_of_le (by omega)]
theorem cut_mid (xs : List V) (i j : Nat) : cutV xs (some (i : Int)) (some (j : Int)) = (xs.drop i).take (j - i) := by
  unfold cutV
  rw [HT.sIx_nat, HT.sIx_nat]
  by_cases h : i ≤ xs.length
  · rw [Nat.min_eq_left h]
    by_cases g : j ≤ xs.length
    · rw [Nat.min_eq_left g]
    · rw [Nat.min_eq_right (by omega), List.take_of_length_le (by rw [List.length_drop]; omega), List.take_of_length_le (by rw [List.length_drop]; omega)]
  · rw [Nat.min_eq_right (show xs.length ≤ i by omega), List.drop_length, List.drop_eq_nil_of_le (show xs.length ≤ i by omega), List.take_nil, List.take_nil]
theorem chk_none : ∀ {ws : List Str} {cs : List (List Str)} {k : Nat}, chk ws cs k = none → ws.length = cs.length ∧ ∀ (i : Nat) (x : Str) (c : List Str), ws[i]? = some x → cs[i]? = some c → x ∈ c
  | [], [], _, _ => ⟨rfl, fun _ _ _ h => by simp at h⟩
  | [], _ :: _, _, h => by cases h
  | _ :: _, [], _, h => by cases h
  | x :: ws, c :: cs, k, h => by
    unfold chk at h
    by_cases m : x ∈ c
    · rw [if_pos m] at h
      obtain ⟨e, g⟩ := chk_none h
      refine ⟨by rw [List.length_cons, List.length_cons, e], fun i y d hy hd => ?_⟩
      cases i with
      | zero => cases hy; cases hd; exact m
      | succ i => exact g i y d hy hd
    · rw [if_neg m] at h
      cases h
def ow : List Str := ["open", "shut"]
def nm (N : Nat) : List Str := (List.range N).map fun z => fig ((0 : Int) + (z : Nat))
def nm1 : List Str := (List.range 7).map fun z => fig ((1 : Int) + (z : Nat))
theorem mem_nm {N : Nat} {x : Str} (h : x ∈ nm N) : ∃ d : Int, 0 ≤ d ∧ d < N ∧ x = fig d := by
  obtain ⟨z, hz, rfl⟩ := List.mem_map.mp h
  have := List.mem_range.mp hz
  exact ⟨(z : Nat), by omega, by omega, by rw [Int.zero_add]⟩
theorem in_nm {N : Nat} {d : Int} (h0 : 0 ≤ d) (h1 : d < N) : fig d ∈ nm N := by
  refine List.mem_map.mpr ⟨d.toNat, List.mem_range.mpr (by omega), ?_⟩
  rw [show (0 : Int) + (d.toNat : Nat) = d by omega]
def lotsD : List (List Str) := [["drawers"], nm1]
def lots (N : Nat) (ws : List Str) : List (List Str) := [["bar"], nm N, ow, (nm N).filter fun x => !decide (x ∈ (ws.drop 1).take 1), ow]
theorem two_list {α : Type} {l : List α} (h : l.length = 2) : ∃ a b, l = [a, b] := by
  match l, h with
  | [a, b], _ => exact ⟨a, b, rfl⟩
theorem five_list {α : Type} {l : List α} (h : l.length = 5) : ∃ a b c d e, l = [a, b, c, d, e] := by
  match l, h with
  | [a, b, c, d, e], _ => exact ⟨a, b, c, d, e, rfl⟩
theorem mem_ow {x : Str} (h : x ∈ ow) : ∃ b : Bool, x = wd b := by
  have z : ∀ y ∈ ow, y = wd true ∨ y = wd false := by decide +kernel
  rcases z x h with q | q
  · exact ⟨_, q⟩
  · exact ⟨_, q⟩
theorem chkD_none {ws : List Str} (h : chk ws lotsD 1 = none) : ∃ n : Int, 1 ≤ n ∧ n ≤ 7 ∧ ws = [("drawers" : Str), fig n] := by
  obtain ⟨e, g⟩ := chk_none h
  obtain ⟨a, b, rfl⟩ := two_list (show ws.length = 2 from e)
  have g0 := List.mem_singleton.mp (g 0 a ["drawers"] rfl rfl)
  obtain ⟨z, hz, g1⟩ := List.mem_map.mp (g 1 b nm1 rfl rfl)
  have := List.mem_range.mp hz
  exact ⟨1 + (z : Nat), by omega, by omega, by rw [g0, ← g1]⟩
theorem chkB_none {N : Nat} {ws : List Str} (hN : N ≤ 7) (h : chk ws (lots N ws) 1 = none) : ∃ b : Bar, b.ok N ∧ ws = barW b := by
  obtain ⟨e, g⟩ := chk_none h
  obtain ⟨a, b, c, d, x, rfl⟩ := five_list (show ws.length = 5 from e)
  have g0 := List.mem_singleton.mp (g 0 a ["bar"] rfl rfl)
  obtain ⟨d1, d10, d11, e1⟩ := mem_nm (g 1 b (nm N) rfl rfl)
  obtain ⟨w2, e2⟩ := mem_ow (g 2 c ow rfl rfl)
  have g3 := g 3 d _ rfl rfl
  obtain ⟨g31, g32⟩ := List.mem_filter.mp g3
  obtain ⟨d3, d30, d31, e3⟩ := mem_nm g31
  obtain ⟨w4, e4⟩ := mem_ow (g 4 x ow rfl rfl)
  have ne : d ≠ b := fun z => by
    subst z
    have m : d ∈ ([d] : List Str) := List.mem_singleton.mpr rfl
    have : decide (d ∈ ((a :: d :: c :: d :: x :: ([] : List Str)).drop 1).take 1) = true := decide_eq_true m
    rw [this] at g32
    cases g32
  refine ⟨⟨d1, w2, d3, w4⟩, ⟨d10, d11, d30, d31, fun z => ne ?_⟩, ?_⟩
  · rw [e1, e3]
    exact congrArg fig z.symm
  · rw [g0, e1, e2, e3, e4]
    rfl
structure spReadDr2 (CI : Addr) (vs : List V) (H : Hp) (Q : VK) (E : XK) : Prop where
  h : ∃ (l : Addr) (ws : List Str), vs = [.ref l] ∧ H l = some (.lst (ws.map V.str)) ∧ ws.length ≤ 50 ∧ ∀ H', Same H H' → tellO (chk ws lotsD 1) (∀ n, 1 ≤ n → n ≤ 7 → ws = [("drawers" : Str), fig n] → Q (.int n) H') fun j => exTx CI 1 j H' E
structure spReadBar2 (CI : Addr) (vs : List V) (H : Hp) (Q : VK) (E : XK) : Prop where
  h : ∃ (l : Addr) (N : Nat) (ln : Int) (ws : List Str), vs = [.int N, .int ln, .ref l] ∧ H l = some (.lst (ws.map V.str)) ∧ ws.length ≤ 50 ∧ 0 ≤ ln ∧ ln ≤ 100 ∧ 1 ≤ N ∧ N ≤ 7 ∧
    ∀ H', Same H H' → tellO (chk ws (lots N ws) 1) (∀ (b : Bar) (t : Addr), b.ok N → ws = barW b → H t = none → H' t = some (.tup b.vs) → Q (.ref t) H') fun j => exTx CI ln j H' E
section
variable {P : Program} {w : World} {K : PySem.W.Frag} {mg : Str → Option Value} {base : Heap}
theorem ok_readDr2 {f f1 CI : Addr} {fd fd1 : FuncData} (F : Fun K "read_drawers" "read_drawers" s_read_drawers f fd) (T : Bt mg) (zS : mg "str" = none) (gM : ∃ t, mg "MOST_DRAWERS" = some (.int 7 t))
    (G : FnOk P w K mg base (L2.CX P w) 4 f1 fd1 ["line", "words", "allowed"] (spWords2 K CI)) (g1 : mg "check_words" = some (.ref f1)) (k1 : PySem.W.keepIn K (.ref f1) = true) (b1 : Binds K fd1 ["line", "words", "allowed"] []) :
    FnOk P w K mg base (L2.CX P w) 6 f fd ["words"] (spReadDr2 CI) := by
  refine F.okX scRDg (fun vs H Q E h => ?_) (fun cdv A outer s H vs Q E hr h => ?_)
  · obtain ⟨l, ws, rfl, _⟩ := h.h
    rfl
  · obtain ⟨l, ws, rfl, hl, w50, k⟩ := h.h
    obtain ⟨tM, gMt⟩ := gM
    refine ⟨_, pss_cons (ps_expr (pe_call G (hr.mono (by decide)) rfl g1 k1 b1 .nil (passes_call (E := E) (takes_of rfl rfl rfl rfl) (fun _ _ _ _ z => z)) (pa_cons pe_int (pa_cons (pv 0) (pa_cons (pe_lst (pa_cons (pe_lst (pa_cons pe_str pa_nil)) (pa_cons
      (pe_lc (own := [("drawers", 1)]) (g := gName 1) (tt := tYes) (by rfl) scRDg.nd (pi_range2 (by rfl) T.range (pa_cons pe_int (pa_cons (pe_op op_add (pe_glob (v := .int 7) (by rfl) gMt ⟨_, rfl⟩) pe_int) pa_nil))) (blkOk_by (N := ["words", "drawers"]) (sc := defScope s_read_drawers) (by decide +kernel)) (fun _ _ _ _ _ => pg_name (i := 1) scRDg.nd rfl (Or.inl rfl)) (fun _ _ _ _ _ => pts_nil)
        (fun _ _ _ _ _ => pe_callTy call_str_int (by rfl) zS (by decide +kernel) (pa_cons (pv 1) pa_nil))) pa_nil))) pa_nil)))))
      (pss_one (ps_ret (pe_callTy call_int_str (by rfl) T.int (by decide +kernel) (pa_cons (pe_ix ix_list (pv 0) pe_int (fun _ _ => rfl)) pa_nil)))), ?_⟩
    refine ⟨_, rfl, (by show 1 ≤ sizeLine; decide), fun l1 nl1 => ?_⟩
    obtain ⟨s1, f1⟩ := new_at (o := .lst [.str "drawers"]) nl1
    generalize upd H l1 (.lst [.str "drawers"]) = H1 at s1 f1 ⊢
    refine ⟨7, 1, rfl, rfl, 1, 8, rfl, ⟨by decide, by decide, by decide, by decide⟩, fun D nD => ?_⟩
    refine lc_pick (walk_range (lo := 1) (n := 7)) (List.range 7) List.length_range (by decide) (fun _ => true) (fun z => V.str (fig ((1 : Int) + (z : Nat)))) nD (fun _ _ => trivial) ?_ ?_
    · rintro i x z H2 H3 Tk Nk ez s ⟨rfl, ex⟩ kT kF
      have hz : z = i := by
        have := (List.getElem?_eq_some_iff.mp ez).2
        rw [List.getElem_range] at this
        exact this.symm
      have hi : i < 7 := by
        have := (List.getElem?_eq_some_iff.mp ez).1
        rw [List.length_range] at this
        exact this
      subst hz
      subst ex
      exact ⟨rfl, tYes_of (iteT ⟨_, rfl, _, rfl, small_log (by omega) (by omega), kT _ rfl (Same.refl _)⟩)⟩
    · intro H2 s2 hD
      rw [List.filter_eq_self.mpr fun _ _ => rfl] at hD
      refine ⟨(by show 2 ≤ sizeLine; decide), fun l2 nl2 => ?_⟩
      obtain ⟨s3, f3⟩ := new_at (o := .lst [.ref l1, .ref D]) nl2
      have f1' := s3 _ _ (s2 _ _ f1)
      have hD' := s3 _ _ hD
      have hl' := s3 _ _ (s2 _ _ (s1 _ _ hl))
      refine ⟨⟨1, l, l2, ws, [(l1, ["drawers"]), (D, nm1)], rfl, by decide, by decide, hl', f3, fun c hc H' s => ?_, w50, (by show 2 ≤ 50; decide), fun H' s => ?_⟩⟩
      · rcases List.mem_cons.mp hc with rfl | hc
        · exact .inl (SqL.of (s _ _ f1'))
        · rw [List.mem_singleton.mp hc]
          exact .inl (SqL.of (by rw [s _ _ hD']; unfold nm1; rw [List.map_map]; rfl))
      · have kk := k H' (((s1.trans s2).trans s3).trans s)
        show tellO (chk ws lotsD 1) _ _
        cases ec : chk ws lotsD 1 with
        | none =>
          rw [ec] at kk
          obtain ⟨n, n1, n7, rfl⟩ := chkD_none ec
          obtain ⟨b1', b2'⟩ := fig_back (by omega) n7
          exact ⟨_, rfl, l, _, 1, .str (fig n), rfl, rfl, SqL.of (s _ _ hl'), atI_nat (j := 1) rfl, fig n, n, rfl, b1', b2', kk n n1 n7 rfl⟩
        | some j =>
          rw [ec] at kk
          exact kk
theorem ok_readBar2 {f f1 fW CI : Addr} {fd fd1 : FuncData} (F : Fun K "read_bar" "read_bar" s_read_bar f fd) (T : Bt mg) (zS : mg "str" = none) (gW : mg "WORDS" = some (.ref fW)) (hW : ∀ H, SqT K H fW [.str "open", .str "shut"])
    (G : FnOk P w K mg base (L2.CX P w) 4 f1 fd1 ["line", "words", "allowed"] (spWords2 K CI)) (g1 : mg "check_words" = some (.ref f1)) (k1 : PySem.W.keepIn K (.ref f1) = true) (b1 : Binds K fd1 ["line", "words", "allowed"] []) :
    FnOk P w K mg base (L2.CX P w) 6 f fd ["drawers", "line", "words"] (spReadBar2 CI) := by
  refine F.okX scRB (fun vs H Q E h => ?_) (fun cdv A outer s H vs Q E hr h => ?_)
  · obtain ⟨l, N, ln, ws, rfl, _⟩ := h.h
    rfl
  · obtain ⟨l, N, ln, ws, rfl, hl, w50, ln0, ln1, n1, n7, k⟩ := h.h
    refine ⟨_, pss_cons (ps_setLc (i := 3) (own := [("drawer", 5)]) (g := gName 5) (tt := tYes) (by rfl) scRB.nd rfl rfl (by rfl) (pi_range1 (by rfl) T.range (pa_cons (pv 0) pa_nil)) (blkOk_by (N := nRB) (sc := defScope s_read_bar) (by decide +kernel)) (fun _ _ _ _ _ => pg_name (i := 5) scRB.nd rfl (Or.inl rfl)) (fun _ _ _ _ _ => pts_nil)
        (fun _ _ _ _ _ => pe_callTy call_str_int (by rfl) zS (by decide +kernel) (pa_cons (pv 5) pa_nil)))
      (pss_cons (ps_setLc (i := 4) (own := [("name", 6)]) (g := gName 6) (by rfl) scRB.nd rfl rfl (by rfl) (pi_list (pv 3)) (blkOk_by (N := nRB) (sc := defScope s_read_bar) (by decide +kernel)) (fun _ _ _ _ _ => pg_name (i := 6) scRB.nd rfl (Or.inl rfl))
        (fun _ _ _ _ _ => pts_one (pt_cmpR (op_notInK9 (K := K) rfl) (pv 6) (pe_slice (sl_listK9 (K := K) rfl) (pv 2) (po_some pe_int) (po_some pe_int)) (by rfl))) (fun _ _ _ _ _ => pv 6))
      (pss_cons (ps_expr (pe_call G (hr.mono (by decide)) rfl g1 k1 b1 .nil (passes_call (E := E) (takes_of rfl rfl rfl rfl) (fun _ _ _ _ z => z)) (pa_cons (pv 1) (pa_cons (pv 2) (pa_cons (pe_lst (pa_cons (pe_lst (pa_cons pe_str pa_nil)) (pa_cons (pv 3) (pa_cons (pe_glob (v := .ref fW) (by rfl) gW rfl) (pa_cons (pv 4) (pa_cons (pe_glob (v := .ref fW) (by rfl) gW rfl) pa_nil)))))) pa_nil)))))
      (pss_one (ps_ret (pe_tup (pa_cons (pe_callTy call_int_str (by rfl) T.int (by decide +kernel) (pa_cons (pe_ix ix_list (pv 2) pe_int (fun _ _ => rfl)) pa_nil)) (pa_cons (pe_ix ix_list (pv 2) pe_int (fun _ _ => rfl)) (pa_cons (pe_callTy call_int_str (by rfl) T.int (by decide +kernel) (pa_cons (pe_ix ix_list (pv 2) pe_int (fun _ _ => rfl)) pa_nil)) (pa_cons (pe_ix ix_list (pv 2) pe_int (fun _ _ => rfl)) pa_nil))))))))), ?_⟩
    refine ⟨_, rfl, _, rfl, by omega, by omega, fun D1 nD1 => ?_⟩
    rw [Int.toNat_natCast]
    refine lc_pick (walk_range (lo := 0) (n := N)) (List.range N) List.length_range (by omega) (fun _ => true) (fun z => V.str (fig ((0 : Int) + (z : Nat)))) nD1 (fun _ _ => trivial) ?_ ?_
    · rintro i x z H2 H3 Tk Nk ez s ⟨rfl, ex⟩ kT kF
      have hz : z = i := by
        have := (List.getElem?_eq_some_iff.mp ez).2
        rw [List.getElem_range] at this
        exact this.symm
      have hi : i < N := by
        have := (List.getElem?_eq_some_iff.mp ez).1
        rw [List.length_range] at this
        exact this
      subst hz
      subst ex
      exact ⟨rfl, tYes_of (iteT ⟨_, rfl, _, rfl, small_log (by omega) (by omega), kT _ rfl (Same.refl _)⟩)⟩
    intro H1 s1 hD1
    have hD1' : H1 D1 = some (.lst ((nm N).map V.str)) := by
      rw [hD1, List.filter_eq_self.mpr fun _ _ => rfl]
      unfold nm
      rw [List.map_map]
      rfl
    have nml : (nm N).length = N := by unfold nm; rw [List.length_map, List.length_range]
    have hl1 := s1 _ _ hl
    refine ⟨_, rfl, D1, rfl, ⟨_, SqL.of hD1'⟩, fun D2 nD2 => ?_⟩
    refine lc_pick (walk_list (K := K) (a := D1) (xs := (nm N).map V.str)) (nm N) (by rw [List.length_map]) (by rw [List.length_map]; omega) (fun x => !decide (x ∈ (ws.drop 1).take 1)) V.str nD2 (fun H' s => SqL.of (s _ _ hD1')) ?_ ?_
    · rintro i x y H2 H3 Tk Nk ez s ⟨rfl, ex⟩ kT kF
      rw [List.getElem?_map, ez] at ex
      cases ex
      refine ⟨rfl, _, rfl, _, rfl, 1, rfl, 2, rfl, l, _, rfl, SqL.of (s _ _ hl1), fun sl nsl => ?_⟩
      have ec : cutV (ws.map V.str) (some 1) (some 2) = ((ws.drop 1).take 1).map V.str := by
        have := cut_mid (ws.map V.str) 1 2
        rw [List.map_take, List.map_drop]
        exact this
      rw [ec]
      obtain ⟨s5, f5⟩ := new_at (o := .lst (((ws.drop 1).take 1).map V.str)) nsl
      generalize upd H3 sl (.lst (((ws.drop 1).take 1).map V.str)) = H5 at s5 f5 ⊢
      refine ⟨sl, _, rfl, .inl (SqL.of f5), rfl, (by generalize (ws.drop 1).take 1 = cc; simp [flatV]), ?_⟩
      rw [inV_mem9]
      refine ⟨_, rfl, ?_⟩
      show if (if true = true then !decide (y ∈ (ws.drop 1).take 1) else decide (y ∈ (ws.drop 1).take 1)) = true then _ else _
      rw [if_pos rfl]
      by_cases q : y ∈ (ws.drop 1).take 1
      · rw [decide_eq_true q]
        exact iteF (kF _ (by rw [decide_eq_true q]; rfl) s5)
      · rw [decide_eq_false q]
        exact iteT ⟨_, rfl, kT _ (by rw [decide_eq_false q]; rfl) s5⟩
    intro H2 s2 hD2
    have hD1'' := s2 _ _ hD1'
    have hl2 := s2 _ _ hl1
    refine ⟨_, rfl, _, rfl, (by show 1 ≤ sizeLine; decide), fun l1 nl1 => ?_⟩
    obtain ⟨s3, f3⟩ := new_at (o := .lst [.str "bar"]) nl1
    generalize upd H2 l1 (.lst [.str "bar"]) = H3 at s3 f3 ⊢
    refine ⟨_, rfl, _, rfl, (by show 5 ≤ sizeLine; decide), fun l2 nl2 => ?_⟩
    obtain ⟨s4, f4⟩ := new_at (o := .lst [.ref l1, .ref D1, .ref fW, .ref D2, .ref fW]) nl2
    generalize upd H3 l2 (.lst [.ref l1, .ref D1, .ref fW, .ref D2, .ref fW]) = H4 at s4 f4 ⊢
    have g1' := s4 _ _ f3
    have g2' := s4 _ _ (s3 _ _ hD1'')
    have g4' := s4 _ _ (s3 _ _ hD2)
    have hl4 := s4 _ _ (s3 _ _ hl2)
    have s04 := ((s1.trans s2).trans s3).trans s4
    refine ⟨⟨ln, l, l2, ws, [(l1, ["bar"]), (D1, nm N), (fW, ow), (D2, (nm N).filter fun x => !decide (x ∈ (ws.drop 1).take 1)), (fW, ow)], rfl, ln0, ln1, hl4, f4, fun c hc H' s => ?_, w50, (by show 5 ≤ 50; decide), fun H' s => ?_⟩⟩
    · simp only [List.mem_cons, List.not_mem_nil, or_false] at hc
      rcases hc with rfl | rfl | rfl | rfl | rfl
      · exact .inl (SqL.of (s _ _ g1'))
      · exact .inl (SqL.of (s _ _ g2'))
      · exact .inr (hW H')
      · exact .inl (SqL.of (s _ _ g4'))
      · exact .inr (hW H')
    · have kk := k H' (s04.trans s)
      show tellO (chk ws (lots N ws) 1) _ _
      cases ec : chk ws (lots N ws) 1 with
      | some j =>
        rw [ec] at kk
        exact kk
      | none =>
        rw [ec] at kk
        obtain ⟨b, hb, rfl⟩ := chkB_none n7 ec
        obtain ⟨d0, d1, o0, o1, ne⟩ := id hb
        obtain ⟨x1, x2⟩ := fig_back d0 (show b.d ≤ 7 by omega)
        obtain ⟨y1, y2⟩ := fig_back o0 (show b.o ≤ 7 by omega)
        have hl5 := s _ _ hl4
        refine ⟨_, rfl, l, _, 1, .str (fig b.d), rfl, rfl, SqL.of hl5, atI_nat (j := 1) rfl, fig b.d, b.d, rfl, x1, x2, ?_⟩
        refine ⟨_, rfl, l, _, 2, .str (wd b.w), rfl, rfl, SqL.of hl5, atI_nat (j := 2) rfl, ?_⟩
        refine ⟨_, rfl, l, _, 3, .str (fig b.o), rfl, rfl, SqL.of hl5, atI_nat (j := 3) rfl, fig b.o, b.o, rfl, y1, y2, ?_⟩
        refine ⟨_, rfl, l, _, 4, .str (wd b.t), rfl, rfl, SqL.of hl5, atI_nat (j := 4) rfl, (by show 4 ≤ sizeLine; decide), fun t nt => ?_⟩
        have s9 := same_upd (o := .tup b.vs) nt
        have kk := k _ ((s04.trans s).trans s9)
        rw [ec] at kk
        exact kk b t hb rfl (none_back (s04.trans s) nt) upd_same
end
end DL

set_option Elab.async false
set_option maxRecDepth 100000
set_option maxHeartbeats 1000000
namespace DL
open PySem L2
/-! ### Cabinet.__init__ with what it raises -/
theorem spCkDX.imp {K : PySem.W.Frag} {CD : Addr} {vs : List V} {H : Hp} {Q Q' : VK} {E : XK} (h : spCkDX K CD vs H Q E) (hq : ∀ u H', Q u H' → Q' u H') : spCkDX K CD vs H Q' E := by
  rcases h.h with ⟨n, e, k1, k2⟩ | h1
  · exact ⟨.inl ⟨n, e, fun z => hq _ _ (k1 z), k2⟩⟩
  · exact ⟨.inr h1⟩
theorem spCkBX.imp {K : PySem.W.Frag} {CB : Addr} {vs : List V} {H : Hp} {Q Q' : VK} {E : XK} (h : spCkBX K CB vs H Q E) (hq : ∀ u H', Q u H' → Q' u H') : spCkBX K CB vs H Q' E := by
  rcases h.h with ⟨n, t, ks, e, h1, h2, h3, k⟩ | h1
  · exact ⟨.inl ⟨n, t, ks, e, h1, h2, h3, fun H' s => hq _ _ (k H' s)⟩⟩
  · exact ⟨.inr h1⟩
end DL

set_option Elab.async false
set_option maxRecDepth 100000

set_option Elab.async false
set_option maxRecDepth 100000
namespace DL
open PySem L2 HT TL
/-! ### rows in their order: by their number of pulls, then by their pulls; as numbers -/
def rcode (r : List Int) : Int := r.foldl (fun a d => a * 8 + (d + 1)) 0
theorem rcode_snoc (r : List Int) (d : Int) : rcode (r ++ [d]) = rcode r * 8 + (d + 1) := by
  unfold rcode
  rw [List.foldl_append]
  rfl
theorem rcode_nil : rcode [] = 0 := rfl
def Low7 (r : List Int) : Prop := ∀ d ∈ r, 0 ≤ d ∧ d ≤ 6
theorem snoc_ind {α : Type} {p : List α → Prop} (h0 : p []) (hs : ∀ l a, p l → p (l ++ [a])) (l : List α) : p l := by
  have : ∀ m : List α, p m.reverse := fun m => by
    induction m with
    | nil => exact h0
    | cons a m ih =>
      rw [List.reverse_cons]
      exact hs _ _ ih
  have h := this l.reverse
  rw [List.reverse_reverse] at h
  exact h
theorem Low7.init {r : List Int} {d : Int} (h : Low7 (r ++ [d])) : Low7 r ∧ 0 ≤ d ∧ d ≤ 6 := ⟨fun x hx => h x (List.mem_append_left _ hx), h d (List.mem_append_right _ (List.mem_singleton.mpr rfl))⟩
theorem rcode_nn : ∀ {r : List Int}, Low7 r → 0 ≤ rcode r := by
  intro r
  refine snoc_ind (p := fun r => Low7 r → 0 ≤ rcode r) (fun _ => Int.le_refl _) (fun l a ih h => ?_) r
  obtain ⟨h1, h2, h3⟩ := h.init
  have := ih h1
  rw [rcode_snoc]
  omega
theorem rcode_inj' : ∀ a b : List Int, Low7 a → Low7 b → rcode a = rcode b → a = b := by
  intro a
  refine snoc_ind (p := fun a => ∀ b, Low7 a → Low7 b → rcode a = rcode b → a = b) (fun b _ hb e => ?_) (fun l x ih b ha hb e => ?_) a
  · revert hb e
    refine snoc_ind (p := fun b => Low7 b → rcode [] = rcode b → [] = b) (fun _ _ => rfl) (fun l y _ hb e => ?_) b
    obtain ⟨h1, h2, h3⟩ := hb.init
    have := rcode_nn h1
    rw [rcode_snoc, rcode_nil] at e
    omega
  · obtain ⟨h1, h2, h3⟩ := ha.init
    have p1 := rcode_nn h1
    revert hb e
    refine snoc_ind (p := fun b => Low7 b → rcode (l ++ [x]) = rcode b → l ++ [x] = b) (fun _ e => ?_) (fun m y _ hb e => ?_) b
    · rw [rcode_snoc, rcode_nil] at e
      omega
    · obtain ⟨g1, g2, g3⟩ := hb.init
      have p2 := rcode_nn g1
      rw [rcode_snoc, rcode_snoc] at e
      rw [ih m h1 g1 (by omega), show x = y by omega]
theorem rcode_inj {a b : List Int} (ha : Low7 a) (hb : Low7 b) (h : rcode a = rcode b) : a = b := rcode_inj' a b ha hb h
/-- a row is before another -/
def Bef (a b : List Int) : Prop := rcode a < rcode b ∧ a.length ≤ b.length
/-- rows in order, each behind the first one but one pull longer than one of those ahead of the i-th -/
structure Asc (rs : List (List Int)) (i : Nat) : Prop where
  pw : rs.Pairwise Bef
  low : ∀ x ∈ rs, Low7 x
  par : ∀ x ∈ rs, x = [] ∨ ∃ (j : Nat) (q : List Int) (d : Int), j < i ∧ rs[j]? = some q ∧ x = q ++ [d]
structure AscD (rs : List (List Int)) (i : Nat) (p : List Int) (D : Int) : Prop where
  pw : rs.Pairwise Bef
  low : ∀ x ∈ rs, Low7 x
  at' : rs[i]? = some p
  par : ∀ x ∈ rs, x = [] ∨ (∃ (j : Nat) (q : List Int) (d : Int), j < i ∧ rs[j]? = some q ∧ x = q ++ [d]) ∨ ∃ d : Int, d < D ∧ x = p ++ [d]
theorem AscD.done {rs : List (List Int)} {i : Nat} {p : List Int} {D : Int} (A : AscD rs i p D) : Asc rs (i + 1) := by
  refine ⟨A.pw, A.low, fun x hx => ?_⟩
  rcases A.par x hx with q | ⟨j, q, d, h1, h2, h3⟩ | ⟨d, h1, h2⟩
  · exact .inl q
  · exact .inr ⟨j, q, d, by omega, h2, h3⟩
  · exact .inr ⟨i, p, d, by omega, A.at', h2⟩
theorem AscD.up {rs : List (List Int)} {i : Nat} {p : List Int} {D D' : Int} (A : AscD rs i p D) (h : D ≤ D') : AscD rs i p D' := by
  refine ⟨A.pw, A.low, A.at', fun x hx => ?_⟩
  rcases A.par x hx with q | q | ⟨d, h1, h2⟩
  · exact .inl q
  · exact .inr (.inl q)
  · exact .inr (.inr ⟨d, by omega, h2⟩)
theorem AscD.below {rs : List (List Int)} {i : Nat} {p : List Int} {D d : Int} (A : AscD rs i p D) (hD : D ≤ d) (h0 : 0 ≤ d) : ∀ x ∈ rs, Bef x (p ++ [d]) := by
  intro x hx
  have hp : Low7 p := A.low p (List.mem_of_getElem? A.at')
  have pn := rcode_nn hp
  have lx := A.low x hx
  rcases A.par x hx with rfl | ⟨j, q, e, h1, h2, rfl⟩ | ⟨e, h1, rfl⟩
  · refine ⟨?_, by simp⟩
    rw [rcode_snoc, rcode_nil]
    omega
  · obtain ⟨g1, g2, g3⟩ := lx.init
    obtain ⟨l1, e1⟩ := List.getElem?_eq_some_iff.mp h2
    obtain ⟨l2, e2⟩ := List.getElem?_eq_some_iff.mp A.at'
    have := List.pairwise_iff_getElem.mp A.pw j i l1 l2 h1
    rw [e1, e2] at this
    obtain ⟨b1, b2⟩ := this
    refine ⟨?_, by rw [List.length_append, List.length_append]; exact Nat.add_le_add_right b2 _⟩
    rw [rcode_snoc, rcode_snoc]
    omega
  · refine ⟨?_, by rw [List.length_append, List.length_append]; exact Nat.le_refl _⟩
    rw [rcode_snoc, rcode_snoc]
    omega
theorem AscD.add {rs : List (List Int)} {i : Nat} {p : List Int} {D d : Int} (A : AscD rs i p D) (hD : D ≤ d) (h0 : 0 ≤ d) (h6 : d ≤ 6) : AscD (rs ++ [p ++ [d]]) i p (d + 1) := by
  have hp : Low7 p := A.low p (List.mem_of_getElem? A.at')
  have keep : ∀ (j : Nat) (q : List Int), rs[j]? = some q → (rs ++ [p ++ [d]])[j]? = some q := fun j q h => by
    rw [List.getElem?_append_left (List.getElem?_eq_some_iff.mp h).1]
    exact h
  refine ⟨?_, fun x hx => ?_, keep i p A.at', fun x hx => ?_⟩
  · rw [List.pairwise_append]
    refine ⟨A.pw, List.pairwise_singleton _ _, fun x hx y hy => ?_⟩
    rw [List.mem_singleton.mp hy]
    exact A.below hD h0 x hx
  · rcases List.mem_append.mp hx with hx | hx
    · exact A.low x hx
    · rw [List.mem_singleton.mp hx]
      intro e he
      rcases List.mem_append.mp he with he | he
      · exact hp e he
      · rw [List.mem_singleton.mp he]; exact ⟨h0, h6⟩
  · rcases List.mem_append.mp hx with hx | hx
    · rcases A.par x hx with q | ⟨j, q, e, h1, h2, h3⟩ | ⟨e, h1, h2⟩
      · exact .inl q
      · exact .inr (.inl ⟨j, q, e, h1, keep j q h2, h3⟩)
      · exact .inr (.inr ⟨e, by omega, h2⟩)
    · exact .inr (.inr ⟨d, by omega, List.mem_singleton.mp hx⟩)
/-! ### the pulls that go, one after another -/
theorem drs_pw (n : Nat) : (drs n).Pairwise (· < ·) := by
  unfold drs
  rw [List.pairwise_map]
  exact List.pairwise_lt_range.imp fun h => by omega
theorem free_pw (bs : List Bar) (st : List Bool) : (freeL bs st).Pairwise (· < ·) := (drs_pw st.length).filter _
theorem free_mem {bs : List Bar} {st : List Bool} {d : Int} : d ∈ freeL bs st ↔ (0 ≤ d ∧ d < st.length) ∧ goesB bs st d = true := by
  refine ⟨fun h => ⟨free_in h, (List.mem_filter.mp h).2⟩, fun h => ?_⟩
  refine List.mem_filter.mpr ⟨?_, h.2⟩
  unfold drs
  exact List.mem_map.mpr ⟨d.toNat, List.mem_range.mpr (by omega), by omega⟩
theorem pw_drop {l : List Int} (h : l.Pairwise (· < ·)) {t : Nat} {d : Int} (hd : l[t]? = some d) : (∀ x ∈ l.drop (t + 1), d + 1 ≤ x) ∧ l.drop t = d :: l.drop (t + 1) := by
  obtain ⟨h1, h2⟩ := List.getElem?_eq_some_iff.mp hd
  have e : l.drop t = d :: l.drop (t + 1) := by rw [List.drop_eq_getElem_cons h1, h2]
  refine ⟨fun x hx => ?_, e⟩
  have hp : (l.drop t).Pairwise (· < ·) := List.Pairwise.sublist (List.drop_sublist t l) h
  rw [e, List.pairwise_cons] at hp
  have := hp.1 x hx
  omega
theorem mem_take_succ {α : Type} {l : List α} {t : Nat} {d x : α} (hd : l[t]? = some d) (h : x ∈ l.take (t + 1)) : x ∈ l.take t ∨ x = d := by
  obtain ⟨h1, h2⟩ := List.getElem?_eq_some_iff.mp hd
  rw [List.take_succ_eq_append_getElem h1, h2] at h
  rcases List.mem_append.mp h with h | h
  · exact .inl h
  · exact .inr (List.mem_singleton.mp h)
/-! ### the queue: an entry is a standing and its row -/
abbrev Ent := List Bool × List Int
def Led (bs : List Bar) (s0 : List Bool) (e : Ent) : Prop := runB bs s0 e.2 = some e.1 ∧ (Low7 e.2 ∧ ∀ d ∈ e.2, 0 ≤ d ∧ d < s0.length) ∧ e.1.length = s0.length
theorem runB_snoc {bs : List Bar} : ∀ {r : List Int} {st : List Bool} {d : Int}, runB bs st (r ++ [d]) = (runB bs st r).bind fun s => if goesB bs s d = true then some (flip s d) else none
  | [], st, d => by
    show runB bs st [d] = _
    rw [runB_cons]
    rfl
  | x :: r, st, d => by
    show runB bs st (x :: (r ++ [d])) = _
    rw [runB_cons, runB_cons]
    by_cases q : goesB bs st x = true
    · rw [if_pos q, if_pos q]
      exact runB_snoc
    · rw [if_neg q, if_neg q]
      rfl
theorem Led.step {bs : List Bar} {s0 : List Bool} {p : Ent} {d : Int} (L : Led bs s0 p) (hd : d ∈ freeL bs p.1) (h7 : s0.length ≤ 7) : Led bs s0 (flip p.1 d, p.2 ++ [d]) := by
  obtain ⟨⟨d0, d1⟩, hg⟩ := free_mem.mp hd
  refine ⟨?_, ⟨fun x hx => ?_, fun x hx => ?_⟩, by rw [flip_len]; exact L.2.2⟩
  · show runB bs s0 (p.2 ++ [d]) = _
    rw [runB_snoc, L.1, Option.bind_some, if_pos hg]
  · rcases List.mem_append.mp hx with hx | hx
    · exact L.2.1.1 x hx
    · rw [List.mem_singleton.mp hx]
      have := L.2.2
      omega
  · rcases List.mem_append.mp hx with hx | hx
    · exact L.2.1.2 x hx
    · rw [List.mem_singleton.mp hx]
      have := L.2.2
      omega
structure BI (bs : List Bar) (s0 : List Bool) (i : Nat) (es : List Ent) : Prop where
  nd : (es.map (·.1)).Nodup
  asc : Asc (es.map (·.2)) i
  led : ∀ e ∈ es, Led bs s0 e
  ex : ∀ (j : Nat) (p : Ent), j < i → es[j]? = some p → ∀ d ∈ freeL bs p.1, ∃ e ∈ es, e.1 = flip p.1 d ∧ rcode e.2 ≤ rcode (p.2 ++ [d]) ∧ e.2.length ≤ p.2.length + 1
  root : (s0, []) ∈ es
structure BD (bs : List Bar) (s0 : List Bool) (i : Nat) (p : Ent) (t : Nat) (D : Int) (es : List Ent) : Prop where
  nd : (es.map (·.1)).Nodup
  asc : AscD (es.map (·.2)) i p.2 D
  led : ∀ e ∈ es, Led bs s0 e
  at' : es[i]? = some p
  ex : ∀ (j : Nat) (p : Ent), j < i → es[j]? = some p → ∀ d ∈ freeL bs p.1, ∃ e ∈ es, e.1 = flip p.1 d ∧ rcode e.2 ≤ rcode (p.2 ++ [d]) ∧ e.2.length ≤ p.2.length + 1
  exd : ∀ d ∈ (freeL bs p.1).take t, ∃ e ∈ es, e.1 = flip p.1 d ∧ rcode e.2 ≤ rcode (p.2 ++ [d]) ∧ e.2.length ≤ p.2.length + 1
  dle : ∀ d ∈ (freeL bs p.1).drop t, D ≤ d
  root : (s0, []) ∈ es
theorem BD.done {bs : List Bar} {s0 : List Bool} {i : Nat} {p : Ent} {D : Int} {es : List Ent} (B : BD bs s0 i p (freeL bs p.1).length D es) : BI bs s0 (i + 1) es := by
  refine ⟨B.nd, B.asc.done, B.led, fun j q hj hq => ?_, B.root⟩
  by_cases e : j = i
  · subst e
    rw [B.at'] at hq
    cases hq
    have := B.exd
    rw [List.take_length] at this
    exact this
  · exact B.ex j q (by omega) hq
theorem BD.free {bs : List Bar} {s0 : List Bool} {i : Nat} {p : Ent} {t : Nat} {D : Int} {es : List Ent} (B : BD bs s0 i p t D es) {d : Int} (hd : (freeL bs p.1)[t]? = some d) (h7 : s0.length ≤ 7) :
    d ∈ freeL bs p.1 ∧ D ≤ d ∧ 0 ≤ d ∧ d ≤ 6 := by
  have hm := List.mem_of_getElem? hd
  obtain ⟨d0, d1⟩ := free_in hm
  have := (B.led p (List.mem_of_getElem? B.at')).2.2
  obtain ⟨_, e⟩ := pw_drop (free_pw bs p.1) hd
  exact ⟨hm, B.dle d (by rw [e]; exact List.mem_cons_self), d0, by omega⟩
theorem BD.old {bs : List Bar} {s0 : List Bool} {i : Nat} {p : Ent} {t : Nat} {D : Int} {es : List Ent} (B : BD bs s0 i p t D es) {d : Int} (hd : (freeL bs p.1)[t]? = some d) (h7 : s0.length ≤ 7) (h : flip p.1 d ∈ es.map (·.1)) : BD bs s0 i p (t + 1) (d + 1) es := by
  obtain ⟨hm, hD, d0, d6⟩ := B.free hd h7
  refine ⟨B.nd, B.asc.up (by omega), B.led, B.at', B.ex, fun x hx => ?_, (pw_drop (free_pw bs p.1) hd).1, B.root⟩
  rcases mem_take_succ hd hx with hx | rfl
  · exact B.exd x hx
  · obtain ⟨e, he, h1⟩ := List.mem_map.mp h
    obtain ⟨b1, b2⟩ := B.asc.below hD d0 e.2 (List.mem_map.mpr ⟨e, he, rfl⟩)
    rw [List.length_append] at b2
    exact ⟨e, he, h1, Int.le_of_lt b1, b2⟩
theorem BD.new {bs : List Bar} {s0 : List Bool} {i : Nat} {p : Ent} {t : Nat} {D : Int} {es : List Ent} (B : BD bs s0 i p t D es) {d : Int} (hd : (freeL bs p.1)[t]? = some d) (h7 : s0.length ≤ 7) (h : ¬ flip p.1 d ∈ es.map (·.1)) : BD bs s0 i p (t + 1) (d + 1) (es ++ [(flip p.1 d, p.2 ++ [d])]) := by
  obtain ⟨hm, hD, d0, d6⟩ := B.free hd h7
  have mono : ∀ {e : Ent}, e ∈ es → e ∈ es ++ [(flip p.1 d, p.2 ++ [d])] := fun he => List.mem_append_left _ he
  refine ⟨?_, ?_, fun e he => ?_, ?_, fun j q hj hq x hx => ?_, fun x hx => ?_, (pw_drop (free_pw bs p.1) hd).1, mono B.root⟩
  · rw [List.map_append, List.nodup_append]
    refine ⟨B.nd, by simp, fun x hx y hy => ?_⟩
    rw [List.mem_singleton.mp hy]
    intro z
    have z' : x = flip p.1 d := z
    rw [z'] at hx
    exact h hx
  · rw [List.map_append]
    exact B.asc.add hD d0 d6
  · rcases List.mem_append.mp he with he | he
    · exact B.led e he
    · rw [List.mem_singleton.mp he]
      exact (B.led p (List.mem_of_getElem? B.at')).step hm h7
  · rw [List.getElem?_append_left (List.getElem?_eq_some_iff.mp B.at').1]
    exact B.at'
  · have hq' : es[j]? = some q := by
      have := (List.getElem?_eq_some_iff.mp B.at').1
      rw [List.getElem?_append_left (by omega)] at hq
      exact hq
    obtain ⟨e, he, h1⟩ := B.ex j q hj hq' x hx
    exact ⟨e, mono he, h1⟩
  · rcases mem_take_succ hd hx with hx | rfl
    · obtain ⟨e, he, h1⟩ := B.exd x hx
      exact ⟨e, mono he, h1⟩
    · exact ⟨_, List.mem_append_right _ (List.mem_singleton.mpr rfl), rfl, Int.le_refl _, by rw [List.length_append]; exact Nat.le_refl _⟩
/-- every row that goes ends where an entry stands whose row is not behind it -/
theorem BI.opt {bs : List Bar} {s0 : List Bool} {es : List Ent} (B : BI bs s0 es.length es) (h7 : s0.length ≤ 7) : ∀ (r : List Int), (∀ d ∈ r, 0 ≤ d ∧ d < s0.length) → ∀ st, runB bs s0 r = some st → ∃ e ∈ es, e.1 = st ∧ rcode e.2 ≤ rcode r ∧ e.2.length ≤ r.length := by
  intro r
  refine snoc_ind (p := fun (r : List Int) => (∀ d ∈ r, 0 ≤ d ∧ d < s0.length) → ∀ st, runB bs s0 r = some st → ∃ e ∈ es, e.1 = st ∧ rcode e.2 ≤ rcode r ∧ e.2.length ≤ r.length) (fun _ st h => ?_) (fun l d ih hl st h => ?_) r
  · cases h
    exact ⟨_, B.root, rfl, Int.le_refl _, Nat.le_refl _⟩
  · rw [runB_snoc] at h
    cases hr : runB bs s0 l with
    | none => rw [hr] at h; cases h
    | some s1 =>
      rw [hr, Option.bind_some] at h
      by_cases hg : goesB bs s1 d = true
      · rw [if_pos hg] at h
        cases h
        obtain ⟨e, he, h1, h2, h3⟩ := ih (fun x hx => hl x (List.mem_append_left _ hx)) s1 hr
        obtain ⟨j, hj⟩ := List.getElem?_of_mem he
        have el := (B.led e he).2.2
        have hdm : d ∈ freeL bs e.1 := free_mem.mpr ⟨by have := hl d (List.mem_append_right _ (List.mem_singleton.mpr rfl)); omega, by rw [h1]; exact hg⟩
        obtain ⟨f, hf, g1, g2, g3⟩ := B.ex j e (List.getElem?_eq_some_iff.mp hj).1 hj d hdm
        refine ⟨f, hf, by rw [g1, h1], ?_, ?_⟩
        · rw [rcode_snoc] at g2 ⊢
          omega
        · rw [List.length_append]
          show f.2.length ≤ l.length + 1
          omega
      · rw [if_neg hg] at h
        cases h
/-! ### there are not many standings -/
end DL

set_option Elab.async false
set_option maxRecDepth 100000
namespace DL
open PySem L2 HT TL
/-! ### a dict that is made within a for's head is read only from then on -/
/-! ### rows in a dict -/
abbrev KEnt := Addr × Ent
def kvsOf (ks : List KEnt) : List (Key × V) := ks.map fun k => (.inr (sstr k.2.1), .ref k.1)
structure RowsEl (H : Hp) (ks : List KEnt) : Prop where
  el : ∀ k ∈ ks, H k.1 = some (.tup (k.2.2.map V.int))
theorem RowsEl.same {H H' : Hp} {ks : List KEnt} (R : RowsEl H ks) (s : Same H H') : RowsEl H' ks := ⟨fun k hk => s _ _ (R.el k hk)⟩
end DL

set_option Elab.async false
set_option maxRecDepth 100000
namespace DL
open PySem L2 HT TL
/-! ### all rows, one pull longer at each turn; the first one that leads to a standing -/
theorem nd_eq {es : List Ent} (nd : (es.map (·.1)).Nodup) : ∀ {a b : Ent}, a ∈ es → b ∈ es → a.1 = b.1 → a = b := by
  induction es with
  | nil => intro a b ha; cases ha
  | cons x es ih =>
    intro a b ha hb e
    rw [List.map_cons, List.nodup_cons] at nd
    rcases List.mem_cons.mp ha with qa | ha'
    · rcases List.mem_cons.mp hb with qb | hb'
      · rw [qa, qb]
      · have hm : x.1 ∈ es.map (·.1) := List.mem_map.mpr ⟨b, hb', by rw [← e, qa]⟩
        exact absurd hm nd.1
    · rcases List.mem_cons.mp hb with qb | hb'
      · have hm : x.1 ∈ es.map (·.1) := List.mem_map.mpr ⟨a, ha', by rw [e, qb]⟩
        exact absurd hm nd.1
      · exact ih nd.2 ha' hb' e
structure LI (bs : List Bar) (s0 : List Bool) (i : Nat) (cat fst : List Ent) : Prop where
  asc : Asc (cat.map (·.2)) i
  led : ∀ e ∈ cat, Led bs s0 e
  ex : ∀ (j : Nat) (p : Ent), j < i → cat[j]? = some p → ∀ d ∈ freeL bs p.1, (flip p.1 d, p.2 ++ [d]) ∈ cat
  root : (s0, []) ∈ cat
  fnd : (fst.map (·.1)).Nodup
  fin : ∀ e ∈ fst, e ∈ cat
  fco : ∀ x ∈ cat, ∃ e ∈ fst, e.1 = x.1 ∧ rcode e.2 ≤ rcode x.2
structure LD (bs : List Bar) (s0 : List Bool) (i : Nat) (p : Ent) (t : Nat) (D : Int) (cat fst : List Ent) : Prop where
  asc : AscD (cat.map (·.2)) i p.2 D
  led : ∀ e ∈ cat, Led bs s0 e
  at' : cat[i]? = some p
  ex : ∀ (j : Nat) (p : Ent), j < i → cat[j]? = some p → ∀ d ∈ freeL bs p.1, (flip p.1 d, p.2 ++ [d]) ∈ cat
  exd : ∀ d ∈ (freeL bs p.1).take t, (flip p.1 d, p.2 ++ [d]) ∈ cat
  dle : ∀ d ∈ (freeL bs p.1).drop t, D ≤ d
  root : (s0, []) ∈ cat
  fnd : (fst.map (·.1)).Nodup
  fin : ∀ e ∈ fst, e ∈ cat
  fco : ∀ x ∈ cat, ∃ e ∈ fst, e.1 = x.1 ∧ rcode e.2 ≤ rcode x.2
theorem LD.done {bs : List Bar} {s0 : List Bool} {i : Nat} {p : Ent} {D : Int} {cat fst : List Ent} (B : LD bs s0 i p (freeL bs p.1).length D cat fst) : LI bs s0 (i + 1) cat fst := by
  refine ⟨B.asc.done, B.led, fun j q hj hq => ?_, B.root, B.fnd, B.fin, B.fco⟩
  by_cases e : j = i
  · subst e
    rw [B.at'] at hq
    cases hq
    have := B.exd
    rw [List.take_length] at this
    exact this
  · exact B.ex j q (by omega) hq
theorem LD.free {bs : List Bar} {s0 : List Bool} {i : Nat} {p : Ent} {t : Nat} {D : Int} {cat fst : List Ent} (B : LD bs s0 i p t D cat fst) {d : Int} (hd : (freeL bs p.1)[t]? = some d) (h7 : s0.length ≤ 7) :
    d ∈ freeL bs p.1 ∧ D ≤ d ∧ 0 ≤ d ∧ d ≤ 6 := by
  have hm := List.mem_of_getElem? hd
  obtain ⟨d0, d1⟩ := free_in hm
  have := (B.led p (List.mem_of_getElem? B.at')).2.2
  obtain ⟨_, e⟩ := pw_drop (free_pw bs p.1) hd
  exact ⟨hm, B.dle d (by rw [e]; exact List.mem_cons_self), d0, by omega⟩
def addF (fst : List Ent) (e : Ent) : List Ent := if e.1 ∈ fst.map (·.1) then fst else fst ++ [e]
theorem LD.add {bs : List Bar} {s0 : List Bool} {i : Nat} {p : Ent} {t : Nat} {D : Int} {cat fst : List Ent} (B : LD bs s0 i p t D cat fst) {d : Int} (hd : (freeL bs p.1)[t]? = some d) (h7 : s0.length ≤ 7) :
    LD bs s0 i p (t + 1) (d + 1) (cat ++ [(flip p.1 d, p.2 ++ [d])]) (addF fst (flip p.1 d, p.2 ++ [d])) := by
  obtain ⟨hm, hD, d0, d6⟩ := B.free hd h7
  have mono : ∀ {e : Ent}, e ∈ cat → e ∈ cat ++ [(flip p.1 d, p.2 ++ [d])] := fun he => List.mem_append_left _ he
  have last : (flip p.1 d, p.2 ++ [d]) ∈ cat ++ [(flip p.1 d, p.2 ++ [d])] := List.mem_append_right _ (List.mem_singleton.mpr rfl)
  have fsub : ∀ {e : Ent}, e ∈ fst → e ∈ addF fst (flip p.1 d, p.2 ++ [d]) := fun he => by
    unfold addF
    by_cases z : (flip p.1 d, p.2 ++ [d]).1 ∈ fst.map (·.1)
    · rw [if_pos z]; exact he
    · rw [if_neg z]; exact List.mem_append_left _ he
  refine ⟨?_, fun e he => ?_, ?_, fun j q hj hq x hx => ?_, fun x hx => ?_, (pw_drop (free_pw bs p.1) hd).1, mono B.root, ?_, fun e he => ?_, fun x hx => ?_⟩
  · rw [List.map_append]
    exact B.asc.add hD d0 d6
  · rcases List.mem_append.mp he with he | he
    · exact B.led e he
    · rw [List.mem_singleton.mp he]
      exact (B.led p (List.mem_of_getElem? B.at')).step hm h7
  · rw [List.getElem?_append_left (List.getElem?_eq_some_iff.mp B.at').1]
    exact B.at'
  · have hq' : cat[j]? = some q := by
      have := (List.getElem?_eq_some_iff.mp B.at').1
      rw [List.getElem?_append_left (by omega)] at hq
      exact hq
    exact mono (B.ex j q hj hq' x hx)
  · rcases mem_take_succ hd hx with hx | rfl
    · exact mono (B.exd x hx)
    · exact last
  · unfold addF
    by_cases z : (flip p.1 d, p.2 ++ [d]).1 ∈ fst.map (·.1)
    · rw [if_pos z]; exact B.fnd
    · rw [if_neg z, List.map_append, List.nodup_append]
      refine ⟨B.fnd, by simp, fun x hx y hy q => ?_⟩
      have e1 : y = (flip p.1 d, p.2 ++ [d]).1 := List.mem_singleton.mp hy
      rw [← e1, ← q] at z
      exact z hx
  · unfold addF at he
    by_cases z : (flip p.1 d, p.2 ++ [d]).1 ∈ fst.map (·.1)
    · rw [if_pos z] at he; exact mono (B.fin e he)
    · rw [if_neg z] at he
      rcases List.mem_append.mp he with he | he
      · exact mono (B.fin e he)
      · rw [List.mem_singleton.mp he]; exact last
  · rcases List.mem_append.mp hx with hx | hx
    · obtain ⟨e, he, h1⟩ := B.fco x hx
      exact ⟨e, fsub he, h1⟩
    · rw [List.mem_singleton.mp hx]
      by_cases z : (flip p.1 d, p.2 ++ [d]).1 ∈ fst.map (·.1)
      · obtain ⟨e, he, h1⟩ := List.mem_map.mp z
        have := (B.asc.below hD d0 e.2 (List.mem_map.mpr ⟨e, B.fin e he, rfl⟩)).1
        exact ⟨e, fsub he, h1, Int.le_of_lt this⟩
      · refine ⟨_, ?_, rfl, Int.le_refl _⟩
        unfold addF
        rw [if_neg z]
        exact List.mem_append_right _ (List.mem_singleton.mpr rfl)
/-- those from the i-th on have k pulls, none has more -/
structure LV (k i : Nat) (cat : List Ent) : Prop where
  le : ∀ x ∈ cat, x.2.length ≤ k
  eq : ∀ x ∈ cat.drop i, x.2.length = k
theorem LI.all {bs : List Bar} {s0 : List Bool} {i k : Nat} {cat fst : List Ent} (B : LI bs s0 i cat fst) (V : LV k i cat) : ∀ (r : List Int), (∀ d ∈ r, 0 ≤ d ∧ d < s0.length) → r.length ≤ k → ∀ st, runB bs s0 r = some st → (st, r) ∈ cat := by
  intro r
  refine snoc_ind (p := fun (r : List Int) => (∀ d ∈ r, 0 ≤ d ∧ d < s0.length) → r.length ≤ k → ∀ st, runB bs s0 r = some st → (st, r) ∈ cat) (fun _ _ st h => ?_) (fun l d ih hl hk st h => ?_) r
  · cases h
    exact B.root
  · rw [List.length_append] at hk
    have hk : l.length + 1 ≤ k := hk
    rw [runB_snoc] at h
    cases hr : runB bs s0 l with
    | none => rw [hr] at h; cases h
    | some s1 =>
      rw [hr, Option.bind_some] at h
      by_cases hg : goesB bs s1 d = true
      · rw [if_pos hg] at h
        cases h
        have hm := ih (fun x hx => hl x (List.mem_append_left _ hx)) (by omega) s1 hr
        obtain ⟨j, hj⟩ := List.getElem?_of_mem hm
        have el := (B.led _ hm).2.2
        have el : s1.length = s0.length := el
        have hji : j < i := by
          rcases Nat.lt_or_ge j i with h | h
          · exact h
          · have : (s1, l) ∈ cat.drop i := by
              have e : (cat.drop i)[j - i]? = some (s1, l) := by
                rw [List.getElem?_drop, show i + (j - i) = j by omega]
                exact hj
              exact List.mem_of_getElem? e
            have := V.eq _ this
            have : l.length = k := this
            omega
        exact B.ex j _ hji hj d (free_mem.mpr ⟨by have := hl d (List.mem_append_right _ (List.mem_singleton.mpr rfl)); show 0 ≤ d ∧ d < s1.length; omega, hg⟩)
      · rw [if_neg hg] at h
        cases h
/-! ### a standing as a pattern -/
end DL

set_option Elab.async false
set_option maxRecDepth 100000

set_option Elab.async false
set_option maxRecDepth 100000
namespace DL
open PySem L2 HT TL
/-! ### two queues that came to their end hold the same -/
theorem sub_asc {es es' : List Ent} (h1 : (es.map (·.2)).Pairwise Bef) (h2 : (es'.map (·.2)).Pairwise Bef) (hs : ∀ e, e ∈ es ↔ e ∈ es') : es = es' := by
  induction es generalizing es' with
  | nil =>
    cases es' with
    | nil => rfl
    | cons b es' => exact absurd ((hs b).mpr List.mem_cons_self) (by simp)
  | cons a es ih =>
    cases es' with
    | nil => exact absurd ((hs a).mp List.mem_cons_self) (by simp)
    | cons b es' =>
      rw [List.map_cons, List.pairwise_cons] at h1 h2
      have hab : a = b := by
        rcases List.mem_cons.mp ((hs a).mp List.mem_cons_self) with q | q
        · exact q
        · rcases List.mem_cons.mp ((hs b).mpr List.mem_cons_self) with q' | q'
          · exact q'.symm
          · have z1 := (h1.1 b.2 (List.mem_map.mpr ⟨b, q', rfl⟩)).1
            have z2 := (h2.1 a.2 (List.mem_map.mpr ⟨a, q, rfl⟩)).1
            omega
      subst hab
      congr 1
      refine ih h1.2 h2.2 fun e => ⟨fun he => ?_, fun he => ?_⟩
      · rcases List.mem_cons.mp ((hs e).mp (List.mem_cons_of_mem _ he)) with q | q
        · have z1 := (h1.1 e.2 (List.mem_map.mpr ⟨e, he, rfl⟩)).1
          rw [q] at z1
          omega
        · exact q
      · rcases List.mem_cons.mp ((hs e).mpr (List.mem_cons_of_mem _ he)) with q | q
        · have z1 := (h2.1 e.2 (List.mem_map.mpr ⟨e, he, rfl⟩)).1
          rw [q] at z1
          omega
        · exact q
theorem BI.sub {bs : List Bar} {s0 : List Bool} {es es' : List Ent} (I : BI bs s0 es.length es) (I' : BI bs s0 es'.length es') (h7 : s0.length ≤ 7) {e : Ent} (he : e ∈ es) : e ∈ es' := by
  obtain ⟨m1, ⟨m2, m3⟩, m4⟩ := I.led e he
  obtain ⟨f, hf, g1, g2, _⟩ := I'.opt h7 e.2 m3 e.1 m1
  obtain ⟨n1, ⟨n2, n3⟩, n4⟩ := I'.led f hf
  obtain ⟨e', he', k1, k2, _⟩ := I.opt h7 f.2 n3 f.1 n1
  have : e' = e := nd_eq I.nd he' he (by rw [k1, g1])
  subst this
  have : f = e' := Prod.ext g1 (rcode_inj n2 m2 (by omega))
  rw [← this]
  exact hf
theorem BI.same {bs : List Bar} {s0 : List Bool} {es es' : List Ent} (I : BI bs s0 es.length es) (I' : BI bs s0 es'.length es') (h7 : s0.length ≤ 7) : es = es' :=
  sub_asc I.asc.pw I'.asc.pw fun _ => ⟨I.sub I' h7, I'.sub I h7⟩
/-! ### sorted texts -/
/-! ### (len(a), a) < (len(b), b) -/
end DL

set_option Elab.async false
set_option maxRecDepth 100000
namespace DL
open PySem L2 HT TL
def lens (es : List Ent) : List Int := es.map fun e => (e.2.length : Int)
end DL

set_option Elab.async false
set_option maxRecDepth 100000

set_option Elab.async false
set_option maxRecDepth 100000
namespace DL
open PySem L2 HT TL
/-! ### walks over a dict of rows -/
/-- a dict of rows, locked from its making on -/
structure RowsFrz (H : Hp) (a : Addr) (od : Obj) (ks : List KEnt) : Prop where
  at' : H a = some (.frz od (.dK (kvsOf ks)))
  el : RowsEl H ks
theorem RowsFrz.same {H H' : Hp} {a : Addr} {od : Obj} {ks : List KEnt} (R : RowsFrz H a od ks) (s : Same H H') : RowsFrz H' a od ks := ⟨s _ _ R.at', R.el.same s⟩
theorem RowsFrz.but {r sc : Addr} {H H' : Hp} {a : Addr} {od : Obj} {ks : List KEnt} (R : RowsFrz H a od ks) (hR : RowOk H r sc) (B : But r H H') : RowsFrz H' a od ks := by
  obtain ⟨_, _, _, h, _⟩ := hR.h
  exact ⟨B _ _ (ne_of R.at' h (by intro z; cases z)) R.at', ⟨fun k hk => B.tup h (R.el.el k hk)⟩⟩
theorem dok_strs {l : List Str} (h : ∀ z ∈ l, PyData.strOk z = true) : dok 2 (.list (l.map PyData.str)) := dok_list fun d hd => by
  obtain ⟨z, hz, rfl⟩ := List.mem_map.mp hd
  exact dok_str (h z hz)
end DL

set_option Elab.async false
set_option maxRecDepth 100000
namespace DL
open PySem L2 HT TL RZ
/-! ### the first row that parts two cabinets -/
def InR (n : Nat) (r : List Int) : Prop := ∀ d ∈ r, 0 ≤ d ∧ d < n
section
variable {b1 b2 : List Bar} {s0 : List Bool} {es : List Ent}
theorem InR.init {n : Nat} {r : List Int} {d : Int} (h : InR n (r ++ [d])) : InR n r ∧ 0 ≤ d ∧ d < n := ⟨fun x hx => h x (List.mem_append_left _ hx), h d (List.mem_append_right _ (List.mem_singleton.mpr rfl))⟩
theorem InR.low {n : Nat} {r : List Int} (h : InR n r) (h7 : n ≤ 7) : Low7 r := fun d hd => by
  have := h d hd
  omega
end
end DL

set_option Elab.async false
set_option maxRecDepth 100000

set_option Elab.async false
set_option maxRecDepth 100000
namespace DL
open PySem L2 HT TL RZ
/-! ### == of bars as data -/
/-! ### the bars against each pull that does not go -/
structure NeedsAt (H : Hp) (x : Addr) (ks : List (Addr × Bar)) (gs : List (Addr × List (Addr × Bar))) : Prop where
  el : ∀ g ∈ gs, H g.1 = some (.lst (g.2.map fun k => V.ref k.1)) ∧ g.1 ≠ x ∧ ∀ k ∈ g.2, k ∈ ks
theorem NeedsAt.same {H H' : Hp} {x : Addr} {ks : List (Addr × Bar)} {gs : List (Addr × List (Addr × Bar))} (N : NeedsAt H x ks gs) (s : Same H H') : NeedsAt H' x ks gs := ⟨fun g hg => ⟨s _ _ (N.el g hg).1, (N.el g hg).2⟩⟩
end DL

set_option Elab.async false
set_option maxRecDepth 100000
set_option maxHeartbeats 2000000
namespace DL
open PySem PySem.Spec PyProof.Rows L2 HT TL
theorem cut_tail (x : V) (xs : List V) : cutV (x :: xs) (some 1) none = xs := by
  unfold cutV
  have e : HT.sIx (x :: xs).length 0 (some 1) = 1 := by
    show (if (1 : Int) < 0 then ((1 : Int) + ((x :: xs).length : Int)).toNat else min (1 : Int).toNat (x :: xs).length) = 1
    rw [if_neg (by decide), List.length_cons]
    show min 1 (xs.length + 1) = 1
    omega
  rw [HT.sIx_none, e, List.length_cons, List.drop_succ_cons, List.drop_zero]
  exact List.take_of_length_le (by omega)
section
variable {P : Program} {w : World} {K : PySem.W.Frag} {mg : Str → Option Value} {base : Heap}
abbrev nRdg : List Str := ["text", "line", "lines", "drawers", "bars", "words", "bar"]
theorem scRdg : FnScope nRdg ["text"] (defScope s_read) := ⟨rfl, rfl, rfl, by decide +kernel, rfl, by decide +kernel, by decide +kernel⟩
end
end DL

set_option Elab.async false
set_option maxRecDepth 100000
set_option maxHeartbeats 2000000
namespace DL
open PySem PySem.Spec PyProof.Rows L2 HT TL
/-! ### lines -/
theorem app_len (a b : Str) : (a ++ b).length = a.length + b.length := by
  show (a ++ b).cps.size = a.cps.size + b.cps.size
  rw [← Array.length_toList, ← Array.length_toList, ← Array.length_toList]
  exact (congrArg List.length (TL.tl_append a b)).trans (List.length_append ..)
theorem tl_inj9 {a b : Str} (h : TL.tl a = TL.tl b) : a = b := PyProof.Rows.ext_toList h
theorem join_one (y a : Str) : Txt.join y [a] = a := by
  refine tl_inj9 ?_
  rw [join_eq, tl_join]
  rfl
theorem join_more (y a b : Str) (l : List Str) : Txt.join y (a :: b :: l) = a ++ (y ++ Txt.join y (b :: l)) := by
  refine tl_inj9 ?_
  rw [join_eq, tl_join, TL.tl_append, TL.tl_append, join_eq, tl_join]
  rfl
/-! ### words between spaces -/
def noSp (x : Str) : Prop := (32 : Nat) ∉ TL.tl x
theorem spaces_split {ps : List Str} (ne : ps ≠ []) (h : ∀ p ∈ ps, noSp p) : Txt.split (Txt.join " " ps) " " = ps := split_join (s := 32) (S := []) rfl (by decide +kernel) ne h
theorem words_join {ps : List Str} (ne : ps ≠ []) (h : ∀ p ∈ ps, noSp p) : wordsL (Txt.join " " ps) = ps.filter (fun x : Str => !decide (x = ("" : Str))) := by
  unfold wordsL
  rw [spaces_split ne h]
/-- good words: no spaces, no line ends, not empty -/
def Wd (x : Str) : Prop := noSp x ∧ x ≠ "" ∧ (10 : Nat) ∉ TL.tl x
end DL

set_option Elab.async false
set_option maxRecDepth 100000
set_option maxHeartbeats 1000000

set_option Elab.async false
set_option maxRecDepth 100000
set_option maxHeartbeats 2000000
namespace DL
open PySem PySem.Spec PyProof.Rows L2 HT TL
/-- the words of the lines of a cabinet's text, each in its own list -/
structure spText (vs : List V) (H : Hp) (Q : VK) (_ : XK) : Prop where
  h : ∃ (p t : Addr) (n : Int) (ks : List (Addr × Bar)), vs = [.ref p] ∧ H p = some (.lst [.int n, .ref t]) ∧ BarsAt H t ks ∧ 1 ≤ n ∧ n ≤ 7 ∧ OkBars n (ks.map (·.2)) ∧ ks.length ≤ 13 ∧
    ∀ (l : Addr) (ts : List (Addr × List Str)) (H' : Hp), Same H H' → H' l = some (.lst (ts.map fun t => V.ref t.1)) → ts.map (·.2) = [("drawers" : Str), fig n] :: (ks.map (·.2)).map barW → (∀ t ∈ ts, H' t.1 = some (.lst (t.2.map V.str))) → Q (.ref l) H'
section
variable {P : Program} {w : World} {K : PySem.W.Frag} {mg : Str → Option Value} {base : Heap}
abbrev nTx : List Str := ["_law_d", "_law_bar_here"]
theorem scTx : FnScope nTx ["_law_d"] (defScope s__law_text) := ⟨rfl, rfl, rfl, by decide +kernel, rfl, by decide +kernel, by decide +kernel⟩
theorem ok_lawText {f : Addr} {fd : FuncData} (F : Fun K "_law_text" "_law_text" s__law_text f fd) (zS : mg "str" = none) : FnOk P w K mg base CX0 1 f fd ["_law_d"] spText := by
  refine F.ok scTx (fun vs H Q E h => ?_) (fun cdv A outer s H vs Q E hr h => ?_)
  · obtain ⟨p, t, n, ks, rfl, _⟩ := h.h
    rfl
  · obtain ⟨p, t, n, ks, rfl, hp, hB, n1, n7, hO, k13, k⟩ := h.h
    refine ⟨_, pss_one (ps_ret (pe_op op_cat
      (pe_lst (pa_cons (pe_lst (pa_cons pe_str (pa_cons (pe_callTy call_str_int (by rfl) zS (by decide +kernel) (pa_cons (pe_ix ix_list (pv 0) pe_int (fun _ _ => rfl)) pa_nil)) pa_nil))) pa_nil))
      (pe_lc (own := [("_law_bar_here", 1)]) (g := gName 1) (tt := tYes) (by rfl) scTx.nd (pi_tup (pe_ix ix_list (pv 0) pe_int (fun _ _ => rfl))) (blkOk_by (N := nTx) (sc := defScope s__law_text) (by decide +kernel)) (fun _ _ _ _ _ => pg_name (i := 1) scTx.nd rfl (Or.inl rfl)) (fun _ _ _ _ _ => pts_nil)
        (fun _ _ _ _ _ => pe_lst (pa_cons pe_str (pa_cons (pe_callTy call_str_int (by rfl) zS (by decide +kernel) (pa_cons (pe_ix (ix_tupK (K := K) rfl) (pv 1) pe_int (fun _ _ => rfl)) pa_nil)) (pa_cons (pe_ix (ix_tupK (K := K) rfl) (pv 1) pe_int (fun _ _ => rfl)) (pa_cons (pe_callTy call_str_int (by rfl) zS (by decide +kernel) (pa_cons (pe_ix (ix_tupK (K := K) rfl) (pv 1) pe_int (fun _ _ => rfl)) pa_nil)) (pa_cons (pe_ix (ix_tupK (K := K) rfl) (pv 1) pe_int (fun _ _ => rfl)) pa_nil))))))))), ?_⟩
    refine ⟨_, rfl, p, _, 0, .int n, rfl, rfl, SqL.of hp, atI_nat (j := 0) rfl, n, rfl, small_log (by omega) (by omega), (by show 2 ≤ sizeLine; decide), fun l0 n0 => ?_⟩
    obtain ⟨s0, f0⟩ := new_at (o := .lst [.str ("drawers" : Str), .str (fig n)]) n0
    have e0 : (upd H l0 (.lst [.str ("drawers" : Str), .str (toString n)])) = upd H l0 (.lst [.str ("drawers" : Str), .str (fig n)]) := rfl
    rw [e0]
    have hp0 := s0 _ _ hp
    have hB0 := hB.same s0
    generalize upd H l0 (.lst [.str ("drawers" : Str), .str (fig n)]) = H0 at s0 f0 hp0 hB0 ⊢
    refine ⟨(by show 1 ≤ sizeLine; decide), fun a na => ?_⟩
    obtain ⟨s1, f1⟩ := new_at (o := .lst [.ref l0]) na
    have hp1 := s1 _ _ hp0
    have hB1 := hB0.same s1
    have f01 := s1 _ _ f0
    have s01 := s0.trans s1
    generalize upd H0 a (.lst [.ref l0]) = H1 at s1 f1 hp1 hB1 f01 s01 ⊢
    refine ⟨_, rfl, p, _, 1, .ref t, rfl, rfl, SqL.of hp1, atI_nat (j := 1) rfl, t, rfl, ⟨_, SqT.of' hB1.tu⟩, fun D nD => ?_⟩
    have nDl0 : l0 ≠ D := ne_of_none f01 nD
    refine lc_it (walk_tup (K := K) (a := t) (xs := ks.map fun k => V.ref k.1)) (fun i H' => Same H1 H' ∧ ∃ ts : List (Addr × List Str), H' D = some (.lst (ts.map fun t => V.ref t.1)) ∧ ts.map (·.2) = ((ks.map (·.2)).take i).map barW ∧ ∀ t ∈ ts, H' t.1 = some (.lst (t.2.map V.str)) ∧ t.1 ≠ D)
      ⟨same_upd nD, [], upd_same, rfl, fun t ht => (by cases ht)⟩ (fun i H' _ q => SqT.of' (q.1 _ _ hB1.tu)) ?_ ?_
    · rintro i x H2 H3 hi ⟨s2, ts, hD, et, ht⟩ ⟨rfl, ex⟩
      rw [List.getElem?_map] at ex
      cases ey : ks[i]? with
      | none => rw [ey] at ex; cases ex
      | some y =>
        rw [ey] at ex
        cases ex
        have hm := List.mem_of_getElem? ey
        have hel := s2 _ _ (hB1.el y hm)
        obtain ⟨d0, d1, o0, o1, _⟩ := hO.ok y.2 (List.mem_map_of_mem (f := (·.2)) hm)
        have tl : ts.length = i := by
          have := congrArg List.length et
          rw [List.length_map, List.length_map, List.length_take, List.length_map] at this
          have := (List.getElem?_eq_some_iff.mp ey).1
          omega
        have i13 : i < 13 := by
          have := (List.getElem?_eq_some_iff.mp ey).1
          omega
        refine ⟨rfl, tYes_of (iteT ?_)⟩
        refine ⟨_, rfl, y.1, _, 0, .int y.2.d, rfl, rfl, SqT.of' hel, atI_nat (j := 0) rfl, _, rfl, small_log d0 (by omega), _, rfl, y.1, _, 1, .str (wd y.2.w), rfl, rfl, SqT.of' hel, atI_nat (j := 1) rfl, _, rfl, y.1, _, 2, .int y.2.o, rfl, rfl, SqT.of' hel, atI_nat (j := 2) rfl, _, rfl, small_log o0 (by omega), _, rfl, y.1, _, 3, .str (wd y.2.t), rfl, rfl, SqT.of' hel, atI_nat (j := 3) rfl, (by show 5 ≤ sizeLine; decide), fun l nl => ?_⟩
        obtain ⟨s3, f3⟩ := new_at (o := .lst ((barW y.2).map V.str)) nl
        show ∃ acc, (upd H3 l (.lst ((barW y.2).map V.str))) D = some (.lst acc) ∧ _
        have hD3 := s3 _ _ hD
        have nlD : l ≠ D := (ne_of_none hD nl).symm
        refine ⟨_, hD3, by rw [List.length_map]; exact small1000 (by omega), fun b o e => ?_, ts ++ [(l, barW y.2)], by rw [upd_same, List.map_append]; rfl, ?_, fun t h => ?_⟩
        · rw [upd_ne (ne_of_none e nD)]
          exact s3 _ _ (s2 _ _ e)
        · have ey2 : (ks.map (·.2))[i]? = some y.2 := by rw [List.getElem?_map, ey]; rfl
          obtain ⟨h1, h2⟩ := List.getElem?_eq_some_iff.mp ey2
          rw [List.map_append, et, List.take_succ_eq_append_getElem h1, h2, List.map_append]
          rfl
        · rcases List.mem_append.mp h with h | h
          · obtain ⟨q1, q2⟩ := ht t h
            exact ⟨by rw [upd_ne q2]; exact s3 _ _ q1, q2⟩
          · rw [List.mem_singleton.mp h]
            exact ⟨by rw [upd_ne nlD]; exact f3, nlD⟩
    rintro H2 ⟨s2, ts, hD, et, ht⟩
    rw [List.length_map] at et
    rw [show ks.length = (ks.map (·.2)).length from (List.length_map _).symm, List.take_length] at et
    have tl : ts.length = ks.length := by
      have := congrArg List.length et
      rw [List.length_map, List.length_map, List.length_map] at this
      exact this
    refine ⟨a, D, _, _, rfl, rfl, s2 _ _ f1, hD, by rw [List.length_map]; exact Nat.le_of_lt (small1000 (n := 1 + ts.length) (by omega)), fun q nq => ?_⟩
    obtain ⟨s3, f3⟩ := new_at (o := .lst ([V.ref l0] ++ ts.map fun t => V.ref t.1)) nq
    have e3 : ([V.ref l0] ++ ts.map fun t => V.ref t.1) = ((l0, [("drawers" : Str), fig n]) :: ts).map fun t => V.ref t.1 := rfl
    rw [e3] at f3 s3 ⊢
    refine k q ((l0, [("drawers" : Str), fig n]) :: ts) _ ((s01.trans s2).trans s3) f3 (by rw [List.map_cons, et]) fun t h => ?_
    rcases List.mem_cons.mp h with rfl | h
    · exact s3 _ _ (s2 _ _ f01)
    · exact s3 _ _ (ht t h).1
end
end DL

set_option Elab.async false
set_option maxRecDepth 100000
set_option maxHeartbeats 2000000
namespace DL
open PySem PySem.Spec PyProof.Rows L2 HT TL
theorem join_len (y : Str) : ∀ l : List Str, (Txt.join y l).length ≤ (l.map (·.length)).sum + l.length * y.length
  | [] => by
    have e : (Txt.join y []).length = 0 := by
      have : Txt.join y [] = Str.empty := by
        refine tl_inj9 ?_
        rw [join_eq, tl_join]
        rfl
      rw [this]
      decide +kernel
    rw [e]
    exact Nat.zero_le _
  | [a] => by
    rw [join_one]
    simp
  | a :: b :: l => by
    have ih := join_len y (b :: l)
    rw [join_more, app_len, app_len, List.map_cons, List.sum_cons, List.length_cons (as := b :: l), Nat.add_mul, Nat.one_mul]
    omega
theorem sum_le {l : List Nat} {m : Nat} (h : ∀ x ∈ l, x ≤ m) : l.sum ≤ l.length * m := by
  induction l with
  | nil => exact Nat.zero_le _
  | cons a l ih =>
    have h1 := h a List.mem_cons_self
    have h2 := ih fun x hx => h x (List.mem_cons_of_mem _ hx)
    rw [List.sum_cons, List.length_cons, Nat.add_mul, Nat.one_mul]
    omega
/-! ### what such a line reads as -/
end DL

set_option Elab.async false
set_option maxRecDepth 100000
set_option maxHeartbeats 4000000
namespace DL
open PySem PySem.Spec PyProof.Rows L2 HT TL
theorem mt_joinK {X : Cx} {K : PySem.W.Frag} (hK : X.K = K) : MtR X "str.join" (fun x xs H Q => ∃ a p, ∃ ys : List Str, x = .str a ∧ xs = [.ref p] ∧ (SqL K H p (ys.map V.str) ∨ SqT K H p (ys.map V.str)) ∧
    (ys.map (·.length)).sum + ys.length * a.length ≤ 16777216 ∧ Q (.str (Txt.join a ys)) H) := by
  subst hK
  exact mt_join
/-- the words of the lines -/
def WW (n : Int) (bs : List Bar) : List (List Str) := [("drawers" : Str), fig n] :: bs.map barW
theorem join_nl {ps : List Str} (h : ∀ p ∈ ps, (10 : Nat) ∉ TL.tl p) : (10 : Nat) ∉ TL.tl (Txt.join " " ps) := by
  rw [join_eq, tl_join]
  have t1 : TL.tl (" " : Str) = [32] := by decide +kernel
  rw [t1]
  have gen : ∀ l : List (List Nat), (∀ x ∈ l, (10 : Nat) ∉ x) → (10 : Nat) ∉ joinL [32] l := fun l => by
    induction l with
    | nil => intro _ z; cases z
    | cons a l ih =>
      intro hl
      cases l with
      | nil => exact hl a List.mem_cons_self
      | cons b l =>
        show (10 : Nat) ∉ a ++ ([32] ++ joinL [32] (b :: l))
        intro z
        rcases List.mem_append.mp z with z | z
        · exact hl a List.mem_cons_self z
        · rcases List.mem_append.mp z with z | z
          · exact absurd (List.mem_singleton.mp z) (by decide)
          · exact ih (fun x hx => hl x (List.mem_cons_of_mem _ hx)) z
  refine gen _ fun x hx => ?_
  obtain ⟨p, hp, rfl⟩ := List.mem_map.mp hx
  exact h p hp
/-- a line whose words are these -/
def Good (y : Str) (ws : List Str) : Prop := wordsL y = ws ∧ y.length ≤ 1000 ∧ (Txt.split y " ").length ≤ 1000 ∧ (10 : Nat) ∉ TL.tl y
end DL

set_option Elab.async false
set_option maxRecDepth 100000
set_option maxHeartbeats 4000000
namespace DL
open PySem PySem.Spec PyProof.Rows L2 HT TL
/-! ### texts that are read or refused -/
def barLe (p q : List Str) : Bool := !PySem.W.listLt q p
def wrBar (N : Nat) (ws : List Str) (ah : Option (List Str)) : Option Nat := match chk ws (lots N ws) 1 with
  | some j => some j
  | none => match ah with
    | none => none
    | some a => if barLe (ws.drop 1) a = true then some 6 else none
def wrBars (N : Nat) : List (List Str) → Nat → Option (List Str) → Option (Nat × Nat)
  | [], _, _ => none
  | ws :: r, k, ah => match wrBar N ws ah with
    | some j => some (k, j)
    | none => wrBars N r (k + 1) (some (ws.drop 1))
def num (ws : List Str) : Nat := ((PySem.intText? (ws.getD 1 "")).getD 0).toNat
/-- the first line and word that cannot stand -/
def wrong : List (List Str) → Option (Nat × Nat)
  | [] => none
  | w0 :: r => match chk w0 lotsD 1 with
    | some j => some (1, j)
    | none => wrBars (num w0) r 2 none
theorem wrong_cons (w0 : List Str) (r : List (List Str)) : wrong (w0 :: r) = match chk w0 lotsD 1 with
  | some j => some (1, j)
  | none => wrBars (num w0) r 2 none := rfl
theorem wrBars_cons (N : Nat) (ws : List Str) (r : List (List Str)) (k : Nat) (ah : Option (List Str)) : wrBars N (ws :: r) k ah = match wrBar N ws ah with
  | some j => some (k, j)
  | none => wrBars N r (k + 1) (some (ws.drop 1)) := rfl
theorem num_head {n : Int} (n1 : 1 ≤ n) (n7 : n ≤ 7) : num [("drawers" : Str), fig n] = n.toNat := by
  show ((PySem.intText? (fig n)).getD 0).toNat = n.toNat
  rw [(fig_back (by omega) n7).1]
  rfl
theorem fig_lt {a b : Int} (a0 : 0 ≤ a) (a7 : a ≤ 7) (b0 : 0 ≤ b) (b7 : b ≤ 7) : decide ((fig a).cps.toList < (fig b).cps.toList) = decide (a < b) := by
  have z : ∀ m n : Fin 8, decide ((fig ((m.val : Nat) : Int)).cps.toList < (fig ((n.val : Nat) : Int)).cps.toList) = decide (((m.val : Nat) : Int) < ((n.val : Nat) : Int)) := by decide +kernel
  have := z ⟨a.toNat, by omega⟩ ⟨b.toNat, by omega⟩
  rw [show ((a.toNat : Nat) : Int) = a by omega, show ((b.toNat : Nat) : Int) = b by omega] at this
  exact this
theorem wd_ltL (a b : Bool) : decide ((wd a).cps.toList < (wd b).cps.toList) = (!a && b) := by revert a b; decide +kernel
theorem wd_eqw (a b : Bool) : (wd a = wd b) = (a = b) := by
  have z : ∀ a b : Bool, decide (wd a = wd b) = decide (a = b) := by decide +kernel
  have := z a b
  simpa using this
theorem barLe_leq {N : Nat} {b c : Bar} (hN : N ≤ 7) (hb : b.ok N) (hc : c.ok N) : barLe ((barW b).drop 1) ((barW c).drop 1) = b.leq c := by
  obtain ⟨bd, bw, bo, bt⟩ := b
  obtain ⟨cd, cw, co, ct⟩ := c
  obtain ⟨x1, x2, x3, x4, _⟩ := hb
  obtain ⟨y1, y2, y3, y4, _⟩ := hc
  simp only at x1 x2 x3 x4 y1 y2 y3 y4
  have fd : (fig cd = fig bd) = (bd = cd) := propext ⟨fun e => (fig_inj (by omega) (by omega) (by omega) (by omega) e).symm, fun e => by rw [e]⟩
  have fo : (fig co = fig bo) = (bo = co) := propext ⟨fun e => (fig_inj (by omega) (by omega) (by omega) (by omega) e).symm, fun e => by rw [e]⟩
  have fw : (wd cw = wd bw) = (bw = cw) := by rw [wd_eqw]; exact propext ⟨Eq.symm, Eq.symm⟩
  have ft : (wd ct = wd bt) = (bt = ct) := by rw [wd_eqw]; exact propext ⟨Eq.symm, Eq.symm⟩
  show (!PySem.W.listLt [fig cd, wd cw, fig co, wd ct] [fig bd, wd bw, fig bo, wd bt]) = Bar.leq ⟨bd, bw, bo, bt⟩ ⟨cd, cw, co, ct⟩
  have g1 : PySem.W.DatumOrd.lt (fig cd) (fig bd) = decide (cd < bd) := fig_lt (by omega) (by omega) (by omega) (by omega)
  have g2 : PySem.W.DatumOrd.lt (fig co) (fig bo) = decide (co < bo) := fig_lt (by omega) (by omega) (by omega) (by omega)
  have g3 : ∀ a b : Bool, PySem.W.DatumOrd.lt (wd a) (wd b) = (!a && b) := wd_ltL
  unfold Bar.leq
  simp only [PySem.W.listLt, fd, fo, fw, ft, g1, g2, g3]
  have neg : ∀ a b : Int, (!decide (a < b)) = decide (b ≤ a) := fun a b => by
    by_cases q : a < b
    · rw [decide_eq_true q, decide_eq_false (by omega)]; rfl
    · rw [decide_eq_false q, decide_eq_true (by omega)]; rfl
  split
  · split
    · split
      · split
        · rfl
        · rfl
      · exact neg _ _
    · rfl
  · exact neg _ _
def tell2 (o : Option (Nat × Nat)) (A : Prop) (B : Nat → Nat → Prop) : Prop := match o with | none => A | some p => B p.1 p.2
structure spRead2 (CI : Addr) (vs : List V) (H : Hp) (Q : VK) (E : XK) : Prop where
  h : ∃ (z : Str) (ys : List Str), vs = [.str z] ∧ z.length ≤ 100000 ∧ Txt.split z "\n" = ys ∧ ys ≠ [] ∧ ys.length ≤ 50 ∧ (∀ y ∈ ys, y.length ≤ 1000 ∧ (Txt.split y " ").length ≤ 1000 ∧ (wordsL y).length ≤ 50) ∧
    ∀ H', Same H H' → tell2 (wrong (ys.map wordsL)) (∀ c, Q (.ref c) H') fun i j => exTx CI i j H' E
/-- the last bar's words behind the first -/
def ahO (bs : List Bar) : Option (List Str) := bs.getLast?.map fun b => (barW b).drop 1
section
variable {P : Program} {w : World} {K : PySem.W.Frag} {mg : Str → Option Value} {base : Heap}
theorem ok_read2 {f f1 f2 f3 fI C CI : Addr} {fd fd1 fd2 fd3 fdI : FuncData} (F : Fun K "read" "read" s_read f fd) (T : Bt mg) (gC : mg "Cabinet" = some (.ref C)) (MC : Mk K C fI) (GI : FnOk P w K mg base CX0 5 fI fdI ["self", "drawers", "bars"] (spInit C)) (bI : Binds K fdI ["self", "drawers", "bars"] []) (BT : Ini2 P w K mg base CI)
    (G1 : FnOk P w K mg base CX0 1 f1 fd1 ["line"] spWordsOf) (g1 : mg "words_of" = some (.ref f1)) (k1 : PySem.W.keepIn K (.ref f1) = true) (b1 : Binds K fd1 ["line"] [])
    (G2 : FnOk P w K mg base (L2.CX P w) 6 f2 fd2 ["words"] (spReadDr2 CI)) (g2 : mg "read_drawers" = some (.ref f2)) (k2 : PySem.W.keepIn K (.ref f2) = true) (b2 : Binds K fd2 ["words"] [])
    (G3 : FnOk P w K mg base (L2.CX P w) 6 f3 fd3 ["drawers", "line", "words"] (spReadBar2 CI)) (g3 : mg "read_bar" = some (.ref f3)) (k3 : PySem.W.keepIn K (.ref f3) = true) (b3 : Binds K fd3 ["drawers", "line", "words"] []) :
    FnOk P w K mg base (L2.CX P w) 8 f fd ["text"] (spRead2 CI) := by
  refine F.okX scRdg (fun vs H Q E h => ?_) (fun cdv A outer s H vs Q E hr h => ?_)
  · obtain ⟨z, ys, rfl, _⟩ := h.h
    rfl
  · obtain ⟨z, ys, rfl, zl, ez, yne, y50, hy, k⟩ := h.h
    obtain ⟨fX, dX, x1, x2, GX, bX⟩ := BT.i
    have hu : _ < cLine := Nat.lt_of_le_of_lt (Nat.le_add_right _ 64) hr.units
    refine ⟨_, pss_cons (ps_setLc (i := 2) (own := [("line", 1)]) (g := gName 1) (tt := tYes) (by rfl) scRdg.nd rfl rfl (by rfl) (pi_list (pe_m1 PySem.F.slot_str_split PySem.F.type_str_split mt_split (pv 0) pe_str)) (blkOk_by (N := nRdg) (sc := defScope s_read) (by decide +kernel)) (fun _ _ _ _ _ => pg_name (i := 1) scRdg.nd rfl (Or.inl rfl)) (fun _ _ _ _ _ => pts_nil)
        (fun _ _ _ _ _ => pe_call G1 (hr.mono (by decide)) rfl g1 k1 b1 .nil pass0 (pa_cons (pv 1) pa_nil)))
      (pss_cons (ps_set (i := 3) scRdg.nd rfl (Or.inl rfl) (pe_call G2 (hr.mono (by decide)) rfl g2 k2 b2 .nil (passes_call (E := E) (takes_of rfl rfl rfl rfl) (fun _ _ _ _ z => z)) (pa_cons (pe_ix ix_list (pv 2) pe_int (fun _ _ => rfl)) pa_nil)))
      (pss_cons (ps_set (i := 4) scRdg.nd rfl (Or.inl rfl) (pe_lst pa_nil))
      (pss_cons (ps_for (passes_of rfl) rfl (pi_es (by rfl) T.enumerate (pe_slice sl_list (pv 2) (po_some pe_int) po_none) (by decide) (by decide)) (pg_tup (by rfl) (pgs_cons (pg_name (i := 1) scRdg.nd rfl (Or.inl rfl)) (pgs_cons (pg_name (i := 5) scRdg.nd rfl (Or.inl rfl)) pgs_nil)))
        (pss_cons (ps_set (i := 6) scRdg.nd rfl (Or.inl rfl) (pe_call G3 (hr.mono (by decide)) rfl g3 k3 b3 .nil (passes_call (E := E) (takes_of rfl rfl rfl rfl) (fun _ _ _ _ z => z)) (pa_cons (pv 3) (pa_cons (pv 1) (pa_cons (pv 5) pa_nil)))))
        (pss_cons (ps_if (PW.pt (pw_and (pt_truth (pv 4) (by intro _; rfl)) (pw_and1 (pt_cmpR (op_leB hu) (pv 6) (pe_ix ix_list (pv 4) (pe_un un_neg pe_int) (fun _ _ => rfl)) (nomark _)))))
          (pss_one (ps_raise rfl (takes_of rfl rfl rfl rfl) (pmk_oex BT.T x1 x2 GX (hr.mono (by decide)) bX .nil pass0 rfl BT.g (pa_cons (pv 1) (pa_cons (pe_op op_add (pe_callB call_len_seq (by rfl) T.len (by decide +kernel) (pa_cons (pv 5) pa_nil)) pe_int) pa_nil))))) pss_nil)
        (pss_one (ps_expr (pe_bm PySem.F.plainAttrs_list PySem.F.slot_list_append PySem.F.type_list_append mt_append (pv 4) (pa_cons (pv 6) pa_nil)))))))
      (pss_one (ps_ret (pe_make MC GI (hr.mono (by decide)) rfl gC bI .nil pass0 (pa_cons (pv 3) (pa_cons (pe_tupleOf (by rfl) T.tuple (pv 4)) pa_nil)))))))), ?_⟩
    refine ⟨_, rfl, ⟨_, rfl⟩, z, "\n", rfl, rfl, rfl, Nat.le_trans (Nat.add_le_add_right zl 2) (by decide), fun p hp => ?_⟩
    rw [ez]
    obtain ⟨sp, fp⟩ := new_at (o := .lst (ys.map V.str)) hp
    generalize upd H p (.lst (ys.map V.str)) = H1 at sp fp ⊢
    refine ⟨p, rfl, ⟨_, SqL.of fp⟩, fun D nD => ?_⟩
    have npD : p ≠ D := ne_of_none fp nD
    refine lc_it (walk_list (K := K) (a := p) (xs := ys.map V.str)) (fun i H' => Same H1 H' ∧ ∃ ts : List (Addr × List Str), H' D = some (.lst (ts.map fun t => V.ref t.1)) ∧ ts.map (·.2) = (ys.take i).map wordsL ∧ ∀ t ∈ ts, H' t.1 = some (.lst (t.2.map V.str)) ∧ t.1 ≠ D)
      ⟨same_upd nD, [], upd_same, rfl, fun t ht => (by cases ht)⟩ (fun i H' _ q => SqL.of (q.1 _ _ fp)) ?_ ?_
    · rintro i x H2 H3 hi ⟨s2, ts, hD, et, ht⟩ ⟨rfl, ex⟩
      rw [List.getElem?_map] at ex
      cases ey : ys[i]? with
      | none => rw [ey] at ex; cases ex
      | some y =>
        rw [ey] at ex
        cases ex
        obtain ⟨y1, y2, _⟩ := hy y (List.mem_of_getElem? ey)
        have tl : ts.length = i := by
          have := congrArg List.length et
          rw [List.length_map, List.length_map, List.length_take] at this
          have := (List.getElem?_eq_some_iff.mp ey).1
          omega
        have i101 : i ≤ 101 := by
          have := (List.getElem?_eq_some_iff.mp ey).1
          omega
        refine ⟨rfl, tYes_of (iteT ⟨_, rfl, ⟨⟨y, rfl, y1, y2, fun l H4 nl s4 hl => ?_⟩⟩⟩)⟩
        have hD4 := s4 _ _ hD
        have nlD : l ≠ D := (ne_of_none hD nl).symm
        refine ⟨_, hD4, by rw [List.length_map]; exact small1000 (by omega), fun b o e => ?_, ts ++ [(l, wordsL y)], by rw [upd_same, List.map_append]; rfl, ?_, fun t h => ?_⟩
        · rw [upd_ne (ne_of_none e nD)]
          exact s4 _ _ (s2 _ _ e)
        · obtain ⟨h1, h2⟩ := List.getElem?_eq_some_iff.mp ey
          rw [List.map_append, et, List.take_succ_eq_append_getElem h1, h2, List.map_append]
          rfl
        · rcases List.mem_append.mp h with h | h
          · obtain ⟨q1, q2⟩ := ht t h
            exact ⟨by rw [upd_ne q2]; exact s4 _ _ q1, q2⟩
          · rw [List.mem_singleton.mp h]
            exact ⟨by rw [upd_ne nlD]; exact hl, nlD⟩
    rintro H2 ⟨s2, ts, hD, et, ht⟩
    have ez2 : (ys.map V.str).length = ys.length := List.length_map _
    rw [ez2, List.take_length] at et
    have tl50 : ∀ t ∈ ts, t.2.length ≤ 50 := fun t h => by
      have : t.2 ∈ ys.map wordsL := by rw [← et]; exact List.mem_map_of_mem (f := (·.2)) h
      obtain ⟨y, hy2, e⟩ := List.mem_map.mp this
      rw [← e]
      exact (hy y hy2).2.2
    have tsl0 : ts.length = ys.length := by
      have := congrArg List.length et
      rw [List.length_map, List.length_map] at this
      exact this
    rw [← et] at k
    match ts, et, hD, ht, tl50, tsl0, k with
    | [], et, hD, ht, tl50, tsl0, k => exact absurd (List.length_eq_zero_iff.mp tsl0.symm) yne
    | t0 :: ts, et, hD, ht, tl50, tsl0, k =>
    clear et
    rw [List.map_cons] at k
    rw [List.length_cons] at tsl0
    obtain ⟨rows, erows⟩ : ∃ rows, ts.map (·.2) = rows := ⟨_, rfl⟩
    rw [erows] at k
    obtain ⟨h0, _⟩ := ht t0 List.mem_cons_self
    refine ⟨_, rfl, D, _, 0, .ref t0.1, rfl, rfl, SqL.of hD, atI_nat (j := 0) rfl, ⟨⟨t0.1, t0.2, rfl, h0, tl50 t0 List.mem_cons_self, fun H3 s3 => ?_⟩⟩⟩
    cases ec0 : chk t0.2 lotsD 1 with
    | some j =>
      have kk := k H3 ((sp.trans s2).trans s3)
      rw [wrong_cons] at kk
      rw [ec0] at kk
      exact kk
    | none =>
    obtain ⟨n, n1, n7, e0⟩ := chkD_none ec0
    intro n' n1' n7' e0'
    obtain rfl : n = n' := by
      rw [e0] at e0'
      injection e0' with _ e0'
      injection e0' with e0' _
      exact fig_inj (by omega) n7 (by omega) n7' e0'
    obtain ⟨N, rfl⟩ : ∃ N : Nat, n = N := ⟨n.toNat, by omega⟩
    have k : ∀ H', Same H H' → tell2 (wrBars N rows 2 none) (∀ c, Q (.ref c) H') fun i j => exTx CI i j H' E := fun H' s => by
      have kk := k H' s
      rw [wrong_cons] at kk
      rw [ec0, e0, num_head n1 n7, Int.toNat_natCast] at kk
      exact kk
    have tsl : ts.length = rows.length := by rw [← erows, List.length_map]
    have r50 : rows.length ≤ 50 := by omega
    have hD3 := s3 _ _ hD
    have ht3 : ∀ t ∈ ts, H3 t.1 = some (.lst (t.2.map V.str)) := fun t h => s3 _ _ (ht t (List.mem_cons_of_mem _ h)).1
    have s03 := (sp.trans s2).trans s3
    have tl50 : ∀ t ∈ ts, t.2.length ≤ 50 := fun t h => tl50 t (List.mem_cons_of_mem _ h)
    clear ht hD h0 s3 s2 fp nD npD sp
    refine ⟨(by show 0 ≤ sizeLine; decide), fun B nB => ?_⟩
    obtain ⟨s4, f4⟩ := new_at (o := .lst []) nB
    have ntB : ∀ t ∈ ts, t.1 ≠ B := fun t h => ne_of_none (ht3 t h) nB
    have nDB : D ≠ B := ne_of_none hD3 nB
    have nB0 : H B = none := none_back s03 nB
    have hD4 := s4 _ _ hD3
    have ht4 : ∀ t ∈ ts, (upd H3 B (.lst [])) t.1 = some (.lst (t.2.map V.str)) := fun t h => s4 _ _ (ht3 t h)
    have s04 := s03.trans s4
    generalize upd H3 B (.lst []) = H4 at s4 f4 hD4 ht4 s04 ⊢
    refine ⟨_, rfl, 1, rfl, D, _, rfl, SqL.of hD4, fun S nS => ?_⟩
    rw [List.map_cons, cut_tail]
    obtain ⟨s5, f5⟩ := new_at (o := .lst (ts.map fun t => V.ref t.1)) nS
    have nSB : S ≠ B := (ne_of_none f4 nS).symm
    have f45 := s5 _ _ f4
    have ht5 : ∀ t ∈ ts, (upd H4 S (.lst (ts.map fun t => V.ref t.1))) t.1 = some (.lst (t.2.map V.str)) := fun t h => s5 _ _ (ht4 t h)
    have s05 := s04.trans s5
    generalize upd H4 S (.lst (ts.map fun t => V.ref t.1)) = H5 at s5 f5 f45 ht5 s05 ⊢
    refine ⟨S, _, rfl, SqL.of f5, ?_⟩
    have back : ∀ {H'}, But B H5 H' → Same H H' := fun {H'} b c o e => b _ _ (ne_of_none e nB0) (s05 _ _ e)
    refine for_it (walk_es (xs := ts.map fun t => V.ref t.1)) (fun i σ H' => ∃ (v1 v5 v6 : Option V) (ks : List (Addr × Bar)), σ = [some (.str z), v1, some (.ref D), some (.int N), some (.ref B), v5, v6] ∧ But B H5 H' ∧ ks.length = i ∧ OkBars N (ks.map (·.2)) ∧ wrBars N rows 2 none = wrBars N (rows.drop i) (2 + i) (ahO (ks.map (·.2))) ∧ H' B = some (.lst (ks.map fun k => V.ref k.1)) ∧ ∀ k ∈ ks, H' k.1 = some (.tup k.2.vs))
      ⟨_, _, _, [], rfl, But.refl _ _, rfl, ⟨fun _ h => (by cases h), List.Pairwise.nil⟩, rfl, f45, fun k hk => by cases hk⟩ (fun i σ H' _ ⟨_, _, _, _, _, b, _⟩ => SqL.of (b _ _ nSB f5)) ?_ ?_
    · rintro i x σ H6 H7 hi ⟨v1, v5, v6, ks, rfl, B6, ksl, hO, ew, hB6, hks⟩ ⟨Tp, y1, y2, rfl, nT, rfl, ey1, ey2⟩
      cases ey1
      have ey2 : (ts.map fun t => V.ref t.1)[i]? = some y2 := ey2
      rw [List.getElem?_map] at ey2
      cases etk : ts[i]? with
      | none => rw [etk] at ey2; cases ey2
      | some t =>
        rw [etk] at ey2
        cases ey2
        have erow : rows[i]? = some t.2 := by rw [← erows, List.getElem?_map, etk]; rfl
        obtain ⟨hi2, eri⟩ := List.getElem?_eq_some_iff.mp erow
        have htm : t ∈ ts := List.mem_of_getElem? etk
        rw [List.drop_eq_getElem_cons hi2, eri] at ew
        have hT7 : (upd H6 Tp (.tup [.int (2 + (i : Nat)), .ref t.1])) Tp = some (.tup [.int (2 + (i : Nat)), .ref t.1]) := upd_same
        have s67 := same_upd (o := .tup [.int (2 + (i : Nat)), .ref t.1]) nT
        have hl7 := s67 _ _ (B6 _ _ (ntB t htm) (ht5 t htm))
        have hB7 := s67 _ _ hB6
        have hks7 : ∀ k ∈ ks, (upd H6 Tp (.tup [.int (2 + (i : Nat)), .ref t.1])) k.1 = some (.tup k.2.vs) := fun k hk => s67 _ _ (hks k hk)
        have B7 := B6.trans (sbut s67)
        generalize upd H6 Tp (.tup [.int (2 + (i : Nat)), .ref t.1]) = H7 at hT7 hl7 hB7 hks7 B7 ⊢
        obtain ⟨ws, ews⟩ : ∃ ws, t.2 = ws := ⟨_, rfl⟩
        have w50 := tl50 t htm
        rw [ews] at hl7 ew w50
        refine ⟨Tp, _, rfl, SqT.of' hT7, rfl, _, _, rfl, _, _, rfl, rfl, ?_⟩
        refine ⟨_, rfl, _, rfl, _, rfl, ⟨⟨t.1, N, 2 + (i : Nat), ws, rfl, hl7, w50, by omega, by omega, by omega, by omega, fun H8 s8 => ?_⟩⟩⟩
        have B8 := B7.trans (sbut s8)
        have kk := k H8 (back B8)
        rw [ew] at kk
        rw [wrBars_cons] at kk
        unfold wrBar at kk
        cases ec : chk ws (lots N ws) 1 with
        | some j =>
          rw [ec] at kk
          have kk : exTx CI ((2 + i : Nat) : Int) j H8 E := kk
          rw [show ((2 + i : Nat) : Int) = 2 + (i : Int) by omega] at kk
          exact kk
        | none =>
        intro b q hb ewb nq hq
        have hB8 := s8 _ _ hB7
        have hks8 : ∀ k ∈ ks, H8 k.1 = some (.tup k.2.vs) := fun k hk => s8 _ _ (hks7 k hk)
        have w5 : ws.length = 5 := by rw [ewb]; rfl
        have room : (ks.map fun k => V.ref k.1).length < sizeLine := by
          rw [List.length_map]
          exact small1000 (by omega)
        have step : ∀ (low : ∀ x ∈ ks.map (·.2), x.code < b.code) (er : wrBar N ws (ahO (ks.map (·.2))) = none), ∃ (v1 v5 v6 : Option V) (ks' : List (Addr × Bar)), [some (V.str z), some (.int (2 + (i : Nat))), some (.ref D), some (.int N), some (.ref B), some (.ref t.1), some (.ref q)] = [some (.str z), v1, some (.ref D), some (.int N), some (.ref B), v5, v6] ∧ But B H5 (upd H8 B (.lst (ks.map (fun k => V.ref k.1) ++ [.ref q]))) ∧
            ks'.length = i + 1 ∧ OkBars N (ks'.map (·.2)) ∧ wrBars N rows 2 none = wrBars N (rows.drop (i + 1)) (2 + (i + 1)) (ahO (ks'.map (·.2))) ∧ (upd H8 B (.lst (ks.map (fun k => V.ref k.1) ++ [.ref q]))) B = some (.lst (ks'.map fun k => V.ref k.1)) ∧ ∀ k ∈ ks', (upd H8 B (.lst (ks.map (fun k => V.ref k.1) ++ [.ref q]))) k.1 = some (.tup k.2.vs) := by
          intro low er
          refine ⟨_, _, _, ks ++ [(q, b)], rfl, fun c o hc e => by rw [upd_ne hc]; exact B8 c o hc e, by rw [List.length_append, ksl]; rfl, ?_, ?_, by rw [upd_same, List.map_append]; rfl, fun k hk => ?_⟩
          · rw [List.map_append]
            refine ⟨fun x hx => ?_, List.pairwise_append.mpr ⟨hO.asc, List.pairwise_singleton _ _, fun x hx y hy => ?_⟩⟩
            · rcases List.mem_append.mp hx with h | h
              · exact hO.ok x h
              · rw [List.mem_singleton.mp h]; exact hb
            · rw [List.mem_singleton.mp hy]; exact low x hx
          · rw [ew]
            show (match wrBar N ws (ahO (ks.map (·.2))) with | some j => some (2 + i, j) | none => wrBars N (rows.drop (i + 1)) (2 + i + 1) (some (ws.drop 1))) = _
            rw [er]
            have : ahO ((ks ++ [(q, b)]).map (·.2)) = some (ws.drop 1) := by
              unfold ahO
              rw [List.map_append, ewb]
              simp
            rw [this]
            rfl
          · rcases List.mem_append.mp hk with h | h
            · have e := hks8 k h
              rw [upd_ne (ne_of e hB8 (by intro z; cases z))]
              exact e
            · rw [List.mem_singleton.mp h, upd_ne (ne_of hq hB8 (by intro z; cases z))]
              exact hq
        rcases List.eq_nil_or_concat ks with hk0 | ⟨ks0, kl, hk0⟩
        · have stp := step (by rw [hk0]; intro x hx; cases hx) (by unfold wrBar; rw [ec, hk0]; rfl)
          refine ⟨_, rfl, _, .inl ⟨_, SqL.of hB8, rfl⟩, ?_⟩
          rw [hk0]
          refine iteF (iteF ?_)
          rw [hk0] at hB8 stp room
          exact ⟨_, rfl, .inl ⟨rfl, _, .inl (.inl hB8)⟩, _, rfl, B, _, _, rfl, rfl, hB8, room, stp⟩
        · have hklm : kl ∈ ks := by rw [hk0]; simp
          have klo : kl.2.ok N := hO.ok _ (List.mem_map_of_mem (f := (·.2)) hklm)
          have ex : (ks.map fun k => V.ref k.1) = (ks0.map fun k => V.ref k.1) ++ [V.ref kl.1] := by rw [hk0]; simp
          have tru : (!(ks.map fun k => V.ref k.1).isEmpty) = true := by rw [ex]; simp
          have eah : ahO (ks.map (·.2)) = some ((barW kl.2).drop 1) := by
            unfold ahO
            rw [hk0]
            simp
          refine ⟨_, rfl, _, .inl ⟨_, SqL.of hB8, rfl⟩, ?_⟩
          rw [tru]
          refine iteT ?_
          refine ⟨_, rfl, _, rfl, 1, rfl, B, _, -1, .ref kl.1, rfl, rfl, SqL.of hB8, by rw [ex]; exact atI_last _ _, q, kl.1, b, kl.2, rfl, rfl, SqT.of' hq, SqT.of' (hks8 kl hklm), _, rfl, ?_⟩
          have ele := barLe_leq (N := N) (by omega) hb klo
          rw [ec, eah] at kk
          have kk : tell2 (match (if barLe (ws.drop 1) ((barW kl.2).drop 1) = true then some 6 else none) with | some j => some (2 + i, j) | none => wrBars N (rows.drop (i + 1)) (2 + i + 1) (some (ws.drop 1))) (∀ c, Q (.ref c) H8) fun i j => exTx CI i j H8 E := kk
          rw [ewb, ele] at kk
          cases el : b.leq kl.2 with
          | true =>
            rw [el, if_pos rfl] at kk
            have kk : exTx CI ((2 + i : Nat) : Int) 6 H8 E := kk
            rw [show ((2 + i : Nat) : Int) = 2 + (i : Int) by omega] at kk
            refine iteT ⟨_, rfl, _, rfl, t.1, _, rfl, .inl (SqL.of (s8 _ _ hl7)), _, _, rfl, rfl, (by show 2 ≤ 1000; decide), fun x hx => ?_⟩
            rw [List.length_map, w5]
            exact ini2_tx hx (by omega) (by omega) (by decide) (by decide) kk
          | false =>
            have low : ∀ x ∈ ks.map (·.2), x.code < b.code := fun x hx => by
              have lq := Bar.leq_code (hb.low (by omega)) (klo.low (by omega))
              rw [el] at lq
              unfold Bar.leb at lq
              have lc : kl.2.code < b.code := by
                have := of_decide_eq_false lq.symm
                omega
              rw [hk0, List.concat_eq_append, List.map_append] at hx
              rcases List.mem_append.mp hx with h | h
              · have as := hO.asc
                rw [hk0, List.concat_eq_append, List.map_append, List.pairwise_append] at as
                have := as.2.2 x h kl.2 (List.mem_singleton.mpr rfl)
                omega
              · rw [List.mem_singleton.mp h]; exact lc
            have stp := step low (by unfold wrBar; rw [ec, eah, ewb]; show (if barLe ((barW b).drop 1) ((barW kl.2).drop 1) = true then some 6 else none) = none; rw [ele, el]; rfl)
            exact iteF ⟨_, rfl, .inl ⟨rfl, _, .inl (.inl hB8)⟩, _, rfl, B, _, _, rfl, rfl, hB8, room, stp⟩
    · rintro σ H6 ⟨v1, v5, v6, ks, rfl, B6, ksl, hO, ew, hB6, hks⟩
      rw [List.length_map, tsl, List.drop_length] at ew
      refine ⟨_, rfl, _, rfl, .inl ⟨B, _, rfl, SqL.of hB6, fun q nq => ?_⟩⟩
      obtain ⟨s7, f7⟩ := new_at (o := .tup (ks.map fun k => V.ref k.1)) nq
      have hks7 : ∀ k ∈ ks, (upd H6 q (.tup (ks.map fun k => V.ref k.1))) k.1 = some (.tup k.2.vs) := fun k hk => s7 _ _ (hks k hk)
      have s07 : Same H (upd H6 q (.tup (ks.map fun k => V.ref k.1))) := fun c o e => s7 _ _ (back B6 _ _ e)
      generalize upd H6 q (.tup (ks.map fun k => V.ref k.1)) = H7 at f7 hks7 s07 ⊢
      intro c dx nc ndx nex
      have s8 : Same H7 (upd (upd H7 dx (.own c)) c (.ins C dx [])) := fun b o e => by
        rw [upd_ne (ne_of_none e nc), upd_ne (ne_of_none e ndx)]
        exact e
      have hBr : BarsAt H7 q ks := ⟨f7, hks7⟩
      refine ⟨⟨c, dx, N, q, ks, rfl, upd_same, n1, n7, hBr.same s8, hO, fun H9 hx kp => ⟨rfl, ?_⟩⟩⟩
      have s79 : Same H7 H9 := fun b o e => kp b o (ne_of_none e nc) (s8 b o e)
      have kk := k H9 (s07.trans s79)
      rw [ew] at kk
      exact kk c
end
end DL

set_option Elab.async false
set_option maxRecDepth 100000

set_option Elab.async false
set_option maxRecDepth 100000

set_option Elab.async false
set_option maxRecDepth 100000
set_option maxHeartbeats 4000000
namespace DL
open PySem PySem.Spec PyProof.Rows L2 HT TL
/-! ### the law's own finder of wrong words -/
theorem iteSm {x y : V} {A B : Prop} (h : x = y) (a : A) : if decide (x = y) = true then A else B := by
  rw [if_pos (decide_eq_true h)]
  exact a
theorem iteEl {x y : V} {A B : Prop} (h : x ≠ y) (b : B) : if decide (x = y) = true then A else B := by
  rw [if_neg fun z => h (of_decide_eq_true z)]
  exact b
/-- list <= list, of texts -/
def rLeW (K : PySem.W.Frag) : R2 := fun x y H Q => ∃ (a b : Addr) (p q : List Str), x = .ref a ∧ y = .ref b ∧ SqL K H a (p.map V.str) ∧ SqL K H b (q.map V.str) ∧ Q (.bl (barLe p q)) H
theorem dpAll_txt {K : PySem.W.Frag} {H : Hp} : ∀ l : List Str, DpAll K H (l.map V.str) (l.map PyData.str)
  | [] => .nil
  | x :: l => .cons (.str x) (dpAll_txt l)
theorem dep_txt (l : List Str) : (PyData.list (l.map PyData.str)).depth ≤ 64 := by
  have := PySem.W.Datum.depth_le (α := List Str) l
  exact Nat.le_trans this (by decide)
theorem op_leW {X : Cx} (hu : X.A.units + 64 < cLine) : OpR X (compareOp .LtE) (rLeW X.K) := by
  intro pins s σ H x y v u Q I rx ry h
  obtain ⟨a, b, p, q, rfl, rfl, ha, hb, hq⟩ := h
  obtain ⟨as, r1⟩ := Dp.reads I (.list (p.map PyData.str)) (.ref a) v (.lst ha (dpAll_txt p)) rx
  obtain ⟨bs, r2⟩ := Dp.reads I (.list (q.map PyData.str)) (.ref b) u (.lst hb (dpAll_txt q)) ry
  have al : PySem.W.alike (.list (p.map PyData.str)) (.list (q.map PyData.str)) = true := PySem.W.DatumOrd.alike (α := List Str) p q
  have lt : PySem.W.dataLt (.list (q.map PyData.str)) (.list (p.map PyData.str)) = PySem.W.listLt q p := PySem.W.DatumOrd.lt_eq (α := List Str) q p
  have dp := dep_txt p
  refine PySem.W.le_data r1 r2 al (by intro z; cases z) (by have := Nat.min_le_left (PyData.list (p.map PyData.str)).depth (PyData.list (q.map PyData.str)).depth; omega) ⟨.bl (barLe p q), H, I, ?_, hq⟩
  rw [lt]
  rfl
def optV : Option Nat → V
  | none => .non
  | some j => .int j
def lawLots (N : Nat) : List (List Str) := [["bar"], nm N, ow, nm N, ow]
theorem lots_in {N i : Nat} {ws : List Str} {x : Str} {c d : List Str} (hx : ws[i]? = some x) (hc : (lots N ws)[i]? = some c) (hd : (lawLots N)[i]? = some d) : x ∈ c ↔ x ∈ d ∧ ¬ (i = 3 ∧ ws[1]? = some x) := by
  match i, hx, hc, hd with
  | 0, hx, hc, hd => cases hc; cases hd; exact ⟨fun h => ⟨h, fun z => absurd z.1 (by decide)⟩, fun h => h.1⟩
  | 1, hx, hc, hd => cases hc; cases hd; exact ⟨fun h => ⟨h, fun z => absurd z.1 (by decide)⟩, fun h => h.1⟩
  | 2, hx, hc, hd => cases hc; cases hd; exact ⟨fun h => ⟨h, fun z => absurd z.1 (by decide)⟩, fun h => h.1⟩
  | 4, hx, hc, hd => cases hc; cases hd; exact ⟨fun h => ⟨h, fun z => absurd z.1 (by decide)⟩, fun h => h.1⟩
  | n + 5, hx, hc, hd => cases hc
  | 3, hx, hc, hd =>
    cases hc
    cases hd
    rw [List.mem_filter]
    have e1 : ∀ (a b : Str) (r : List Str), decide (x ∈ ((a :: b :: r).drop 1).take 1) = decide (x = b) := fun a b r => by
      have : (x ∈ ((a :: b :: r).drop 1).take 1) = (x = b) := propext List.mem_singleton
      simp only [this]
    match ws, hx with
    | a :: b :: r, hx =>
      rw [e1]
      constructor
      · rintro ⟨m, q⟩
        refine ⟨m, fun z => ?_⟩
        have z2 : some b = some x := z.2
        injection z2 with z2
        rw [z2, decide_eq_true rfl] at q
        cases q
      · rintro ⟨m, q⟩
        refine ⟨m, ?_⟩
        rw [decide_eq_false fun z => q ⟨rfl, by rw [z]; rfl⟩]
        rfl
structure spLBar (K : PySem.W.Frag) (vs : List V) (H : Hp) (Q : VK) (_ : XK) : Prop where
  h : ∃ (l d : Addr) (ws : List Str) (N : Nat) (va : V) (ah : Option (List Str)), vs = [.ref l, .ref d, va] ∧ H l = some (.lst (ws.map V.str)) ∧ ws.length ≤ 50 ∧ H d = some (.lst ((nm N).map V.str)) ∧
    ((ah = none ∧ va = .non) ∨ ∃ (as : List Str) (a : Addr), ah = some as ∧ va = .ref a ∧ H a = some (.lst (as.map V.str))) ∧ ∀ H', Same H H' → Q (optV (wrBar N ws ah)) H'
section
variable {P : Program} {w : World} {K : PySem.W.Frag} {mg : Str → Option Value} {base : Heap}
abbrev nLB : List Str := ["_law_words", "_law_drawers", "_law_ahead", "_law_lots", "_law_at"]
theorem scLB : FnScope nLB ["_law_words", "_law_drawers", "_law_ahead"] (defScope s__law_bar) := ⟨rfl, rfl, rfl, by decide +kernel, rfl, by decide +kernel, by decide +kernel⟩
theorem ok_lawBar {f : Addr} {fd : FuncData} (F : Fun K "_law_bar" "_law_bar" s__law_bar f fd) (T : Bt mg) : FnOk P w K mg base CX0 1 f fd ["_law_words", "_law_drawers", "_law_ahead"] (spLBar K) := by
  refine F.ok scLB (fun vs H Q E h => ?_) (fun cdv A outer s H vs Q E hr h => ?_)
  · obtain ⟨l, d, ws, N, va, ah, rfl, _⟩ := h.h
    rfl
  · obtain ⟨l, d, ws, N, va, ah, rfl, hl, w50, hd, hah, k⟩ := h.h
    have hu : _ + 64 < cLine := hr.units
    refine ⟨_, pss_cons (ps_set (i := 3) scLB.nd rfl (Or.inl rfl) (pe_lst (pa_cons (pe_lst (pa_cons pe_str pa_nil)) (pa_cons (pv 1) (pa_cons (pe_lst (pa_cons pe_str (pa_cons pe_str pa_nil))) (pa_cons (pv 1) (pa_cons (pe_lst (pa_cons pe_str (pa_cons pe_str pa_nil))) pa_nil)))))))
      (pss_cons (ps_for PassesOwn.never rfl (pi_range1 rfl T.range (pa_cons pe_int pa_nil)) (pg_name (i := 4) scLB.nd rfl (Or.inl rfl))
        (pss_cons (ps_if (PW.pt (pw_or (pt_cmpR op_le (pe_callB call_len_seq (by rfl) T.len (by decide +kernel) (pa_cons (pv 0) pa_nil)) (pv 4) (nomark _)) (pw_or1 (pt_cmpR op_notIn_seq (pe_ix ix_list (pv 0) (pv 4) (fun _ _ => rfl)) (pe_ix ix_list (pv 3) (pv 4) (fun _ _ => rfl)) (by rfl)))))
            (pss_one (ps_ret (pe_op op_add (pv 4) pe_int))) pss_nil)
        (pss_one (ps_if (PW.pt (pw_and (pt_cmpR op_eq (pv 4) pe_int (nomark _)) (pw_and1 (pt_cmpR op_eq (pe_ix ix_list (pv 0) pe_int (fun _ _ => rfl)) (pe_ix ix_list (pv 0) pe_int (fun _ _ => rfl)) (nomark _)))))
            (pss_one (ps_ret pe_int)) pss_nil))))
      (pss_cons (ps_if (PW.pt (pw_or (pt_cmpR op_gt (pe_callB call_len_seq (by rfl) T.len (by decide +kernel) (pa_cons (pv 0) pa_nil)) pe_int (nomark _)) (pw_or1 (PW.pt (pw_and (pt_cmp (pc_notN (pv 2))) (pw_and1 (pt_cmpR (op_leW hu) (pe_slice sl_list (pv 0) (po_some pe_int) po_none) (pv 2) (nomark _))))))))
          (pss_one (ps_ret pe_int)) pss_nil)
      (pss_one (ps_ret pe_non)))), ?_⟩
    refine ⟨(by show 1 ≤ sizeLine; decide), fun l1 n1 => ?_⟩
    obtain ⟨s1, f1⟩ := new_at (o := .lst [.str "bar"]) n1
    generalize upd H l1 (.lst [.str "bar"]) = H1 at s1 f1 ⊢
    refine ⟨_, rfl, (by show 2 ≤ sizeLine; decide), fun l2 n2 => ?_⟩
    obtain ⟨s2, f2⟩ := new_at (o := .lst [.str "open", .str "shut"]) n2
    generalize upd H1 l2 (.lst [.str "open", .str "shut"]) = H2 at s2 f2 ⊢
    refine ⟨_, rfl, (by show 2 ≤ sizeLine; decide), fun l3 n3 => ?_⟩
    obtain ⟨s3, f3⟩ := new_at (o := .lst [.str "open", .str "shut"]) n3
    generalize upd H2 l3 (.lst [.str "open", .str "shut"]) = H3 at s3 f3 ⊢
    refine ⟨(by show 5 ≤ sizeLine; decide), fun q nq => ?_⟩
    obtain ⟨s4, f4⟩ := new_at (o := .lst [.ref l1, .ref d, .ref l2, .ref d, .ref l3]) nq
    generalize upd H3 q (.lst [.ref l1, .ref d, .ref l2, .ref d, .ref l3]) = H4 at s4 f4 ⊢
    have s04 := ((s1.trans s2).trans s3).trans s4
    have hl4 := s04 _ _ hl
    have hd4 := s04 _ _ hd
    have g1 := s4 _ _ (s3 _ _ (s2 _ _ f1))
    have g2 := s4 _ _ (s3 _ _ f2)
    have g3 := s4 _ _ f3
    have k2 : ∀ r H9, Same H4 H9 → r = optV (wrBar N ws ah) → Q r H9 := fun r H9 s e => by rw [e]; exact k H9 (s04.trans s)
    have k : ∀ r, r = optV (wrBar N ws ah) → Q r H4 := fun r e => k2 r H4 (Same.refl _) e
    refine ⟨5, rfl, by decide, by decide, ?_⟩
    refine for_range (lo := 0) (n := 5) (fun i σ H' => ∃ v4 : Option V, σ = [some (.ref l), some (.ref d), some va, some (.ref q), v4] ∧ H' = H4 ∧ i ≤ ws.length ∧ chk ws (lots N ws) 1 = chk (ws.drop i) ((lots N ws).drop i) (1 + i)) ⟨_, rfl, rfl, Nat.zero_le _, rfl⟩ ?_ ?_
    · rintro i σ H' hi ⟨v4, rfl, rfl, iw, ek⟩
      have eI : (0 : Int) + (i : Nat) = (i : Nat) := by omega
      rw [eI]
      refine ⟨_, rfl, l, _, rfl, .inl (SqL.of hl4), _, rfl, _, _, rfl, rfl, _, rfl, ?_⟩
      rw [List.length_map]
      obtain ⟨xa, dl, ea, hdl, ed⟩ : ∃ (x : Addr) (dl : List Str), [V.ref l1, .ref d, .ref l2, .ref d, .ref l3][i]? = some (V.ref x) ∧ SqL K H' x (dl.map V.str) ∧ (lawLots N)[i]? = some dl := by
        match i, hi with
        | 0, _ => exact ⟨l1, ["bar"], rfl, SqL.of g1, rfl⟩
        | 1, _ => exact ⟨_, _, rfl, SqL.of hd4, rfl⟩
        | 2, _ => exact ⟨l2, ow, rfl, SqL.of g2, rfl⟩
        | 3, _ => exact ⟨_, _, rfl, SqL.of hd4, rfl⟩
        | 4, _ => exact ⟨l3, ow, rfl, SqL.of g3, rfl⟩
      obtain ⟨c, ecl⟩ : ∃ c, (lots N ws)[i]? = some c := by
        match i, hi with
        | 0, _ => exact ⟨_, rfl⟩
        | 1, _ => exact ⟨_, rfl⟩
        | 2, _ => exact ⟨_, rfl⟩
        | 3, _ => exact ⟨_, rfl⟩
        | 4, _ => exact ⟨_, rfl⟩
      have ret : chk ws (lots N ws) 1 = some (1 + i) → V.int ((i : Nat) + 1) = optV (wrBar N ws ah) := fun e => by
        unfold wrBar
        rw [e]
        show V.int _ = V.int ((1 + i : Nat) : Int)
        congr 1
        omega
      by_cases h1 : ws.length ≤ i
      · rw [decide_eq_true (by omega)]
        refine iteT (iteT ⟨_, rfl, _, _, rfl, rfl, k _ (ret ?_)⟩)
        rw [ek, List.drop_eq_nil_of_le h1]
        obtain ⟨z1, z2⟩ := List.getElem?_eq_some_iff.mp ecl
        rw [List.drop_eq_getElem_cons z1]
        rfl
      rw [decide_eq_false (by omega)]
      obtain ⟨x, ex⟩ : ∃ x, ws[i]? = some x := ⟨_, List.getElem?_eq_getElem (by omega)⟩
      have mem := lots_in ex ecl ed
      rw [chk_step ex ecl] at ek
      refine iteF ⟨_, rfl, _, rfl, l, _, (i : Nat), .str x, rfl, rfl, SqL.of hl4, atI_nat (by rw [List.getElem?_map, ex]; rfl), ⟨_, rfl, _, rfl, q, _, (i : Nat), .ref xa, rfl, rfl, SqL.of f4, atI_nat ea, xa, dl.map V.str, rfl, .inl hdl, rfl, by simp [flatV], ?_⟩⟩
      rw [inV_mem9]
      refine ⟨_, rfl, ?_⟩
      by_cases m : x ∈ dl
      · rw [decide_eq_true m]
        refine iteF ?_
        refine ⟨_, rfl, rfl, _, rfl, ?_⟩
        by_cases i3 : i = 3
        · subst i3
          refine iteSm rfl ?_
          obtain ⟨y, ey⟩ : ∃ y, ws[1]? = some y := ⟨_, List.getElem?_eq_getElem (by omega)⟩
          refine ⟨_, rfl, l, _, 3, .str x, rfl, rfl, SqL.of hl4, atI_nat (j := 3) (by rw [List.getElem?_map, ex]; rfl), _, rfl, l, _, 1, .str y, rfl, rfl, SqL.of hl4, atI_nat (j := 1) (by rw [List.getElem?_map, ey]; rfl), rfl, _, rfl, ?_⟩
          by_cases e : x = y
          · rw [if_neg (fun z => (mem.mp z).2 ⟨rfl, by rw [ey, e]⟩)] at ek
            refine iteSm (by rw [e]) (k _ (ret ek))
          · rw [if_pos (mem.mpr ⟨m, fun z => e (by have z2 := z.2; rw [ey] at z2; injection z2 with z2; exact z2.symm)⟩)] at ek
            exact iteEl (fun z => e (by injection z)) ⟨_, rfl, rfl, by omega, ek⟩
        · rw [if_pos (mem.mpr ⟨m, fun z => i3 z.1⟩)] at ek
          refine iteEl (fun z => i3 (by injection z with z; omega)) (iteF ?_)
          exact ⟨_, rfl, rfl, by omega, by rw [ek, Nat.add_assoc]⟩
      · rw [decide_eq_false m]
        rw [if_neg (fun z => m (mem.mp z).1)] at ek
        exact iteT ⟨_, rfl, _, _, rfl, rfl, k _ (ret ek)⟩
    · rintro σ H' ⟨v4, rfl, rfl, iw, ek⟩
      have dn : (lots N ws).drop 5 = [] := rfl
      rw [dn] at ek
      refine ⟨_, rfl, l, _, rfl, .inl (SqL.of hl4), _, _, rfl, rfl, _, rfl, ?_⟩
      rw [List.length_map]
      by_cases h5 : ws.length = 5
      · rw [List.drop_eq_nil_of_le (by omega)] at ek
        have ek : chk ws (lots N ws) 1 = none := ek
        rw [decide_eq_false (by omega)]
        rcases hah with ⟨rfl, rfl⟩ | ⟨as, a, rfl, rfl, ha⟩
        · refine iteF ⟨_, rfl, _, rfl, ?_⟩
          refine iteF (iteF (k _ ?_))
          unfold wrBar
          rw [ek]
          rfl
        · refine iteF ⟨_, rfl, _, rfl, ?_⟩
          refine iteT ?_
          refine ⟨_, rfl, 1, rfl, l, _, rfl, SqL.of hl4, fun sl nsl => ?_⟩
          have ec : cutV (ws.map V.str) (some 1) none = (ws.drop 1).map V.str := by
            rw [List.map_drop]
            exact cut_from _ 1
          rw [ec]
          obtain ⟨s5, f5⟩ := new_at (o := .lst ((ws.drop 1).map V.str)) nsl
          generalize upd H' sl (.lst ((ws.drop 1).map V.str)) = H5 at s5 f5 ⊢
          refine ⟨_, rfl, sl, a, ws.drop 1, as, rfl, rfl, SqL.of f5, SqL.of (s5 _ _ (s04 _ _ ha)), _, rfl, ?_⟩
          cases el : barLe (ws.drop 1) as with
          | true =>
            refine iteT (k2 _ _ s5 ?_)
            unfold wrBar
            rw [ek]
            show _ = optV (if barLe (ws.drop 1) as = true then some 6 else none)
            rw [el]
            rfl
          | false =>
            refine iteF (k2 _ _ s5 ?_)
            unfold wrBar
            rw [ek]
            show _ = optV (if barLe (ws.drop 1) as = true then some 6 else none)
            rw [el]
            rfl
      · obtain ⟨x, r, e⟩ : ∃ x r, ws.drop 5 = x :: r := ⟨_, _, List.drop_eq_getElem_cons (by omega)⟩
        rw [e] at ek
        rw [decide_eq_true (by omega)]
        refine iteT (iteT (k _ ?_))
        unfold wrBar
        rw [ek]
        rfl
end
end DL

set_option Elab.async false
set_option maxRecDepth 100000
set_option maxHeartbeats 4000000
namespace DL
open PySem PySem.Spec PyProof.Rows L2 HT TL
/-! ### the law's own answers -/
/-- None, or a list of line and word -/
def PairV (H : Hp) (v : V) : Option (Nat × Nat) → Prop
  | none => v = .non
  | some p => ∃ a : Addr, v = .ref a ∧ H a = some (.lst [.int p.1, .int p.2])
theorem lnW : (("line" : Str) == ("word" : Str)) = false := by decide +kernel
structure CatX (K : PySem.W.Frag) (CI : Addr) : Prop where
  ii : PySem.W.exmOne K (.ref CI) (.ref CI) = some true
  x : XfC K CI
  l : PySem.W.findIn K (.ref CI) "line" = some none
  w : PySem.W.findIn K (.ref CI) "word" = some none
structure spRefT (vs : List V) (H : Hp) (Q : VK) (_ : XK) : Prop where
  h : ∃ (z : Str) (ys : List Str), vs = [.str z] ∧ z.length ≤ 100000 ∧ Txt.split z "\n" = ys ∧ ys ≠ [] ∧ ys.length ≤ 50 ∧ (∀ y ∈ ys, y.length ≤ 1000 ∧ (Txt.split y " ").length ≤ 1000 ∧ (wordsL y).length ≤ 50) ∧
    ∀ v H', Same H H' → PairV H' v (wrong (ys.map wordsL)) → Q v H'
structure spLWr (vs : List V) (H : Hp) (Q : VK) (_ : XK) : Prop where
  h : ∃ (p : Addr) (ts : List (Addr × List Str)), vs = [.ref p] ∧ H p = some (.lst (ts.map fun t => V.ref t.1)) ∧ (∀ t ∈ ts, H t.1 = some (.lst (t.2.map V.str)) ∧ t.2.length ≤ 50 ∧ ∀ x ∈ t.2, PyData.strOk x = true) ∧ ts ≠ [] ∧ ts.length ≤ 50 ∧
    ∀ v H', Same H H' → PairV H' v (wrong (ts.map (·.2))) → Q v H'
section
variable {P : Program} {w : World} {K : PySem.W.Frag} {mg : Str → Option Value} {base : Heap}
abbrev nRfT : List Str := ["_law_text_here", "_law_found", "e"]
theorem scRfT : FnScope nRfT ["_law_text_here"] (defScope s__law_refused) := ⟨rfl, rfl, rfl, by decide +kernel, rfl, by decide +kernel, by decide +kernel⟩
theorem ok_lawRefT {f f1 CI : Addr} {fd fd1 : FuncData} (F : Fun K "_law_refused" "_law_refused" s__law_refused f fd)
    (G : FnOk P w K mg base (L2.CX P w) 8 f1 fd1 ["text"] (spRead2 CI)) (g1 : mg "read" = some (.ref f1)) (k1 : PySem.W.keepIn K (.ref f1) = true) (b1 : Binds K fd1 ["text"] []) (gI : mg "InvalidText" = some (.ref CI)) (CT : CatX K CI) : FnOk P w K mg base CX0 10 f fd ["_law_text_here"] spRefT := by
  refine F.ok scRfT (fun vs H Q E h => ?_) (fun cdv A outer s H vs Q E hr h => ?_)
  · obtain ⟨z, ys, rfl, _⟩ := h.h
    rfl
  · obtain ⟨z, ys, rfl, zl, ez, yne, y50, hy, k⟩ := h.h
    refine ⟨_, pss_cons (ps_set (i := 1) scRfT.nd rfl (Or.inl rfl) pe_non)
      (pss_cons (ps_try_any (tb := fun W => tDrop (tCallS (spRead2 CI) (WE W) (tCons (tVar 0) tNil))) (l := [(.ref CI, some 2, fun a cls d => tAsg (tLst (tCons (tXf a cls d CI "line" (tVar 2)) (tCons (tXf a cls d CI "word" (tVar 2)) tNil))) (gName 1))]) (Wout := fun _ _ _ _ => False) rfl rfl takes0
        (fun W pn xe tk _ => pss_one (ps_expr (by exact (pe_callS G (hr.mono (by decide)) rfl g1 k1 b1 (fun σ => passAt tk σ) (by exact (pa_cons (pv 0) pa_nil))))))
        (.named scRfT.nd rfl rfl ⟨rfl, by decide, Or.inl gI⟩ (fun a oe cls d pn hz hf => pss_one (ps_set (i := 1) scRfT.nd rfl (Or.inl rfl) (pe_lst (pa_cons (pe_xf CT.x CT.l hz hf (by exact (pv 2))) (pa_cons (pe_xf CT.x CT.w hz hf (by exact (pv 2))) pa_nil))))) .nil))
      (pss_one (ps_ret (pv 1)))), ?_⟩
    refine ⟨_, rfl, ⟨⟨z, ys, rfl, zl, ez, yne, y50, hy, fun H' s => ?_⟩⟩⟩
    cases ew : wrong (ys.map wordsL) with
    | none => exact fun c => ⟨_, rfl, k _ _ s (by rw [ew]; rfl)⟩
    | some p =>
      intro d H2 hd s2 hx
      refine ⟨true, CT.ii, fun _ a na => ?_, fun z => by cases z⟩
      refine ⟨_, rfl, rfl, rfl, d, _, .int p.1, rfl, hx, by simp [List.lookup, lnW], _, rfl, rfl, rfl, d, _, .int p.2, rfl, hx, by simp [List.lookup], by show 2 ≤ sizeLine; decide, fun l nl => ?_⟩
      refine ⟨_, rfl, k _ _ ((s.trans s2).trans (same_upd nl)) ?_⟩
      rw [ew]
      exact ⟨l, rfl, upd_same⟩
abbrev nLW : List Str := ["_law_rows", "_law_drawers", "_law_ahead", "_law_k", "_law_wrong_here", "_law_drawer"]
theorem scLW : FnScope nLW ["_law_rows"] (defScope s__law_wrong) := ⟨rfl, rfl, rfl, by decide +kernel, rfl, by decide +kernel, by decide +kernel⟩
theorem ok_lawWrong {f f1 : Addr} {fd fd1 : FuncData} (F : Fun K "_law_wrong" "_law_wrong" s__law_wrong f fd) (T : Bt mg) (zS : mg "str" = none)
    (G : FnOk P w K mg base CX0 1 f1 fd1 ["_law_words", "_law_drawers", "_law_ahead"] (spLBar K)) (g1 : mg "_law_bar" = some (.ref f1)) (k1 : PySem.W.keepIn K (.ref f1) = true) (b1 : Binds K fd1 ["_law_words", "_law_drawers", "_law_ahead"] []) :
    FnOk P w K mg base CX0 2 f fd ["_law_rows"] spLWr := by
  refine F.ok scLW (fun vs H Q E h => ?_) (fun cdv A outer s H vs Q E hr h => ?_)
  · obtain ⟨p, ts, rfl, _⟩ := h.h
    rfl
  · obtain ⟨p, ts, rfl, hp, ht, tne, t50, k⟩ := h.h
    have hu : _ + 64 < cLine := hr.units
    refine ⟨_, pss_cons (ps_if (pt_cmpR (op_neD hu) (pe_slice sl_list (pe_ix ix_list (pv 0) pe_int (fun _ _ => rfl)) po_none (po_some pe_int)) (pe_lst (pa_cons pe_str pa_nil)) (nomark _)) (pss_one (ps_ret (pe_lst (pa_cons pe_int (pa_cons pe_int pa_nil))))) pss_nil)
      (pss_cons (ps_if (PW.pt (pw_or (pt_cmpR op_lt (pe_callB call_len_seq (by rfl) T.len (by decide +kernel) (pa_cons (pe_ix ix_list (pv 0) pe_int (fun _ _ => rfl)) pa_nil)) pe_int (nomark _))
            (pw_or1 (pt_cmpR op_notIn_seq (pe_ix ix_list (pe_ix ix_list (pv 0) pe_int (fun _ _ => rfl)) pe_int (fun _ _ => rfl)) (pe_lst (pa_cons pe_str (pa_cons pe_str (pa_cons pe_str (pa_cons pe_str (pa_cons pe_str (pa_cons pe_str (pa_cons pe_str pa_nil)))))))) (by rfl)))))
          (pss_one (ps_ret (pe_lst (pa_cons pe_int (pa_cons pe_int pa_nil))))) pss_nil)
      (pss_cons (ps_if (pt_cmpR op_gt (pe_callB call_len_seq (by rfl) T.len (by decide +kernel) (pa_cons (pe_ix ix_list (pv 0) pe_int (fun _ _ => rfl)) pa_nil)) pe_int (nomark _))
          (pss_one (ps_ret (pe_lst (pa_cons pe_int (pa_cons pe_int pa_nil))))) pss_nil)
      (pss_cons (ps_par (i := 1) (j := 2) (by rfl) scLW.nd rfl rfl (by decide) rfl rfl (pa_cons
          (pe_lc (own := [("_law_drawer", 5)]) (g := gName 5) (tt := tYes) (by rfl) scLW.nd (pi_range1 (by rfl) T.range (pa_cons (pe_callTy call_int_str (by rfl) T.int (by decide +kernel) (pa_cons (pe_ix ix_list (pe_ix ix_list (pv 0) pe_int (fun _ _ => rfl)) pe_int (fun _ _ => rfl)) pa_nil)) pa_nil)) (blkOk_by (N := nLW) (sc := defScope s__law_wrong) (by decide +kernel)) (fun _ _ _ _ _ => pg_name (i := 5) scLW.nd rfl (Or.inl rfl)) (fun _ _ _ _ _ => pts_nil)
            (fun _ _ _ _ _ => pe_callTy call_str_int (by rfl) zS (by decide +kernel) (pa_cons (pv 5) pa_nil))) (pa_cons pe_non pa_nil)) (by rfl))
      (pss_cons (ps_for PassesOwn.never rfl (pi_range2 (by rfl) T.range (pa_cons pe_int (pa_cons (pe_callB call_len_seq (by rfl) T.len (by decide +kernel) (pa_cons (pv 0) pa_nil)) pa_nil))) (pg_name (i := 3) scLW.nd rfl (Or.inl rfl))
          (pss_cons (ps_set (i := 4) scLW.nd rfl (Or.inl rfl) (pe_call G (hr.mono (by decide)) rfl g1 k1 b1 .nil pass0 (pa_cons (pe_ix ix_list (pv 0) (pv 3) (fun _ _ => rfl)) (pa_cons (pv 1) (pa_cons (pv 2) pa_nil)))))
          (pss_cons (ps_if (pt_cmp (pc_notN (pv 4))) (pss_one (ps_ret (pe_lst (pa_cons (pe_op op_add (pv 3) pe_int) (pa_cons (pv 4) pa_nil))))) pss_nil)
          (pss_one (ps_set (i := 2) scLW.nd rfl (Or.inl rfl) (pe_slice sl_list (pe_ix ix_list (pv 0) (pv 3) (fun _ _ => rfl)) (po_some pe_int) po_none))))))
      (pss_one (ps_ret pe_non)))))), ?_⟩
    match ts, hp, ht, tne, t50, k with
    | t0 :: ts, hp, ht, tne, t50, k =>
    obtain ⟨h0, l0, o0⟩ := ht t0 List.mem_cons_self
    obtain ⟨w0, ew0⟩ : ∃ w0, t0.2 = w0 := ⟨_, rfl⟩
    rw [List.map_cons, ew0] at k
    rw [ew0] at h0 l0 o0
    refine ⟨_, rfl, p, _, 0, .ref t0.1, rfl, rfl, SqL.of hp, atI_nat (j := 0) rfl, 1, rfl, t0.1, _, rfl, SqL.of h0, fun sl nsl => ?_⟩
    have ec : cutV (w0.map V.str) none (some 1) = (w0.take 1).map V.str := by
      rw [List.map_take]
      exact cut_to _ 1
    rw [ec]
    obtain ⟨s1, f1⟩ := new_at (o := .lst ((w0.take 1).map V.str)) nsl
    generalize upd H sl (.lst ((w0.take 1).map V.str)) = H1 at s1 f1 ⊢
    refine ⟨by show 1 ≤ sizeLine; decide, fun l1 n1 => ?_⟩
    obtain ⟨s2, f2⟩ := new_at (o := .lst [.str "drawers"]) n1
    generalize upd H1 l1 (.lst [.str "drawers"]) = H2 at s2 f2 ⊢
    have ed : [V.str ("drawers" : Str)] = ([("drawers" : Str)]).map V.str := rfl
    rw [ed] at f2
    have k : ∀ v H', Same H2 H' → PairV H' v (wrong (w0 :: ts.map (·.2))) → Q v H' := fun v H' s => k v H' ((s1.trans s2).trans s)
    have hp2 := s2 _ _ (s1 _ _ hp)
    have h02 := s2 _ _ (s1 _ _ h0)
    have ht2 : ∀ t ∈ ts, H2 t.1 = some (.lst (t.2.map V.str)) ∧ t.2.length ≤ 50 := fun t h => ⟨s2 _ _ (s1 _ _ (ht t (List.mem_cons_of_mem _ h)).1), (ht t (List.mem_cons_of_mem _ h)).2.1⟩
    refine ⟨.list ((w0.take 1).map PyData.str), .list ([("drawers" : Str)].map PyData.str), .lst (SqL.of (s2 _ _ f1)) (dpAll_txt _), .lst (SqL.of f2) (dpAll_txt _), dok_shaped (dok_strs fun x hx => o0 x (List.mem_of_mem_take hx)) (by decide), dok_shaped (dok_strs fun x hx => by rw [List.mem_singleton.mp hx]; decide +kernel) (by decide), _, rfl, ?_⟩
    have ee : PyData.eqv (.list ((w0.take 1).map PyData.str)) (.list ([("drawers" : Str)].map PyData.str)) = decide (w0.take 1 = [("drawers" : Str)]) := PySem.W.Datum.eqv (α := List Str) _ _
    rw [ee]
    clear ht hp h0 s1 s2 f1 f2 ed ee
    have ans : ∀ j : Nat, chk w0 lotsD 1 = some j → ∀ H9, Same H2 H9 → ∀ l, H9 l = none → Q (.ref l) (upd H9 l (.lst [.int 1, .int j])) := fun j e H9 s l nl => k _ _ (s.trans (same_upd nl)) (by rw [wrong_cons, e]; exact ⟨l, rfl, upd_same⟩)
    match w0, h02, l0, o0, k, ans with
    | [], h02, l0, o0, k, ans => exact iteT ⟨by show 2 ≤ sizeLine; decide, fun l nl => ans 1 rfl _ (Same.refl _) l nl⟩
    | x :: r, h02, l0, o0, k, ans =>
    by_cases q1 : x = "drawers"
    · subst q1
      rw [decide_eq_true (show ("drawers" :: r : List Str).take 1 = [("drawers" : Str)] from rfl)]
      refine iteF ?_
      have mD : ("drawers" : Str) ∈ [("drawers" : Str)] := List.mem_singleton.mpr rfl
      match r, h02, l0, o0, k, ans with
      | [], h02, l0, o0, k, ans =>
        refine ⟨_, rfl, p, _, 0, .ref t0.1, rfl, rfl, SqL.of hp2, atI_nat (j := 0) rfl, t0.1, _, rfl, .inl (SqL.of h02), _, _, rfl, rfl, _, rfl, ?_⟩
        refine iteT (iteT ⟨by show 2 ≤ sizeLine; decide, fun l nl => ans 2 ?_ _ (Same.refl _) l nl⟩)
        show (if ("drawers" : Str) ∈ [("drawers" : Str)] then chk [] [nm1] 2 else some 1) = some 2
        rw [if_pos mD]
        rfl
      | y :: r2, h02, l0, o0, k, ans =>
      have eck : chk (("drawers" : Str) :: y :: r2) lotsD 1 = if y ∈ nm1 then chk r2 [] 3 else some 2 := by
        show (if ("drawers" : Str) ∈ [("drawers" : Str)] then chk (y :: r2) [nm1] 2 else some 1) = _
        rw [if_pos mD]
        rfl
      refine ⟨_, rfl, p, _, 0, .ref t0.1, rfl, rfl, SqL.of hp2, atI_nat (j := 0) rfl, t0.1, _, rfl, .inl (SqL.of h02), _, _, rfl, rfl, _, rfl, ?_⟩
      rw [decide_eq_false (by rw [List.length_map, List.length_cons, List.length_cons]; omega)]
      refine iteF ⟨_, rfl, p, _, 0, .ref t0.1, rfl, rfl, SqL.of hp2, atI_nat (j := 0) rfl, t0.1, _, 1, .str y, rfl, rfl, SqL.of h02, atI_nat (j := 1) rfl, (by show 7 ≤ sizeLine; decide), fun l7 n7 => ?_⟩
      have e7 : [V.str ("1" : Str), .str "2", .str "3", .str "4", .str "5", .str "6", .str "7"] = nm1.map V.str := by decide +kernel
      rw [e7]
      obtain ⟨s3, f3⟩ := new_at (o := .lst (nm1.map V.str)) n7
      generalize upd H2 l7 (.lst (nm1.map V.str)) = H3 at s3 f3 ⊢
      refine ⟨l7, _, rfl, .inl (SqL.of f3), rfl, (by generalize nm1 = cc; simp [flatV]), ?_⟩
      rw [inV_mem9]
      refine ⟨_, rfl, ?_⟩
      have hp3 := s3 _ _ hp2
      have h03 := s3 _ _ h02
      have ht3 : ∀ t ∈ ts, H3 t.1 = some (.lst (t.2.map V.str)) ∧ t.2.length ≤ 50 := fun t h => ⟨s3 _ _ (ht2 t h).1, (ht2 t h).2⟩
      by_cases m : y ∈ nm1
      · rw [if_pos m] at eck
        rw [decide_eq_true m]
        refine iteF ?_
        refine ⟨_, rfl, p, _, 0, .ref t0.1, rfl, rfl, SqL.of hp3, atI_nat (j := 0) rfl, t0.1, _, rfl, .inl (SqL.of h03), _, _, rfl, rfl, _, rfl, ?_⟩
        match r2, h02, l0, o0, k, ans, eck, h03 with
        | z :: r3, h02, l0, o0, k, ans, eck, h03 =>
          rw [decide_eq_true (by rw [List.length_map, List.length_cons, List.length_cons, List.length_cons]; omega)]
          exact iteT ⟨by show 2 ≤ sizeLine; decide, fun l nl => ans 3 eck _ s3 l nl⟩
        | [], h02, l0, o0, k, ans, eck, h03 =>
        refine iteF ?_
        obtain ⟨n, n1, n7, en⟩ := chkD_none eck
        injection en with _ en
        injection en with en _
        subst en
        obtain ⟨N, rfl⟩ : ∃ N : Nat, n = N := ⟨n.toNat, by omega⟩
        obtain ⟨b1', b2'⟩ := fig_back (by omega) n7
        have k : ∀ v H', Same H3 H' → PairV H' v (wrBars N (ts.map (·.2)) 2 none) → Q v H' := fun v H' s q => k v H' (s3.trans s) (by
          rw [wrong_cons, eck, num_head n1 n7, Int.toNat_natCast]
          exact q)
        clear ans o0 l0 h02 hp2 ht2
        refine ⟨_, rfl, p, _, 0, .ref t0.1, rfl, rfl, SqL.of hp3, atI_nat (j := 0) rfl, t0.1, _, 1, .str (fig N), rfl, rfl, SqL.of h03, atI_nat (j := 1) rfl, fig N, N, rfl, b1', b2', _, rfl, by omega, by omega, fun D nD => ?_⟩
        rw [Int.toNat_natCast]
        refine lc_pick (walk_range (lo := 0) (n := N)) (List.range N) List.length_range (by omega) (fun _ => true) (fun z => V.str (fig ((0 : Int) + (z : Nat)))) nD (fun _ _ => trivial) ?_ ?_
        · rintro i x z H2 H3 Tk Nk ez s ⟨rfl, ex⟩ kT kF
          have hz : z = i := by
            have := (List.getElem?_eq_some_iff.mp ez).2
            rw [List.getElem_range] at this
            exact this.symm
          have hi : i < N := by
            have := (List.getElem?_eq_some_iff.mp ez).1
            rw [List.length_range] at this
            exact this
          subst hz
          subst ex
          exact ⟨rfl, tYes_of (iteT ⟨_, rfl, _, rfl, small_log (by omega) (by omega), kT _ rfl (Same.refl _)⟩)⟩
        intro H4 s4 hD
        have hD' : H4 D = some (.lst ((nm N).map V.str)) := by
          rw [hD, List.filter_eq_self.mpr fun _ _ => rfl]
          unfold nm
          rw [List.map_map]
          rfl
        have hp4 := s4 _ _ hp3
        have ht4 : ∀ t ∈ ts, H4 t.1 = some (.lst (t.2.map V.str)) ∧ t.2.length ≤ 50 := fun t h => ⟨s4 _ _ (ht3 t h).1, (ht3 t h).2⟩
        have k : ∀ v H', Same H4 H' → PairV H' v (wrBars N (ts.map (·.2)) 2 none) → Q v H' := fun v H' s q => k v H' (s4.trans s) q
        obtain ⟨rows, erows⟩ : ∃ rows, ts.map (·.2) = rows := ⟨_, rfl⟩
        have tsl : ts.length = rows.length := by rw [← erows, List.length_map]
        rw [erows] at k
        refine ⟨_, _, rfl, ?_⟩
        refine ⟨_, rfl, p, _, rfl, .inl (SqL.of hp4), 1, _, rfl, ?_, ?_⟩
        · rw [List.length_map]
          refine ⟨by decide, by decide, by omega, ?_⟩
          rw [List.length_cons] at t50 ⊢
          omega
        have el : ((((t0 :: ts).map fun t => V.ref t.1).length : Nat) : Int) - 1 = (rows.length : Nat) := by
          rw [List.length_map, List.length_cons, tsl]
          omega
        rw [el, Int.toNat_natCast]
        refine for_range (lo := 1) (n := rows.length) (fun i σ H' => ∃ (va : V) (ah : Option (List Str)) (v3 v4 : Option V), σ = [some (.ref p), some (.ref D), some va, v3, v4, none] ∧ Same H4 H' ∧ ((ah = none ∧ va = .non) ∨ ∃ (as : List Str) (a : Addr), ah = some as ∧ va = .ref a ∧ H' a = some (.lst (as.map V.str))) ∧ wrBars N rows 2 none = wrBars N (rows.drop i) (2 + i) ah)
          ⟨_, none, _, _, rfl, Same.refl _, .inl ⟨rfl, rfl⟩, rfl⟩ ?_ ?_
        · rintro i σ H5 hi ⟨va, ah, v3, v4, rfl, s5, hah, ew⟩
          obtain ⟨t, et⟩ : ∃ t, ts[i]? = some t := ⟨_, List.getElem?_eq_getElem (by omega)⟩
          have erow : rows[i]? = some t.2 := by rw [← erows, List.getElem?_map, et]; rfl
          obtain ⟨hi2, eri⟩ := List.getElem?_eq_some_iff.mp erow
          rw [List.drop_eq_getElem_cons hi2, eri] at ew
          obtain ⟨htt, t50'⟩ := ht4 t (List.mem_of_getElem? et)
          have eI : (1 : Int) + (i : Nat) = ((i + 1 : Nat) : Int) := by omega
          rw [eI]
          have at1 : atI ((t0 :: ts).map fun t => V.ref t.1) ((i + 1 : Nat) : Int) = some (.ref t.1) := atI_nat (by
            rw [List.map_cons, List.getElem?_cons_succ, List.getElem?_map, et]
            rfl)
          refine ⟨_, rfl, _, rfl, p, _, _, .ref t.1, rfl, rfl, SqL.of (s5 _ _ hp4), at1, _, rfl, _, rfl, ⟨⟨t.1, D, t.2, N, va, ah, rfl, s5 _ _ htt, t50', s5 _ _ hD', hah, fun H6 s6 => ?_⟩⟩⟩
          rw [wrBars_cons] at ew
          cases eb : wrBar N t.2 ah with
          | some j =>
            rw [eb] at ew
            refine ⟨_, rfl, _, rfl, ?_⟩
            rw [decide_eq_false (by intro z; cases z)]
            refine iteT ⟨_, rfl, _, _, rfl, rfl, _, rfl, by show 2 ≤ sizeLine; decide, fun l nl => ?_⟩
            refine k _ _ ((s5.trans s6).trans (same_upd nl)) ?_
            rw [ew]
            refine ⟨l, rfl, ?_⟩
            rw [upd_same]
            show some (HO.lst [V.int (((i + 1 : Nat) : Int) + 1), V.int (j : Nat)]) = some (HO.lst [V.int ((2 + i : Nat) : Int), V.int (j : Nat)])
            rw [show (((i + 1 : Nat) : Int) + 1) = ((2 + i : Nat) : Int) by omega]
          | none =>
            rw [eb] at ew
            refine ⟨_, rfl, _, rfl, ?_⟩
            rw [decide_eq_true (show optV none = V.non from rfl)]
            refine iteF ⟨_, rfl, _, rfl, p, _, _, .ref t.1, rfl, rfl, SqL.of (s6 _ _ (s5 _ _ hp4)), at1, 1, rfl, t.1, _, rfl, SqL.of (s6 _ _ (s5 _ _ htt)), fun sl nsl => ?_⟩
            have ec : cutV (t.2.map V.str) (some 1) none = (t.2.drop 1).map V.str := by
              rw [List.map_drop]
              exact cut_from _ 1
            rw [ec]
            refine ⟨_, some (t.2.drop 1), _, _, rfl, (s5.trans s6).trans (same_upd nsl), .inr ⟨_, sl, rfl, rfl, upd_same⟩, ?_⟩
            rw [ew, Nat.add_assoc]
        · rintro σ H5 ⟨va, ah, v3, v4, rfl, s5, hah, ew⟩
          refine k _ H5 s5 ?_
          rw [ew, List.drop_length]
          rfl
      · rw [if_neg m] at eck
        rw [decide_eq_false m]
        exact iteT ⟨by show 2 ≤ sizeLine; decide, fun l nl => ans 2 eck _ s3 l nl⟩
    · rw [decide_eq_false (fun z => q1 (by injection z))]
      refine iteT ⟨by show 2 ≤ sizeLine; decide, fun l nl => ans 1 ?_ _ (Same.refl _) l nl⟩
      show (if x ∈ [("drawers" : Str)] then chk r [nm1] 2 else some 1) = some 1
      rw [if_neg fun z => q1 (List.mem_singleton.mp z)]
end
end DL

set_option Elab.async false
set_option maxRecDepth 100000
set_option maxHeartbeats 4000000
namespace DL
open PySem PySem.Spec PyProof.Rows L2 HT TL
/-! ### the words that are drawn, the lines of them -/
def oddW : List Str := ["drawers", "bar", "open", "shut", "0", "1", "6", "7", "8", "-1", "01", "x", "Open"]
def GW : List Str := ["drawers", "bar", "open", "shut", "0", "1", "2", "3", "4", "5", "6", "7", "8", "-1", "01", "x", "Open"]
theorem gw_all : ∀ x ∈ GW, x ≠ "" ∧ (32 : Nat) ∉ TL.tl x ∧ (10 : Nat) ∉ TL.tl x ∧ x.length ≤ 7 ∧ PyData.strOk x = true := by decide +kernel
theorem odd_gw : ∀ x ∈ oddW, x ∈ GW := by decide +kernel
theorem fig_gw {d : Int} (h0 : 0 ≤ d) (h7 : d ≤ 7) : fig d ∈ GW := by
  have z : ∀ n : Fin 8, fig ((n.val : Nat) : Int) ∈ GW := by decide +kernel
  have := z ⟨d.toNat, by omega⟩
  rw [show ((d.toNat : Nat) : Int) = d by omega] at this
  exact this
theorem wd_gw (b : Bool) : wd b ∈ GW := by revert b; decide +kernel
theorem gw_wd {x : Str} (h : x ∈ GW) : Wd x ∧ x.length ≤ 10 := by
  obtain ⟨a, b, c, d, _⟩ := gw_all x h
  exact ⟨⟨b, a, c⟩, by omega⟩
structure OkW (k : Nat) (ws : List Str) : Prop where
  len : ws.length ≤ k
  gw : ∀ x ∈ ws, x ∈ GW
structure OkR (m k : Nat) (rows : List (List Str)) : Prop where
  len : rows.length ≤ m
  ok : ∀ ws ∈ rows, OkW k ws
theorem join_nil (y : Str) : Txt.join y [] = "" := by
  have : (Txt.join y []).length ≤ 0 := by
    have := join_len y []
    simpa using this
  have e : (Txt.join y []).cps.toList = [] := by
    have h : (Txt.join y []).cps.size = 0 := by
      have q : (Txt.join y []).length = (Txt.join y []).cps.size := rfl
      omega
    rw [← List.length_eq_zero_iff, Array.length_toList]
    exact h
  exact PySem.W.str_of_cps (by rw [e]; decide +kernel)
theorem good_any {ws : List Str} (h : OkW 7 ws) : Good (Txt.join " " ws) ws ∧ (Txt.join " " ws).length ≤ 77 ∧ (ws.map (·.length)).sum ≤ 70 := by
  by_cases ne : ws = []
  · subst ne
    rw [join_nil]
    exact ⟨⟨by decide +kernel, by decide +kernel, by decide +kernel, by decide +kernel⟩, by decide +kernel, by decide⟩
  have ns : ∀ p ∈ ws, noSp p := fun p hp => (gw_wd (h.gw p hp)).1.1
  have l7 := h.len
  have sm : (ws.map (·.length)).sum ≤ ws.length * 10 := by
    have := sum_le (l := ws.map (·.length)) (m := 10) fun x hx => by
      obtain ⟨z, hz, rfl⟩ := List.mem_map.mp hx
      exact (gw_wd (h.gw z hz)).2
    rw [List.length_map] at this
    exact this
  have jl := join_len " " ws
  have g1 : (" " : Str).length = 1 := by decide +kernel
  rw [g1] at jl
  refine ⟨⟨?_, by omega, by rw [spaces_split ne ns]; omega, join_nl fun p hp => (gw_wd (h.gw p hp)).1.2.2⟩, by omega, by omega⟩
  rw [words_join ne ns]
  exact List.filter_eq_self.mpr fun x hx => by simp [(gw_wd (h.gw x hx)).1.2.1]
theorem refT_rows {rows : List (List Str)} {H : Hp} {Q : VK} {E : XK} (ne : rows ≠ []) (h : OkR 40 7 rows) (k : ∀ v H', Same H H' → PairV H' v (wrong rows) → Q v H') : spRefT [.str (Txt.join "\n" (rows.map (Txt.join " ")))] H Q E := by
  have g : ∀ y ∈ rows.map (Txt.join " "), Good y (wordsL y) ∧ y.length ≤ 77 ∧ (wordsL y).length ≤ 7 := fun y hy => by
    obtain ⟨ws, hw, rfl⟩ := List.mem_map.mp hy
    obtain ⟨a, b, _⟩ := good_any (h.ok ws hw)
    rw [a.1]
    exact ⟨a, b, (h.ok ws hw).len⟩
  have sm : ((rows.map (Txt.join " ")).map (·.length)).sum ≤ (rows.map (Txt.join " ")).length * 77 := by
    have := sum_le (l := (rows.map (Txt.join " ")).map (·.length)) (m := 77) fun x hx => by
      obtain ⟨z, hz, rfl⟩ := List.mem_map.mp hx
      exact (g z hz).2.1
    rw [List.length_map] at this
    exact this
  have jl := join_len "\n" (rows.map (Txt.join " "))
  have g1 : ("\n" : Str).length = 1 := by decide +kernel
  have l40 := h.len
  rw [g1] at jl
  rw [List.length_map] at sm jl
  have ne2 : rows.map (Txt.join " ") ≠ [] := fun z => ne (List.map_eq_nil_iff.mp z)
  have sp : Txt.split (Txt.join "\n" (rows.map (Txt.join " "))) "\n" = rows.map (Txt.join " ") := split_join (s := 10) (S := []) rfl (by decide +kernel) ne2 fun p hp => (g p hp).1.2.2.2
  have eww : (rows.map (Txt.join " ")).map wordsL = rows := by
    rw [List.map_map]
    refine (List.map_congr_left (g := id) fun ws hw => ?_).trans (List.map_id _)
    exact (good_any (h.ok ws hw)).1.1
  refine ⟨⟨_, _, rfl, by omega, sp, ne2, by rw [List.length_map]; omega, fun y hy => ⟨(g y hy).1.2.1, (g y hy).1.2.2.1, Nat.le_trans (g y hy).2.2 (by decide)⟩, fun v H' s q => k v H' s (by rw [eww] at q; exact q)⟩⟩
theorem chk_bar {N : Nat} {b : Bar} (hN : N ≤ 7) (h : b.ok N) : chk (barW b) (lots N (barW b)) 1 = none := by
  obtain ⟨d0, d1, o0, o1, ne⟩ := h
  have m0 : ("bar" : Str) ∈ [("bar" : Str)] := List.mem_singleton.mpr rfl
  have m1 : fig b.d ∈ nm N := in_nm d0 d1
  have wds : ∀ x : Bool, wd x ∈ ow := by decide +kernel
  have m3 : fig b.o ∈ (nm N).filter fun x => !decide (x ∈ ((barW b).drop 1).take 1) := by
    refine List.mem_filter.mpr ⟨in_nm o0 o1, ?_⟩
    have : fig b.o ≠ fig b.d := fun e => ne (fig_inj o0 (by omega) d0 (by omega) e).symm
    have q : ¬ fig b.o ∈ ((barW b).drop 1).take 1 := fun z => this (List.mem_singleton.mp z)
    rw [decide_eq_false q]
    rfl
  show (if ("bar" : Str) ∈ [("bar" : Str)] then (if fig b.d ∈ nm N then (if wd b.w ∈ ow then (if fig b.o ∈ (nm N).filter (fun x => !decide (x ∈ ((barW b).drop 1).take 1)) then (if wd b.t ∈ ow then none else some 5) else some 4) else some 3) else some 2) else some 1) = none
  rw [if_pos m0, if_pos m1, if_pos (wds _), if_pos m3, if_pos (wds _)]
theorem wr_bars {N : Nat} (hN : N ≤ 7) : ∀ (bs : List Bar) (k : Nat) (pr : Option Bar), OkBars N bs → (∀ p ∈ pr, p.ok N ∧ ∀ b ∈ bs, p.code < b.code) → wrBars N (bs.map barW) k (pr.map fun b => (barW b).drop 1) = none
  | [], _, _, _, _ => rfl
  | b :: bs, k, pr, hO, hp => by
    have hb := hO.ok b List.mem_cons_self
    have e : wrBar N (barW b) (pr.map fun b => (barW b).drop 1) = none := by
      unfold wrBar
      rw [chk_bar hN hb]
      cases pr with
      | none => rfl
      | some p =>
        obtain ⟨po, pl⟩ := hp p rfl
        show (if barLe ((barW b).drop 1) ((barW p).drop 1) = true then some 6 else none) = none
        rw [barLe_leq hN hb po, not_leq (n := (N : Int)) (by omega) po hb (pl b List.mem_cons_self)]
        rfl
    rw [List.map_cons, wrBars_cons, e]
    have asc := List.pairwise_cons.mp hO.asc
    exact wr_bars hN bs (k + 1) (some b) ⟨fun x hx => hO.ok x (List.mem_cons_of_mem _ hx), asc.2⟩ fun p hp => by
      cases hp
      exact ⟨hb, asc.1⟩
theorem wrong_ww {n : Int} {bs : List Bar} (n1 : 1 ≤ n) (n7 : n ≤ 7) (hO : OkBars n bs) : wrong (WW n bs) = none := by
  have m0 : ("drawers" : Str) ∈ [("drawers" : Str)] := List.mem_singleton.mpr rfl
  have m1 : fig n ∈ nm1 := by
    refine List.mem_map.mpr ⟨(n - 1).toNat, List.mem_range.mpr (by omega), ?_⟩
    rw [show (1 : Int) + ((n - 1).toNat : Nat) = n by omega]
  have e : chk [("drawers" : Str), fig n] lotsD 1 = none := by
    show (if ("drawers" : Str) ∈ [("drawers" : Str)] then (if fig n ∈ nm1 then none else some 2) else some 1) = none
    rw [if_pos m0, if_pos m1]
  obtain ⟨N, rfl⟩ : ∃ N : Nat, n = N := ⟨n.toNat, by omega⟩
  unfold WW
  rw [wrong_cons, e, num_head n1 n7, Int.toNat_natCast]
  exact wr_bars (by omega) bs 2 none hO fun p hp => by cases hp
theorem ww_ok {n : Int} {bs : List Bar} (n1 : 1 ≤ n) (n7 : n ≤ 7) (hO : OkBars n bs) (h13 : bs.length ≤ 13) : OkR 14 5 (WW n bs) := by
  have g1 : ("drawers" : Str) ∈ GW := by decide +kernel
  have g2 : ("bar" : Str) ∈ GW := by decide +kernel
  refine ⟨by unfold WW; rw [List.length_cons, List.length_map]; omega, fun ws h => ?_⟩
  rcases List.mem_cons.mp h with rfl | h
  · refine ⟨by show 2 ≤ 5; decide, fun x hx => ?_⟩
    rcases List.mem_cons.mp hx with rfl | hx
    · exact g1
    · rw [List.mem_singleton.mp hx]; exact fig_gw (by omega) n7
  · obtain ⟨b, hb, rfl⟩ := List.mem_map.mp h
    obtain ⟨d0, d1, o0, o1, _⟩ := hO.ok b hb
    refine ⟨by show 5 ≤ 5; decide, fun x hx => ?_⟩
    unfold barW at hx
    simp only [List.mem_cons, List.not_mem_nil, or_false] at hx
    rcases hx with rfl | rfl | rfl | rfl | rfl
    · exact g2
    · exact fig_gw d0 (by omega)
    · exact wd_gw _
    · exact fig_gw o0 (by omega)
    · exact wd_gw _
/-- the lines in the heap -/
structure RowsW (H : Hp) (p : Addr) (ts : List (Addr × List Str)) : Prop where
  l : H p = some (.lst (ts.map fun t => V.ref t.1))
  el : ∀ t ∈ ts, H t.1 = some (.lst (t.2.map V.str))
theorem RowsW.same {H H' : Hp} {p : Addr} {ts : List (Addr × List Str)} (R : RowsW H p ts) (s : Same H H') : RowsW H' p ts := ⟨s _ _ R.l, fun t h => s _ _ (R.el t h)⟩
theorem txt_ne {H : Hp} {r a x : Addr} {ws : List Str} (R : RowOk H r a) (h : H x = some (.lst (ws.map V.str))) : x ≠ r := fun e => by
  obtain ⟨i, m, c, hr, _⟩ := R.h
  rw [e, hr] at h
  injection h with h
  injection h with h
  cases ws with
  | nil => cases h
  | cons w ws => cases h
theorem refs_ne {α : Type} {H : Hp} {r a x : Addr} {l : List α} {f : α → Addr} (R : RowOk H r a) (h : H x = some (.lst (l.map fun t => V.ref (f t)))) : x ≠ r := fun e => by
  obtain ⟨i, m, c, hr, _⟩ := R.h
  rw [e, hr] at h
  injection h with h
  injection h with h
  match l, h with
  | [], h => cases h
  | [_], h => cases h
  | _ :: _ :: _, h => cases h
theorem RowsW.but {H H' : Hp} {r a p : Addr} {ts : List (Addr × List Str)} (W : RowsW H p ts) (R : RowOk H r a) (b : But r H H') : RowsW H' p ts :=
  ⟨b _ _ (refs_ne R W.l) W.l, fun t h => b _ _ (txt_ne R (W.el t h)) (W.el t h)⟩
/-- A + B + C, of lists -/
theorem cat3 {tA tB tC : TE} {σ : L2.St} {H : Hp} {Q : VK} (xa xb xc : List V) (hA : ∀ (R : VK), (∀ p H', Same H H' → H' p = some (.lst xa) → R (.ref p) H') → tA σ H R)
    (hB : ∀ H1 (R : VK), Same H H1 → (∀ p H', Same H1 H' → H' p = some (.lst xb) → R (.ref p) H') → tB σ H1 R) (hC : ∀ H1 (R : VK), Same H H1 → (∀ p H', Same H1 H' → H' p = some (.lst xc) → R (.ref p) H') → tC σ H1 R)
    (len : xa.length + xb.length + xc.length ≤ 1000) (k : ∀ p H', Same H H' → H' p = some (.lst (xa ++ xb ++ xc)) → Q (.ref p) H') : (tOp rCat (tOp rCat tA tB) tC) σ H Q := by
  refine hA _ fun p H1 s1 hp => ?_
  refine hB _ _ s1 fun q H2 s2 hq => ?_
  refine ⟨p, q, xa, xb, rfl, rfl, s2 _ _ hp, hq, Nat.le_of_lt (small1000 (n := xa.length + xb.length) (by omega)), fun u nu => ?_⟩
  have s3 := same_upd (o := .lst (xa ++ xb)) nu
  have f3 : (upd H2 u (.lst (xa ++ xb))) u = some (.lst (xa ++ xb)) := upd_same
  generalize upd H2 u (.lst (xa ++ xb)) = H3 at s3 f3 ⊢
  refine hC _ _ ((s1.trans s2).trans s3) fun v H4 s4 hv => ?_
  refine ⟨u, v, xa ++ xb, xc, rfl, rfl, s4 _ _ f3, hv, by rw [List.length_append]; exact Nat.le_of_lt (small1000 (n := xa.length + xb.length + xc.length) (by omega)), fun z nz => ?_⟩
  exact k z _ (((((s1.trans s2).trans s3).trans s4)).trans (same_upd nz)) upd_same
def pairD : Option (Nat × Nat) → PyData
  | none => .none
  | some p => .list [.int p.1, .int p.2]
theorem PairV.same {H H' : Hp} {v : V} {o : Option (Nat × Nat)} (h : PairV H v o) (s : Same H H') : PairV H' v o := by
  cases o with
  | none => exact h
  | some p =>
    obtain ⟨a, e, h⟩ := h
    exact ⟨a, e, s _ _ h⟩
theorem pair_dp {K : PySem.W.Frag} {H : Hp} {v : V} {o : Option (Nat × Nat)} (h : PairV H v o) : Dp K H v (pairD o) := by
  cases o with
  | none =>
    obtain rfl : v = .non := h
    exact .non
  | some p =>
    obtain ⟨a, rfl, h⟩ := h
    exact .lst (SqL.of h) (.cons (.int _) (.cons (.int _) .nil))
theorem pair_dok : ∀ o : Option (Nat × Nat), dok 2 (pairD o)
  | none => ⟨by simp [pairD, PyData.canLay0], by simp [pairD, PyData.depth]⟩
  | some p => dok_list fun d hd => by
    rcases List.mem_cons.mp hd with rfl | hd
    · exact dok_int _
    · rw [List.mem_singleton.mp hd]; exact dok_int _
/-- A + [[]] + C -/
theorem cat3e {tA tB tC : TE} {σ : L2.St} {H : Hp} {Q : VK} (xa xc : List V) (hA : ∀ (R : VK), (∀ p H', Same H H' → H' p = some (.lst xa) → R (.ref p) H') → tA σ H R)
    (hB : ∀ H1 (R : VK), Same H H1 → (∀ p e H', Same H1 H' → H' e = some (.lst []) → H' p = some (.lst [.ref e]) → R (.ref p) H') → tB σ H1 R) (hC : ∀ H1 (R : VK), Same H H1 → (∀ p H', Same H1 H' → H' p = some (.lst xc) → R (.ref p) H') → tC σ H1 R)
    (len : xa.length + xc.length ≤ 900) (k : ∀ p e H', Same H H' → H' e = some (.lst []) → H' p = some (.lst (xa ++ [.ref e] ++ xc)) → Q (.ref p) H') : (tOp rCat (tOp rCat tA tB) tC) σ H Q := by
  refine hA _ fun p H1 s1 hp => ?_
  refine hB _ _ s1 fun q e H2 s2 he hq => ?_
  refine ⟨p, q, xa, [.ref e], rfl, rfl, s2 _ _ hp, hq, Nat.le_of_lt (small1000 (n := xa.length + 1) (by omega)), fun u nu => ?_⟩
  have s3 := same_upd (o := .lst (xa ++ [.ref e])) nu
  have f3 : (upd H2 u (.lst (xa ++ [.ref e]))) u = some (.lst (xa ++ [.ref e])) := upd_same
  generalize upd H2 u (.lst (xa ++ [.ref e])) = H3 at s3 f3 ⊢
  refine hC _ _ ((s1.trans s2).trans s3) fun v H4 s4 hv => ?_
  refine ⟨u, v, xa ++ [.ref e], xc, rfl, rfl, s4 _ _ f3, hv, by rw [List.length_append]; exact Nat.le_of_lt (small1000 (n := xa.length + 1 + xc.length) (by omega)), fun z nz => ?_⟩
  exact k z e _ (((((s1.trans s2).trans s3).trans s4)).trans (same_upd nz)) ((((s3.trans s4)).trans (same_upd nz)) _ _ he) upd_same
end DL

set_option Elab.async false
set_option maxRecDepth 100000
set_option maxHeartbeats 8000000
namespace DL
open PySem PySem.Spec PyProof.Rows L2 HT TL
theorem gname_go {i : Nat} {v : V} {σ : L2.St} {H : Hp} {F : L2.St → Hp → Prop} (h : F (σ.set i (some v)) H) : gName i v σ H F := h
theorem text_sum {rows : List (List Str)} (ok : OkR 40 7 rows) : ((rows.map (Txt.join " ")).map (·.length)).sum + (rows.map (Txt.join " ")).length * ("\n" : Str).length ≤ 16777216 := by
  have g : ∀ y ∈ rows.map (Txt.join " "), y.length ≤ 77 := fun y hy => by
    obtain ⟨ws, hw, rfl⟩ := List.mem_map.mp hy
    exact (good_any (ok.ok ws hw)).2.1
  have yl := ok.len
  have sm := sum_le (l := (rows.map (Txt.join " ")).map (·.length)) (m := 77) fun x hx => by
    obtain ⟨z, hz, rfl⟩ := List.mem_map.mp hx
    exact g z hz
  rw [List.length_map, List.length_map] at sm
  have g1 : ("\n" : Str).length = 1 := by decide +kernel
  rw [g1, List.length_map]
  omega
theorem text_one {ts : List (Addr × List Str)} {tt : Addr × List Str} (ok : OkR 40 7 (ts.map (·.2))) (hm : tt ∈ ts) : (tt.2.map (·.length)).sum + tt.2.length * (" " : Str).length ≤ 16777216 := by
  obtain ⟨_, _, sm⟩ := good_any (ok.ok tt.2 (List.mem_map_of_mem (f := (·.2)) hm))
  have l7 := (ok.ok tt.2 (List.mem_map_of_mem (f := (·.2)) hm)).len
  have g1 : (" " : Str).length = 1 := by decide +kernel
  rw [g1]
  omega
theorem text_map (ts : List (Addr × List Str)) : (ts.map fun t => V.str (Txt.join " " t.2)) = ((ts.map (·.2)).map (Txt.join " ")).map V.str := by
  rw [List.map_map, List.map_map]
  rfl
theorem OkR.mono {m k m' k' : Nat} {rows : List (List Str)} (h : OkR m k rows) (hm : m ≤ m') (hk : k ≤ k') : OkR m' k' rows := ⟨Nat.le_trans h.len hm, fun ws q => ⟨Nat.le_trans (h.ok ws q).len hk, (h.ok ws q).gw⟩⟩
theorem okr_of {m k : Nat} {ts : List (Addr × List Str)} (h : ∀ t ∈ ts, OkW k t.2) (l : ts.length ≤ m) : OkR m k (ts.map (·.2)) := ⟨by rw [List.length_map]; exact l, fun ws q => by
  obtain ⟨t, ht, rfl⟩ := List.mem_map.mp q
  exact h t ht⟩
theorem OkR.el {m k : Nat} {ts : List (Addr × List Str)} (h : OkR m k (ts.map (·.2))) (t : Addr × List Str) (ht : t ∈ ts) : OkW k t.2 := h.ok t.2 (List.mem_map_of_mem (f := (·.2)) ht)
theorem OkR.lens {m k : Nat} {ts : List (Addr × List Str)} (h : OkR m k (ts.map (·.2))) : ts.length ≤ m := by
  have := h.len
  rw [List.length_map] at this
  exact this
def spLaw25 (K : PySem.W.Frag) : Sp := fun vs H Q _ => ∃ (a : Addr) (ns : List Int), vs = [.ref a] ∧ SqL K H a (ns.map V.int) ∧ ns.length ≤ 63 ∧ ∀ H', Q (.bl true) H'
section
variable {P : Program} {w : World} {K : PySem.W.Frag} {mg : Str → Option Value} {base : Heap}
abbrev nLaw25 : List Str := ["_law_script", "_law_row", "_law_odd", "_law_turn", "_law_rows", "_law_words", "_law_k", "_law_place", "_law_kind", "_law_spot", "_law_more", "_law_same", "_law_swapped"]
theorem scLaw25 : FnScope nLaw25 ["_law_script"] (defScope s_law) := ⟨rfl, rfl, rfl, by decide +kernel, rfl, by decide +kernel, by decide +kernel⟩
theorem ok_law {f fT fX fP fR fW : Addr} {fd dT dX dP dR dW : FuncData} (F : Fun K "law" "law" s_law f fd) (T : Bt mg)
    (GT : FnOk P w K mg base CX0 1 fT dT ["_law_row", "_law_many"] (spTaken K)) (gT : mg "_law_taken" = some (.ref fT)) (kT : PySem.W.keepIn K (.ref fT) = true) (bT : Binds K dT ["_law_row", "_law_many"] [])
    (GP : FnOk P w K mg base CX0 2 fP dP ["_law_row", "_law_most"] (spParts K)) (gP : mg "_law_parts" = some (.ref fP)) (kP : PySem.W.keepIn K (.ref fP) = true) (bP : Binds K dP ["_law_row", "_law_most"] [])
    (GX : FnOk P w K mg base CX0 1 fX dX ["_law_d"] spText) (gX : mg "_law_text" = some (.ref fX)) (kX : PySem.W.keepIn K (.ref fX) = true) (bX : Binds K dX ["_law_d"] [])
    (GR : FnOk P w K mg base CX0 10 fR dR ["_law_text_here"] spRefT) (gR : mg "_law_refused" = some (.ref fR)) (kR : PySem.W.keepIn K (.ref fR) = true) (bR : Binds K dR ["_law_text_here"] [])
    (GW : FnOk P w K mg base CX0 2 fW dW ["_law_rows"] spLWr) (gW : mg "_law_wrong" = some (.ref fW)) (kW : PySem.W.keepIn K (.ref fW) = true) (bW : Binds K dW ["_law_rows"] []) :
    FnOk P w K mg base CX0 11 f fd ["_law_script"] (spLaw25 K) := by
  refine F.ok scLaw25 (fun vs H Q E h => ?_) (fun cdv A outer s H vs Q E hr h => ?_)
  · obtain ⟨a, ns, rfl, _⟩ := h
    rfl
  · obtain ⟨a, ns, rfl, hS, hlen, k⟩ := h
    have hu : _ + 64 < cLine := hr.units
    refine ⟨_, pss_cons (ps_set (i := 1) scLaw25.nd rfl (Or.inl rfl) (pe_lst (pa_cons (pv 0) (pa_cons pe_int (pa_cons pe_int (pa_cons pe_int pa_nil))))))
      (pss_cons (ps_set (i := 2) scLaw25.nd rfl (Or.inl rfl) (pe_lst (pa_cons pe_str (pa_cons pe_str (pa_cons pe_str (pa_cons pe_str (pa_cons pe_str (pa_cons pe_str (pa_cons pe_str (pa_cons pe_str (pa_cons pe_str (pa_cons pe_str (pa_cons pe_str (pa_cons pe_str (pa_cons pe_str pa_nil)))))))))))))))
      (pss_cons (ps_for PassesOwn.never rfl (pi_range1 rfl T.range (pa_cons pe_int pa_nil)) (pg_name (i := 3) scLaw25.nd rfl (Or.inl rfl))
        (pss_cons (ps_set (i := 4) scLaw25.nd rfl (Or.inl rfl) (pe_call GX (hr.mono (by decide)) rfl gX kX bX .nil pass0 (pa_cons (pe_call GP (hr.mono (by decide)) rfl gP kP bP .nil pass0 (pa_cons (pv 1) (pa_cons pe_int pa_nil))) pa_nil)))
        (pss_cons (ps_if (pt_cmp (pc_notN (pe_call GR (hr.mono (by decide)) rfl gR kR bR .nil pass0 (pa_cons (pe_m1 PySem.F.slot_str_join PySem.F.type_str_join (mt_joinK (K := K) rfl) pe_str
              (pe_lc (own := [("_law_words", 5)]) (g := gName 5) (tt := tYes) (by rfl) scLaw25.nd (pi_list (pv 4)) (blkOk_by (N := nLaw25) (sc := defScope s_law) (by decide +kernel)) (fun _ _ _ _ _ => pg_name (i := 5) scLaw25.nd rfl (Or.inl rfl)) (fun _ _ _ _ _ => pts_nil)
                (fun _ _ _ _ _ => pe_m1 PySem.F.slot_str_join PySem.F.type_str_join (mt_joinK (K := K) rfl) pe_str (pv 5)))) pa_nil)))) (pss_one (ps_ret pe_bl)) pss_nil)
        (C8.pss_cut (ps_for PassesOwn.never rfl (pi_range1 rfl T.range (pa_cons (pe_op op_add pe_int (pe_call GT (hr.mono (by decide)) rfl gT kT bT .nil pass0 (pa_cons (pv 1) (pa_cons pe_int pa_nil)))) pa_nil)) (pg_name (i := 6) scLaw25.nd rfl (Or.inl rfl))
          (pss_cons (ps_par (i := 7) (j := 8) (by rfl) scLaw25.nd rfl rfl (by decide) rfl rfl (pa_cons (pe_call GT (hr.mono (by decide)) rfl gT kT bT .nil pass0 (pa_cons (pv 1) (pa_cons (pe_callB call_len_seq (by rfl) T.len (by decide +kernel) (pa_cons (pv 4) pa_nil)) pa_nil))) (pa_cons (pe_call GT (hr.mono (by decide)) rfl gT kT bT .nil pass0 (pa_cons (pv 1) (pa_cons pe_int pa_nil))) pa_nil)) (by rfl))
          (pss_cons (ps_set (i := 5) scLaw25.nd rfl (Or.inl rfl) (pe_ix ix_list (pv 4) (pv 7) (fun _ _ => rfl)))
          (pss_cons (ps_set (i := 9) scLaw25.nd rfl (Or.inl rfl) (pe_call GT (hr.mono (by decide)) rfl gT kT bT .nil pass0 (pa_cons (pv 1) (pa_cons (pe_op op_add (pe_callB call_len_seq (by rfl) T.len (by decide +kernel) (pa_cons (pv 5) pa_nil)) pe_int) pa_nil))))
          (C8.pss_cut (ps_set (i := 10) scLaw25.nd rfl (Or.inl rfl) (pe_ifExp (pt_cmpR op_ne (pv 8) pe_int (nomark _)) (pe_lst (pa_cons (pe_ix ix_list (pv 2) (pe_call GT (hr.mono (by decide)) rfl gT kT bT .nil pass0 (pa_cons (pv 1) (pa_cons (pe_callB call_len_seq (by rfl) T.len (by decide +kernel) (pa_cons (pv 2) pa_nil)) pa_nil))) (fun _ _ => rfl)) pa_nil)) (pe_lst pa_nil)))
          (C8.pss_cut (ps_if (pt_cmpR op_lt (pv 8) pe_int (nomark _))
              (pss_cons (ps_set (i := 5) scLaw25.nd rfl (Or.inl rfl) (pe_op op_cat (pe_op op_cat (pe_slice sl_list (pv 5) po_none (po_some (pv 9))) (pv 10)) (pe_slice sl_list (pv 5) (po_some (pe_op op_add (pv 9) (pe_callTy call_int1 (by rfl) T.int (by decide +kernel) (pa_cons (pe_cmpR op_in_seq (pv 8) (pe_tup (pa_cons pe_int (pa_cons pe_int pa_nil))) (by rfl)) pa_nil)))) po_none)))
              (pss_one (ps_set (i := 4) scLaw25.nd rfl (Or.inl rfl) (pe_op op_cat (pe_op op_cat (pe_slice sl_list (pv 4) po_none (po_some (pv 7))) (pe_lst (pa_cons (pv 5) pa_nil))) (pe_slice sl_list (pv 4) (po_some (pe_op op_add (pv 7) pe_int)) po_none)))))
              (pss_one (ps_if (pt_cmpR op_eq (pv 8) pe_int (nomark _))
                (pss_cons (ps_set (i := 11) scLaw25.nd rfl (Or.inl rfl) (pe_op op_rep (pe_lst (pa_cons (pv 5) pa_nil)) (pe_op op_mul pe_int (pe_call GT (hr.mono (by decide)) rfl gT kT bT .nil pass0 (pa_cons (pv 1) (pa_cons pe_int pa_nil))))))
                (pss_one (ps_set (i := 4) scLaw25.nd rfl (Or.inl rfl) (pe_op op_cat (pe_op op_cat (pe_slice sl_list (pv 4) po_none (po_some (pv 7))) (pv 11)) (pe_slice sl_list (pv 4) (po_some (pe_op op_add (pv 7) pe_int)) po_none)))))
                (pss_one (ps_if (pt_cmpR op_eq (pv 8) pe_int (nomark _))
                  (pss_cons (ps_set (i := 12) scLaw25.nd rfl (Or.inl rfl) (pe_op op_cat (pe_slice sl_list (pv 4) (po_some (pe_op op_add (pv 7) pe_int)) (po_some (pe_op op_add (pv 7) pe_int))) (pe_lst (pa_cons (pv 5) pa_nil))))
                  (pss_one (ps_set (i := 4) scLaw25.nd rfl (Or.inl rfl) (pe_op op_cat (pe_op op_cat (pe_slice sl_list (pv 4) po_none (po_some (pv 7))) (pv 12)) (pe_slice sl_list (pv 4) (po_some (pe_op op_add (pv 7) pe_int)) po_none)))))
                  (pss_one (ps_set (i := 4) scLaw25.nd rfl (Or.inl rfl) (pe_op op_cat (pe_op op_cat (pe_slice sl_list (pv 4) po_none (po_some (pv 7))) (pe_lst (pa_cons (pe_lst pa_nil) pa_nil))) (pe_slice sl_list (pv 4) (po_some (pv 7)) po_none)))))))))
          (pss_one (ps_set (i := 4) scLaw25.nd rfl (Or.inl rfl) (pe_orT (pv 4) (pe_one (pe_lst (pa_cons (pe_lst pa_nil) pa_nil))))))))))))
        (pss_one (ps_if (pt_cmpR (op_neD hu) (pe_call GR (hr.mono (by decide)) rfl gR kR bR .nil pass0 (pa_cons (pe_m1 PySem.F.slot_str_join PySem.F.type_str_join (mt_joinK (K := K) rfl) pe_str
              (pe_lc (own := [("_law_words", 5)]) (g := gName 5) (tt := tYes) (by rfl) scLaw25.nd (pi_list (pv 4)) (blkOk_by (N := nLaw25) (sc := defScope s_law) (by decide +kernel)) (fun _ _ _ _ _ => pg_name (i := 5) scLaw25.nd rfl (Or.inl rfl)) (fun _ _ _ _ _ => pts_nil)
                (fun _ _ _ _ _ => pe_m1 PySem.F.slot_str_join PySem.F.type_str_join (mt_joinK (K := K) rfl) pe_str (pv 5)))) pa_nil))
              (pe_call GW (hr.mono (by decide)) rfl gW kW bW .nil pass0 (pa_cons (pv 4) pa_nil)) (nomark _)) (pss_one (ps_ret pe_bl)) pss_nil))))))
      (pss_one (ps_ret (pe_and (pe_cmpR (op_eqD hu) (pe_call GR (hr.mono (by decide)) rfl gR kR bR .nil pass0 (pa_cons pe_str pa_nil)) (pe_lst (pa_cons pe_int (pa_cons pe_int pa_nil))) (nomark _))
          (pe_one (pe_cmpR (op_eqD hu) (pe_call GR (hr.mono (by decide)) rfl gR kR bR .nil pass0 (pa_cons pe_str pa_nil)) (pe_lst (pa_cons pe_int (pa_cons pe_int pa_nil))) (nomark _)))))))), ?_⟩
    refine ⟨_, rfl, (by show 4 ≤ sizeLine; decide), fun r hr0 => ?_⟩
    have R0 : RowOk (upd H r (.lst [.ref a, .int 0, .int 225, .int 0])) r a := ⟨⟨0, 225, 0, upd_same, by decide, by decide, by decide, by decide⟩⟩
    have S0 : SqL K (upd H r (.lst [.ref a, .int 0, .int 225, .int 0])) a (ns.map V.int) := (same_upd hr0).seq hS
    generalize (upd H r (.lst [.ref a, .int 0, .int 225, .int 0])) = H0 at R0 S0 ⊢
    refine ⟨(by show 13 ≤ sizeLine; decide), fun o no => ?_⟩
    have eo : [V.str ("drawers" : Str), .str "bar", .str "open", .str "shut", .str "0", .str "1", .str "6", .str "7", .str "8", .str "-1", .str "01", .str "x", .str "Open"] = oddW.map V.str := rfl
    rw [eo]
    obtain ⟨so, fo⟩ := new_at (o := .lst (oddW.map V.str)) no
    have R1 := R0.same so
    have S1 := so.seq S0
    clear R0 S0
    generalize upd H0 o (.lst (oddW.map V.str)) = H1 at so fo R1 S1 ⊢
    have hor : o ≠ r := txt_ne R1 fo
    refine ⟨8, rfl, by decide, by decide, ?_⟩
    refine for_range (lo := 0) (n := 8) (fun i σ H' => ∃ v3 v4 v5 v6 v7 v8 v9 v10 v11 v12 : Option V, σ = [some (.ref a), some (.ref r), some (.ref o), v3, v4, v5, v6, v7, v8, v9, v10, v11, v12] ∧ RowOk H' r a ∧ But r H1 H')
      ⟨_, _, _, _, _, _, _, _, _, _, rfl, R1, But.refl _ _⟩ ?_ ?_
    · rintro i0 σ H2 hi ⟨v3, v4, v5, v6, v7, v8, v9, v10, v11, v12, rfl, R2, B2⟩
      refine ⟨_, rfl, ⟨⟨r, a, ns, 7, rfl, R2, B2.seqR R1 S1, by decide, by decide, fun p t n ks H3 hp0 ht0 n1 n7 hp hB O h13 R3 B3 => ?_⟩⟩⟩
      refine ⟨⟨p, t, n, ks, rfl, hp, hB, n1, n7, O, h13, fun l ts H4 s4 hl et ht => ?_⟩⟩
      have W4 : RowsW H4 l ts := ⟨hl, ht⟩
      have R4 := R3.same s4
      have B4 := (B2.trans B3).trans (sbut s4)
      have b13 : (ks.map (·.2)).length ≤ 13 := by rw [List.length_map]; exact h13
      have et : ts.map (·.2) = WW n (ks.map (·.2)) := et
      have ok0 := ww_ok n1 n7 O b13
      have wn := wrong_ww n1 n7 O
      rw [← et] at ok0 wn
      have rne : ts.map (·.2) ≠ [] := fun z => by rw [et] at z; cases z
      clear et s4 hl ht hp0 ht0 hp hB R3 B3 B2 R2 h13 b13 O n1 n7
      have ok4 := ok0.mono (show 14 ≤ 40 by decide) (show 5 ≤ 7 by decide)
      have tl4 := ok4.lens
      refine ⟨⟨_, rfl⟩, _, rfl, l, rfl, ⟨_, SqL.of W4.l⟩, fun D nD => ?_⟩
      refine lc_pick (walk_list (K := K) (a := l) (xs := ts.map fun t => V.ref t.1)) ts (by rw [List.length_map]) (by rw [List.length_map]; omega) (fun _ => true) (fun t => V.str (Txt.join " " t.2)) nD (fun H' s => SqL.of (s _ _ W4.l)) ?_ ?_
      · rintro j x tt H5 H6 Tk Nk ez s ⟨rfl, ex⟩ kT kF
        rw [List.getElem?_map, ez] at ex
        cases ex
        have hm := List.mem_of_getElem? ez
        exact ⟨rfl, tYes_of (iteT ⟨⟨_, rfl⟩, _, rfl, " ", tt.1, tt.2, rfl, rfl, .inl (SqL.of (s _ _ (W4.el tt hm))), text_one ok4 hm, kT _ rfl (Same.refl _)⟩)⟩
      intro H5 s5 hD
      rw [List.filter_eq_self.mpr fun _ _ => rfl, text_map] at hD
      refine ⟨_, D, _, rfl, rfl, .inl (SqL.of hD), text_sum ok4, ?_⟩
      refine refT_rows rne ok4 fun v H6 s6 pv => ?_
      rw [wn] at pv
      obtain rfl : v = .non := pv
      refine ⟨_, rfl, ?_⟩
      rw [decide_eq_true (rfl : V.non = V.non)]
      refine iteF ?_
      have W6 := (W4.same s5).same s6
      have R6 := (R4.same s5).same s6
      have B6 := (B4.trans (sbut s5)).trans (sbut s6)
      clear s5 s6 hD nD W4 R4 B4 wn ok4 tl4
      refine ⟨fun σ' H' => ∃ (v5 v6 v7 v8 v9 v10 v11 v12 : Option V) (p : Addr) (ts : List (Addr × List Str)), σ' = [some (.ref a), some (.ref r), some (.ref o), some (.int (0 + (i0 : Nat))), some (.ref p), v5, v6, v7, v8, v9, v10, v11, v12] ∧ RowOk H' r a ∧ But r H1 H' ∧ RowsW H' p ts ∧ OkR 16 7 (ts.map (·.2)) ∧ ts.map (·.2) ≠ [], ?_, ?_⟩
      · refine ⟨_, rfl, ⟨⟨r, a, ns, 2, rfl, R6, B6.seqR R1 S1, by decide, by decide, fun v H7 v0 v2 R7 B7 => ?_⟩⟩⟩
        have W7 := W6.but R6 B7
        have B7 := B6.trans B7
        clear W6 R6 B6
        refine ⟨_, _, rfl, rfl, _, rfl, by omega, by omega, ?_⟩
        obtain ⟨N, eN, N2⟩ : ∃ N : Nat, (1 + v).toNat = N ∧ N ≤ 2 := ⟨_, rfl, by omega⟩
        rw [eN]
        refine for_range (lo := 0) (n := N) (fun i σ H' => ∃ (v5 v6 v7 v8 v9 v10 v11 v12 : Option V) (p : Addr) (ts : List (Addr × List Str)), σ = [some (.ref a), some (.ref r), some (.ref o), some (.int (0 + (i0 : Nat))), some (.ref p), v5, v6, v7, v8, v9, v10, v11, v12] ∧ RowOk H' r a ∧ But r H1 H' ∧ RowsW H' p ts ∧ OkR (14 + i) (5 + i) (ts.map (·.2)) ∧ ts.map (·.2) ≠ [])
          ⟨_, _, _, _, _, _, _, _, l, ts, rfl, R7, B7, W7, ok0, rne⟩ ?_ ?_
        · clear W7 R7 B7 ok0 rne
          rintro i σ H8 hi ⟨v5, v6, v7, v8, v9, v10, v11, v12, p, ts, rfl, R8, B8, W8, ok8, ne8⟩
          have ok16 := ok8.mono (show 14 + i ≤ 15 by omega) (show 5 + i ≤ 6 by omega)
          have tl8 := ok8.lens
          have tn8 : 1 ≤ ts.length := by
            cases ts with
            | nil => exact absurd rfl ne8
            | cons t ts => rw [List.length_cons]; omega
          refine ⟨_, rfl, _, rfl, p, _, rfl, .inl (SqL.of W8.l), ⟨⟨r, a, ns, _, rfl, R8, B8.seqR R1 S1, ?_, ?_, fun pl H9 pl0 pl1 R9 B9 => ?_⟩⟩⟩
          · rw [List.length_map]; omega
          · rw [List.length_map]; omega
          rw [List.length_map] at pl1
          have W9 := W8.but R8 B9
          have B9 := B8.trans B9
          refine ⟨_, rfl, ⟨⟨r, a, ns, 7, rfl, R9, B9.seqR R1 S1, by decide, by decide, fun kd H10 kd0 kd7 R10 B10 => ?_⟩⟩⟩
          have W10 := W9.but R9 B10
          have B10 := B9.trans B10
          clear W8 R8 B8 W9 R9 B9
          refine ⟨_, _, rfl, ?_⟩
          obtain ⟨PL, rfl⟩ : ∃ PL : Nat, pl = PL := ⟨pl.toNat, by omega⟩
          obtain ⟨t, et⟩ : ∃ t, ts[PL]? = some t := ⟨_, List.getElem?_eq_getElem (by omega)⟩
          have tm := List.mem_of_getElem? et
          have okt := ok8.ok t.2 (List.mem_map_of_mem (f := (·.2)) tm)
          have ltw := okt.len
          refine ⟨_, rfl, _, rfl, p, _, (PL : Nat), .ref t.1, rfl, rfl, SqL.of W10.l, atI_nat (by rw [List.getElem?_map, et]; rfl), ?_⟩
          refine ⟨_, rfl, _, rfl, t.1, _, rfl, .inl (SqL.of (W10.el t tm)), _, _, rfl, rfl, ⟨⟨r, a, ns, _, rfl, R10, B10.seqR R1 S1, ?_, ?_, fun sp H11 sp0 sp1 R11 B11 => ?_⟩⟩⟩
          · rw [List.length_map]; omega
          · rw [List.length_map]; omega
          rw [List.length_map] at sp1
          obtain ⟨SP, rfl⟩ : ∃ SP : Nat, sp = SP := ⟨sp.toNat, by omega⟩
          have W11 := W10.but R10 B11
          have B11 := B10.trans B11
          clear W10 R10 B10 pl0 sp0
          refine ⟨fun σ' H' => ∃ (m : Addr) (mw : List Str), σ' = [some (.ref a), some (.ref r), some (.ref o), some (.int (0 + (i0 : Nat))), some (.ref p), some (.ref t.1), some (.int (0 + (i : Nat))), some (.int (PL : Nat)), some (.int kd), some (.int (SP : Nat)), some (.ref m), v11, v12] ∧ RowOk H' r a ∧ But r H1 H' ∧ RowsW H' p ts ∧ H' m = some (.lst (mw.map V.str)) ∧ OkW 1 mw, ?_, ?_⟩
          · refine ⟨_, rfl, rfl, _, rfl, ?_⟩
            by_cases k1 : kd = 1
            · rw [decide_eq_true (by rw [k1])]
              refine iteF ⟨by show 0 ≤ sizeLine; decide, fun m nm => ?_⟩
              exact ⟨m, [], rfl, R11.same (same_upd nm), B11.trans (sbut (same_upd nm)), W11.same (same_upd nm), upd_same, ⟨Nat.zero_le _, fun x hx => by cases hx⟩⟩
            · rw [decide_eq_false (fun z => k1 (by injection z))]
              refine iteT ⟨_, rfl, _, rfl, _, rfl, o, _, rfl, .inl (SqL.of (B11 _ _ hor fo)), ⟨⟨r, a, ns, _, rfl, R11, B11.seqR R1 S1, by decide, by decide, fun od H12 od0 od1 R12 B12 => ?_⟩⟩⟩
              have W12 := W11.but R11 B12
              have B12 := B11.trans B12
              obtain ⟨OD, rfl⟩ : ∃ OD : Nat, od = OD := ⟨od.toNat, by omega⟩
              have od13 : OD < oddW.length := by
                rw [List.length_map] at od1
                omega
              refine ⟨o, _, (OD : Nat), .str oddW[OD], rfl, rfl, SqL.of (B12 _ _ hor fo), atI_nat (by rw [List.getElem?_map, List.getElem?_eq_getElem od13]; rfl), by show 1 ≤ sizeLine; decide, fun m nm => ?_⟩
              refine ⟨m, [oddW[OD]], rfl, R12.same (same_upd nm), B12.trans (sbut (same_upd nm)), W12.same (same_upd nm), upd_same, ⟨Nat.le_refl _, fun x hx => ?_⟩⟩
              rw [List.mem_singleton.mp hx]
              exact odd_gw _ (List.getElem_mem od13)
          clear W11 R11 B11
          rintro σ H12 ⟨m, mw, rfl, R12, B12, W12, hm, okm⟩
          refine ⟨fun σ' H' => ∃ (p : Addr) (ts : List (Addr × List Str)) (v5 v11 v12 : Option V), σ' = [some (.ref a), some (.ref r), some (.ref o), some (.int (0 + (i0 : Nat))), some (.ref p), v5, some (.int (0 + (i : Nat))), some (.int (PL : Nat)), some (.int kd), some (.int (SP : Nat)), some (.ref m), v11, v12] ∧ RowOk H' r a ∧ But r H1 H' ∧ RowsW H' p ts ∧ OkR (14 + (i + 1)) (5 + (i + 1)) (ts.map (·.2)), ?_, ?_⟩
          · have fin : ∀ (q : Addr) (ts' : List (Addr × List Str)) (v5 v11 v12 : Option V) (H' : Hp), RowOk H' r a → But r H1 H' → H' q = some (.lst (ts'.map fun t => V.ref t.1)) → (∀ t ∈ ts', H' t.1 = some (.lst (t.2.map V.str))) → (∀ t ∈ ts', OkW (5 + (i + 1)) t.2) → ts'.length ≤ 14 + (i + 1) →
                ∃ (p : Addr) (ts : List (Addr × List Str)) (w5 w11 w12 : Option V), [some (V.ref a), some (.ref r), some (.ref o), some (.int (0 + (i0 : Nat))), some (.ref q), v5, some (.int (0 + (i : Nat))), some (.int (PL : Nat)), some (.int kd), some (.int (SP : Nat)), some (.ref m), v11, v12] = [some (V.ref a), some (.ref r), some (.ref o), some (.int (0 + (i0 : Nat))), some (.ref p), w5, some (.int (0 + (i : Nat))), some (.int (PL : Nat)), some (.int kd), some (.int (SP : Nat)), some (.ref m), w11, w12] ∧ RowOk H' r a ∧ But r H1 H' ∧ RowsW H' p ts ∧ OkR (14 + (i + 1)) (5 + (i + 1)) (ts.map (·.2)) := fun q ts' v5 v11 v12 H' hR hB h1 h2 h3 h4 =>
              ⟨q, ts', v5, v11, v12, rfl, hR, hB, ⟨h1, h2⟩, okr_of h3 h4⟩
            have oke : ∀ t ∈ ts, OkW (5 + (i + 1)) t.2 := fun t h => ⟨Nat.le_trans (ok8.el t h).len (by omega), (ok8.el t h).gw⟩
            have tl8 : ts.length ≤ 14 + i := tl8
            have els : ∀ (B : List (Addr × List Str)) (j : Nat) (H' : Hp), Same H12 H' → (∀ t ∈ B, H' t.1 = some (.lst (t.2.map V.str))) → ∀ t ∈ ts.take PL ++ B ++ ts.drop j, H' t.1 = some (.lst (t.2.map V.str)) := fun B j H' s hB t h => by
              rcases List.mem_append.mp h with h | h
              · rcases List.mem_append.mp h with h | h
                · exact s _ _ (W12.el t (List.mem_of_mem_take h))
                · exact hB t h
              · exact s _ _ (W12.el t (List.mem_of_mem_drop h))
            have oks : ∀ (B : List (Addr × List Str)) (j : Nat), (∀ t ∈ B, OkW (5 + (i + 1)) t.2) → ∀ t ∈ ts.take PL ++ B ++ ts.drop j, OkW (5 + (i + 1)) t.2 := fun B j hB t h => by
              rcases List.mem_append.mp h with h | h
              · rcases List.mem_append.mp h with h | h
                · exact oke t (List.mem_of_mem_take h)
                · exact hB t h
              · exact oke t (List.mem_of_mem_drop h)
            have cH : cutV (ts.map fun t => V.ref t.1) none (some (PL : Nat)) = (ts.take PL).map fun t => V.ref t.1 := by rw [cut_to, List.map_take]
            have cT : ∀ j : Nat, cutV (ts.map fun t => V.ref t.1) (some ((PL : Nat) + (j : Nat))) none = (ts.drop (PL + j)).map fun t => V.ref t.1 := fun j => by
              rw [show ((PL : Nat) : Int) + (j : Nat) = ((PL + j : Nat) : Int) by omega, cut_from, List.map_drop]
            have cT0 : cutV (ts.map fun t => V.ref t.1) (some (PL : Nat)) none = (ts.drop PL).map fun t => V.ref t.1 := by rw [cut_from, List.map_drop]
            refine ⟨_, rfl, _, _, rfl, rfl, _, rfl, ?_⟩
            by_cases k4 : kd < 4
            · rw [decide_eq_true k4]
              refine iteT ?_
              obtain ⟨e, ee, e1⟩ : ∃ e : Nat, (if inV (V.int kd) [V.int 1, V.int 2] = true then (1 : Int) else 0) = (e : Nat) ∧ e ≤ 1 := by
                cases inV (V.int kd) [V.int 1, V.int 2] with
                | true => exact ⟨1, rfl, Nat.le_refl _⟩
                | false => exact ⟨0, rfl, Nat.zero_le _⟩
              refine cat3 ((t.2.take SP).map V.str) (mw.map V.str) ((t.2.drop (SP + e)).map V.str) (fun R kR => ⟨_, rfl, _, rfl, (SP : Nat), rfl, t.1, _, rfl, SqL.of (W12.el t tm), fun sl nsl => ?_⟩) (fun H13 R s kR => ⟨_, rfl, kR m H13 (Same.refl _) (s _ _ hm)⟩)
                (fun H13 R s kR => ⟨_, rfl, _, rfl, _, rfl, by show 2 ≤ sizeLine; decide, fun u nu => ⟨u, _, rfl, .inr (SqT.of' upd_same), rfl, rfl, .inr ⟨_, rfl, _, _, rfl, rfl, _, rfl, t.1, _, rfl, SqL.of (same_upd nu _ _ (s _ _ (W12.el t tm))), fun sl nsl => ?_⟩⟩⟩) ?_ (fun q H13 s13 hq => ?_)
              · refine kR sl _ (same_upd nsl) ?_
                rw [upd_same, cut_to, List.map_take]
              · refine kR sl _ ((same_upd nu).trans (same_upd nsl)) ?_
                rw [upd_same, if_neg Bool.false_ne_true, ee, show (((SP : Nat) : Int) + (e : Nat)) = ((SP + e : Nat) : Int) by omega, cut_from, List.map_drop]
              · rw [List.length_map, List.length_map, List.length_map, List.length_take, List.length_drop]
                have := okm.len
                omega
              · obtain ⟨wn, ewn⟩ : ∃ wn, t.2.take SP ++ mw ++ t.2.drop (SP + e) = wn := ⟨_, rfl⟩
                rw [← List.map_append, ← List.map_append, ewn] at hq
                have okwn : OkW (5 + (i + 1)) wn := by
                  rw [← ewn]
                  refine ⟨?_, fun x hx => ?_⟩
                  · rw [List.length_append, List.length_append, List.length_take, List.length_drop]
                    have := okm.len
                    omega
                  · rcases List.mem_append.mp hx with hx | hx
                    · rcases List.mem_append.mp hx with hx | hx
                      · exact okt.gw x (List.mem_of_mem_take hx)
                      · exact okm.gw x hx
                    · exact okt.gw x (List.mem_of_mem_drop hx)
                refine gname_go ?_
                dsimp only
                refine cat3 ((ts.take PL).map fun t => V.ref t.1) [.ref q] ((ts.drop (PL + 1)).map fun t => V.ref t.1) (fun R kR => ⟨_, rfl, _, rfl, (PL : Nat), rfl, p, _, rfl, SqL.of (s13 _ _ W12.l), fun sl nsl => kR sl _ (same_upd nsl) (by rw [upd_same, cH])⟩) (fun H14 R s kR => ⟨_, rfl, by show 1 ≤ sizeLine; decide, fun u nu => kR u _ (same_upd nu) upd_same⟩) (fun HX R s' kR => ⟨_, rfl, _, rfl, _, _, rfl, rfl, _, rfl, p, _, rfl, SqL.of (s' _ _ (s13 _ _ W12.l)), fun sl nsl => kR sl _ (same_upd nsl) (by rw [upd_same]; exact congrArg (fun l => some (HO.lst l)) (cT 1))⟩) ?_ (fun q2 H14 s14 hq2 => ?_)
                · rw [List.length_map, List.length_map, List.length_take, List.length_drop]
                  show _ + 1 + _ ≤ 1000
                  omega
                · have s := s13.trans s14
                  refine fin q2 (ts.take PL ++ [(q, wn)] ++ ts.drop (PL + 1)) _ _ _ H14 (R12.same s) (B12.trans (sbut s)) (by rw [hq2, List.map_append, List.map_append]; rfl) (els [(q, wn)] (PL + 1) H14 s fun t h => ?_) (oks [(q, wn)] (PL + 1) fun t h => ?_) ?_
                  · rw [List.mem_singleton.mp h]; exact s14 _ _ hq
                  · rw [List.mem_singleton.mp h]; exact okwn
                  · rw [List.length_append, List.length_append, List.length_take, List.length_drop]
                    show _ + 1 + _ ≤ _
                    omega
            rw [decide_eq_false k4]
            refine iteF ⟨_, rfl, rfl, _, rfl, ?_⟩
            by_cases k5 : kd = 4
            · rw [decide_eq_true (by rw [k5])]
              refine iteT ⟨_, rfl, by show 1 ≤ sizeLine; decide, fun u nu => ?_⟩
              obtain ⟨su, fu⟩ := new_at (o := .lst [.ref t.1]) nu
              generalize upd H12 u (.lst [.ref t.1]) = H13 at su fu ⊢
              have R13 := R12.same su
              have B13 := B12.trans (sbut su)
              have W13 := W12.same su
              refine ⟨_, rfl, ⟨⟨r, a, ns, 2, rfl, R13, B13.seqR R1 S1, by decide, by decide, fun dv H14 dv0 dv2 R14 B14 => ?_⟩⟩⟩
              have nur : u ≠ r := refs_ne (l := [t]) (f := fun t => t.1) R13 fu
              have fu14 := B14 _ _ nur fu
              have W14 := W13.but R13 B14
              have B14 := B13.trans B14
              obtain ⟨DV, rfl⟩ : ∃ DV : Nat, dv = DV := ⟨dv.toNat, by omega⟩
              refine ⟨_, _, rfl, rfl, .inl ⟨by decide, by decide⟩, u, _, _, rfl, rfl, fu14, by omega, by omega, ?_, fun x nx => ?_⟩
              · show 1 * _ ≤ sizeLine
                exact Nat.le_of_lt (small1000 (by omega))
              obtain ⟨B, eB, hB, lB⟩ : ∃ B : List (Addr × List Str), (List.replicate ((2 : Int) * (DV : Nat)).toNat [V.ref t.1]).flatten = (B.map fun t => V.ref t.1) ∧ (∀ t' ∈ B, t' = t) ∧ B.length ≤ 2 := by
                have : DV = 0 ∨ DV = 1 := by omega
                rcases this with rfl | rfl
                · exact ⟨[], rfl, fun _ h => (by cases h), by decide⟩
                · exact ⟨[t, t], rfl, fun t' h => by simpa using h, Nat.le_refl 2⟩
              rw [eB]
              obtain ⟨s15, f15⟩ := new_at (o := .lst (B.map fun t => V.ref t.1)) nx
              have R15 := R14.same s15
              have B15 := B14.trans (sbut s15)
              have W15 := W14.same s15
              generalize upd H14 x (.lst (B.map fun t => V.ref t.1)) = H15 at s15 f15 R15 B15 W15 ⊢
              refine gname_go ?_
              dsimp only
              refine cat3 ((ts.take PL).map fun t => V.ref t.1) (B.map fun t => V.ref t.1) ((ts.drop (PL + 1)).map fun t => V.ref t.1) (fun R kR => ⟨_, rfl, _, rfl, (PL : Nat), rfl, p, _, rfl, SqL.of W15.l, fun sl nsl => kR sl _ (same_upd nsl) (by rw [upd_same, cH])⟩) (fun H16 R s' kR => ⟨_, rfl, kR x H16 (Same.refl _) (s' _ _ f15)⟩)
                (fun HX R s' kR => ⟨_, rfl, _, rfl, _, _, rfl, rfl, _, rfl, p, _, rfl, SqL.of (s' _ _ W15.l), fun sl nsl => kR sl _ (same_upd nsl) (by rw [upd_same]; exact congrArg (fun l => some (HO.lst l)) (cT 1))⟩) ?_ (fun q2 H16 s16 hq2 => ?_)
              · rw [List.length_map, List.length_map, List.length_map, List.length_take, List.length_drop]
                omega
              · have W16 := W15.same s16
                refine fin q2 (ts.take PL ++ B ++ ts.drop (PL + 1)) _ _ _ H16 (R15.same s16) (B15.trans (sbut s16)) (by rw [hq2, List.map_append, List.map_append]) (fun t' h => ?_) (oks _ (PL + 1) fun t' h => ?_) ?_
                · rcases List.mem_append.mp h with h | h
                  · rcases List.mem_append.mp h with h | h
                    · exact W16.el t' (List.mem_of_mem_take h)
                    · rw [hB t' h]; exact W16.el t tm
                  · exact W16.el t' (List.mem_of_mem_drop h)
                · rw [hB t' h]; exact oke t tm
                · rw [List.length_append, List.length_append, List.length_take, List.length_drop]
                  omega
            rw [decide_eq_false (fun z => k5 (by injection z))]
            refine iteF ⟨_, rfl, rfl, _, rfl, ?_⟩
            by_cases k6 : kd = 5
            · rw [decide_eq_true (by rw [k6])]
              refine iteT ⟨_, rfl, _, rfl, _, _, rfl, rfl, _, rfl, _, rfl, _, _, rfl, rfl, _, rfl, p, _, rfl, SqL.of W12.l, fun sl nsl => ?_⟩
              have ec : cutV (ts.map fun t => V.ref t.1) (some ((PL : Nat) + 1)) (some ((PL : Nat) + 2)) = ((ts.drop (PL + 1)).take 1).map fun t => V.ref t.1 := by
                have := cut_mid (ts.map fun t => V.ref t.1) (PL + 1) (PL + 2)
                rw [show PL + 2 - (PL + 1) = 1 by omega, show ((PL + 1 : Nat) : Int) = (PL : Nat) + 1 by omega, show ((PL + 2 : Nat) : Int) = (PL : Nat) + 2 by omega] at this
                rw [this, List.map_take, List.map_drop]
              rw [ec]
              obtain ⟨s13, f13⟩ := new_at (o := .lst (((ts.drop (PL + 1)).take 1).map fun t => V.ref t.1)) nsl
              generalize upd H12 sl (.lst (((ts.drop (PL + 1)).take 1).map fun t => V.ref t.1)) = H13 at s13 f13 ⊢
              refine ⟨_, rfl, by show 1 ≤ sizeLine; decide, fun u nu => ?_⟩
              obtain ⟨s14, f14⟩ := new_at (o := .lst [.ref t.1]) nu
              have f13' := s14 _ _ f13
              generalize upd H13 u (.lst [.ref t.1]) = H14 at s14 f14 f13' ⊢
              have l1 : ((ts.drop (PL + 1)).take 1).length ≤ 1 := by rw [List.length_take]; omega
              refine ⟨sl, u, _, _, rfl, rfl, f13', f14, by rw [List.length_map]; exact Nat.le_of_lt (small1000 (n := ((ts.drop (PL + 1)).take 1).length + 1) (by omega)), fun x nx => ?_⟩
              obtain ⟨s15, f15⟩ := new_at (o := .lst ((((ts.drop (PL + 1)).take 1).map fun t => V.ref t.1) ++ [.ref t.1])) nx
              generalize upd H14 x (.lst ((((ts.drop (PL + 1)).take 1).map fun t => V.ref t.1) ++ [.ref t.1])) = H15 at s15 f15 ⊢
              have s := (s13.trans s14).trans s15
              refine gname_go ?_
              dsimp only
              refine cat3 ((ts.take PL).map fun t => V.ref t.1) ((((ts.drop (PL + 1)).take 1).map fun t => V.ref t.1) ++ [.ref t.1]) ((ts.drop (PL + 2)).map fun t => V.ref t.1) (fun R kR => ⟨_, rfl, _, rfl, (PL : Nat), rfl, p, _, rfl, SqL.of (s _ _ W12.l), fun sl nsl => kR sl _ (same_upd nsl) (by rw [upd_same, cH])⟩) (fun H16 R s' kR => ⟨_, rfl, kR x H16 (Same.refl _) (s' _ _ f15)⟩) (fun HX R s' kR => ⟨_, rfl, _, rfl, _, _, rfl, rfl, _, rfl, p, _, rfl, SqL.of (s' _ _ (s _ _ W12.l)), fun sl nsl => kR sl _ (same_upd nsl) (by rw [upd_same]; exact congrArg (fun l => some (HO.lst l)) (cT 2))⟩) ?_ (fun q2 H16 s16 hq2 => ?_)
              · rw [List.length_map, List.length_append, List.length_map, List.length_map, List.length_take, List.length_drop]
                show _ + (_ + 1) + _ ≤ 1000
                omega
              · have s := s.trans s16
                refine fin q2 (ts.take PL ++ ((ts.drop (PL + 1)).take 1 ++ [t]) ++ ts.drop (PL + 2)) _ _ _ H16 (R12.same s) (B12.trans (sbut s)) (by rw [hq2, List.map_append, List.map_append, List.map_append]; rfl) (els _ (PL + 2) H16 s fun t' h => ?_) (oks _ (PL + 2) fun t' h => ?_) ?_
                · rcases List.mem_append.mp h with h | h
                  · exact s _ _ (W12.el t' (List.mem_of_mem_drop (List.mem_of_mem_take h)))
                  · rw [List.mem_singleton.mp h]; exact s _ _ (W12.el t tm)
                · rcases List.mem_append.mp h with h | h
                  · exact oke t' (List.mem_of_mem_drop (List.mem_of_mem_take h))
                  · rw [List.mem_singleton.mp h]; exact oke t tm
                · rw [List.length_append, List.length_append, List.length_append, List.length_take, List.length_drop]
                  show _ + (_ + 1) + _ ≤ _
                  omega
            rw [decide_eq_false (fun z => k6 (by injection z))]
            refine iteF ?_
            refine cat3e ((ts.take PL).map fun t => V.ref t.1) ((ts.drop PL).map fun t => V.ref t.1) (fun R kR => ⟨_, rfl, _, rfl, (PL : Nat), rfl, p, _, rfl, SqL.of ((Same.refl _) _ _ W12.l), fun sl nsl => kR sl _ (same_upd nsl) (by rw [upd_same, cH])⟩) (fun H13 R s kR => ⟨by show 0 ≤ sizeLine; decide, fun e ne => ⟨by show 1 ≤ sizeLine; decide, fun u nu => kR u e _ ((same_upd ne).trans (same_upd nu)) (same_upd nu _ _ upd_same) upd_same⟩⟩) (fun HX R s' kR => ⟨_, rfl, _, rfl, (PL : Nat), rfl, p, _, rfl, SqL.of (s' _ _ ((Same.refl _) _ _ W12.l)), fun sl nsl => kR sl _ (same_upd nsl) (by rw [upd_same, cT0])⟩) ?_ (fun q2 e H13 s he hq2 => ?_)
            · rw [List.length_map, List.length_map, List.length_take, List.length_drop]
              omega
            · refine fin q2 (ts.take PL ++ [(e, [])] ++ ts.drop PL) _ _ _ H13 (R12.same s) (B12.trans (sbut s)) (by rw [hq2, List.map_append, List.map_append]; rfl) (els _ PL H13 s fun t' h => ?_) (oks _ PL fun t' h => ?_) ?_
              · rw [List.mem_singleton.mp h]; exact he
              · rw [List.mem_singleton.mp h]; exact ⟨Nat.zero_le _, fun x hx => by cases hx⟩
              · rw [List.length_append, List.length_append, List.length_take, List.length_drop]
                show _ + 1 + _ ≤ _
                omega
          · rintro σ H13 ⟨p, ts, v5, v11, v12, rfl, R13, B13, W13, ok13⟩
            refine ⟨_, rfl, _, .inl ⟨_, SqL.of W13.l, rfl⟩, ?_⟩
            cases ts with
            | nil =>
              refine iteF ⟨by show 0 ≤ sizeLine; decide, fun e ne => ⟨by show 1 ≤ sizeLine; decide, fun u nu => ?_⟩⟩
              have s := (same_upd ne).trans (same_upd (o := .lst [.ref e]) nu)
              refine ⟨_, _, _, _, _, _, _, _, u, [(e, [])], rfl, R13.same s, B13.trans (sbut s), ⟨upd_same, fun t h => ?_⟩, okr_of (fun t h => ?_) (by show 1 ≤ _; omega), fun z => by cases z⟩
              · rw [List.mem_singleton.mp h]
                exact same_upd nu _ _ upd_same
              · rw [List.mem_singleton.mp h]
                exact ⟨Nat.zero_le _, fun x hx => by cases hx⟩
            | cons t0 ts => exact iteT ⟨_, _, _, _, _, _, _, _, p, t0 :: ts, rfl, R13, B13, W13, ok13, fun z => by cases z⟩
        · rintro σ H8 ⟨v5, v6, v7, v8, v9, v10, v11, v12, p, ts, rfl, R8, B8, W8, ok8, ne8⟩
          exact ⟨_, _, _, _, _, _, _, _, p, ts, rfl, R8, B8, W8, ok8.mono (by omega) (by omega), ne8⟩
      · rintro σ H8 ⟨v5, v6, v7, v8, v9, v10, v11, v12, p, ts, rfl, R8, B8, W8, ok8, ne8⟩
        have ok4 := ok8.mono (show 16 ≤ 40 by decide) (Nat.le_refl 7)
        have tl4 := ok4.lens
        refine ⟨⟨_, rfl⟩, _, rfl, p, rfl, ⟨_, SqL.of W8.l⟩, fun D nD => ?_⟩
        refine lc_pick (walk_list (K := K) (a := p) (xs := ts.map fun t => V.ref t.1)) ts (by rw [List.length_map]) (by rw [List.length_map]; omega) (fun _ => true) (fun t => V.str (Txt.join " " t.2)) nD (fun H' s => SqL.of (s _ _ W8.l)) ?_ ?_
        · rintro j x tt H5 H6 Tk Nk ez s ⟨rfl, ex⟩ kT kF
          rw [List.getElem?_map, ez] at ex
          cases ex
          have hm := List.mem_of_getElem? ez
          exact ⟨rfl, tYes_of (iteT ⟨⟨_, rfl⟩, _, rfl, " ", tt.1, tt.2, rfl, rfl, .inl (SqL.of (s _ _ (W8.el tt hm))), text_one ok4 hm, kT _ rfl (Same.refl _)⟩)⟩
        intro H9 s9 hD
        rw [List.filter_eq_self.mpr fun _ _ => rfl, text_map] at hD
        refine ⟨_, D, _, rfl, rfl, .inl (SqL.of hD), text_sum ok4, ?_⟩
        refine refT_rows ne8 ok4 fun v H10 s10 pv => ?_
        have s10 := Same.trans (fun b o e => s9 b o e) s10
        have W10 := W8.same s10
        refine ⟨_, rfl, ⟨⟨p, ts, rfl, W10.l, fun t h => ⟨W10.el t h, Nat.le_trans (ok8.el t h).len (by decide), fun x hx => (gw_all x ((ok8.el t h).gw x hx)).2.2.2.2⟩, fun z => ne8 (by rw [z]; rfl), by omega, fun v2 H11 s11 pv2 => ?_⟩⟩⟩
        refine ⟨_, _, pair_dp (pv.same s11), pair_dp pv2, dok_shaped (pair_dok _) (by decide), dok_shaped (pair_dok _) (by decide), _, rfl, ?_⟩
        rw [eqv_self (pair_dok _)]
        refine iteF ?_
        have s := s10.trans s11
        exact ⟨_, _, _, _, _, _, _, _, _, _, rfl, R8.same s, B8.trans (sbut s)⟩
    · rintro σ H2 ⟨v3, v4, v5, v6, v7, v8, v9, v10, v11, v12, rfl, R2, B2⟩
      have w1 : wrong (([("" : Str)]).map wordsL) = some (1, 1) := by decide +kernel
      have w2 : wrong (([("drawers 1" : Str), ""]).map wordsL) = some (2, 1) := by decide +kernel
      refine ⟨⟨"", [""], rfl, by decide +kernel, by decide +kernel, by simp, by decide, fun y hy => ?_, fun v H3 s3 pv => ?_⟩⟩
      · rw [List.mem_singleton.mp hy]
        decide +kernel
      rw [w1] at pv
      refine ⟨by show 2 ≤ sizeLine; decide, fun u nu => ?_⟩
      refine ⟨_, _, pair_dp (pv.same (same_upd nu)), pair_dp (o := some (1, 1)) ⟨u, rfl, upd_same⟩, dok_shaped (pair_dok _) (by decide), dok_shaped (pair_dok _) (by decide), _, rfl, ?_⟩
      rw [eqv_self (pair_dok _)]
      refine iteT ?_
      refine ⟨⟨"drawers 1\n", ["drawers 1", ""], rfl, by decide +kernel, by decide +kernel, by simp, by decide, fun y hy => ?_, fun v H4 s4 pv2 => ?_⟩⟩
      · rcases List.mem_cons.mp hy with rfl | hy
        · decide +kernel
        · rw [List.mem_singleton.mp hy]
          decide +kernel
      rw [w2] at pv2
      refine ⟨by show 2 ≤ sizeLine; decide, fun u2 nu2 => ?_⟩
      refine ⟨_, _, pair_dp (pv2.same (same_upd nu2)), pair_dp (o := some (2, 1)) ⟨u2, rfl, upd_same⟩, dok_shaped (pair_dok _) (by decide), dok_shaped (pair_dok _) (by decide), ?_⟩
      rw [eqv_self (pair_dok _)]
      exact k _
end
end DL

set_option Elab.async false
set_option maxRecDepth 100000
set_option maxHeartbeats 8000000
namespace DL
open PySem L2 HT TL
/-! ### what the top has written -/
theorem all_mk {l : PySem.W.OpenLaw} {w : World} {K : PySem.W.Frag} {h : Heap} {mg : Str → Option Value} {fa : Addr} (X : K.In h) (G : h.Ns mainGlobals mg) (hfa : mg "law" = some (.ref fa))
    {f_is_integer : Addr} {od_is_integer an_is_integer : Option Addr} {sl_is_integer : Array (Option Value)} {oc_is_integer kV_is_integer dc_is_integer pm_is_integer cd_is_integer ct_is_integer : Value}
    {f_is_drawer_count : Addr} {od_is_drawer_count an_is_drawer_count : Option Addr} {sl_is_drawer_count : Array (Option Value)} {oc_is_drawer_count kV_is_drawer_count dc_is_drawer_count pm_is_drawer_count cd_is_drawer_count ct_is_drawer_count : Value}
    {f_is_drawer : Addr} {od_is_drawer an_is_drawer : Option Addr} {sl_is_drawer : Array (Option Value)} {oc_is_drawer kV_is_drawer dc_is_drawer pm_is_drawer cd_is_drawer ct_is_drawer : Value}
    {f_is_bar : Addr} {od_is_bar an_is_bar : Option Addr} {sl_is_bar : Array (Option Value)} {oc_is_bar kV_is_bar dc_is_bar pm_is_bar cd_is_bar ct_is_bar : Value}
    {f_check_drawers : Addr} {od_check_drawers an_check_drawers : Option Addr} {sl_check_drawers : Array (Option Value)} {oc_check_drawers kV_check_drawers dc_check_drawers pm_check_drawers cd_check_drawers ct_check_drawers : Value}
    {f_check_bars : Addr} {od_check_bars an_check_bars : Option Addr} {sl_check_bars : Array (Option Value)} {oc_check_bars kV_check_bars dc_check_bars pm_check_bars cd_check_bars ct_check_bars : Value}
    {f__law_taken : Addr} {od__law_taken an__law_taken : Option Addr} {sl__law_taken : Array (Option Value)} {oc__law_taken kV__law_taken dc__law_taken pm__law_taken cd__law_taken ct__law_taken : Value}
    {f__law_parts : Addr} {od__law_parts an__law_parts : Option Addr} {sl__law_parts : Array (Option Value)} {oc__law_parts kV__law_parts dc__law_parts pm__law_parts cd__law_parts ct__law_parts : Value}
    {f_words_of : Addr} {od_words_of an_words_of : Option Addr} {sl_words_of : Array (Option Value)} {oc_words_of kV_words_of dc_words_of pm_words_of cd_words_of ct_words_of : Value}
    {f_check_words : Addr} {od_check_words an_check_words : Option Addr} {sl_check_words : Array (Option Value)} {oc_check_words kV_check_words dc_check_words pm_check_words cd_check_words ct_check_words : Value}
    {f_read_drawers : Addr} {od_read_drawers an_read_drawers : Option Addr} {sl_read_drawers : Array (Option Value)} {oc_read_drawers kV_read_drawers dc_read_drawers pm_read_drawers cd_read_drawers ct_read_drawers : Value}
    {f_read_bar : Addr} {od_read_bar an_read_bar : Option Addr} {sl_read_bar : Array (Option Value)} {oc_read_bar kV_read_bar dc_read_bar pm_read_bar cd_read_bar ct_read_bar : Value}
    {f_read : Addr} {od_read an_read : Option Addr} {sl_read : Array (Option Value)} {oc_read kV_read dc_read pm_read cd_read ct_read : Value}
    {f__law_text : Addr} {od__law_text an__law_text : Option Addr} {sl__law_text : Array (Option Value)} {oc__law_text kV__law_text dc__law_text pm__law_text cd__law_text ct__law_text : Value}
    {f__law_bar : Addr} {od__law_bar an__law_bar : Option Addr} {sl__law_bar : Array (Option Value)} {oc__law_bar kV__law_bar dc__law_bar pm__law_bar cd__law_bar ct__law_bar : Value}
    {f__law_wrong : Addr} {od__law_wrong an__law_wrong : Option Addr} {sl__law_wrong : Array (Option Value)} {oc__law_wrong kV__law_wrong dc__law_wrong pm__law_wrong cd__law_wrong ct__law_wrong : Value}
    {f__law_refused : Addr} {od__law_refused an__law_refused : Option Addr} {sl__law_refused : Array (Option Value)} {oc__law_refused kV__law_refused dc__law_refused pm__law_refused cd__law_refused ct__law_refused : Value}
    {f_law : Addr} {od_law an_law : Option Addr} {sl_law : Array (Option Value)} {oc_law kV_law dc_law pm_law cd_law ct_law : Value}
    {C : Addr}
    {f_Cabinet___init__ : Addr} {od_Cabinet___init__ an_Cabinet___init__ : Option Addr} {sl_Cabinet___init__ : Array (Option Value)} {oc_Cabinet___init__ kV_Cabinet___init__ dc_Cabinet___init__ pm_Cabinet___init__ cd_Cabinet___init__ ct_Cabinet___init__ : Value}
    {tM : Tok}
    {fW : Addr}
    {ddW : Option Addr} {tW1 tW2 : Tok} {nW : Nat} {slW : Array (Option Value)}
    {CIT NIT fIT ccIT cdaIT DEIT : Addr}
    {nmIT qIT : Str} {bsIT : List Value} {snIT : List Str} {sbIT : List Value} {abIT : Bool} {colIT : Option Bool} {ddIT : Option Addr} {k0IT k1IT k2IT k3IT k5IT : Option Value}
    {ocfIT kVfIT docfIT pmfIT ctfIT : Value} {odfIT anfIT : Option Addr} {oslfIT : Array (Option Value)}
    {cclfIT : Value} {cddfIT : Option Addr} {vsfIT : Array Value} {ccsfIT : Array (Option Value)}
    {fileIT : Str} {tfIT : Tok}
    {clcIT : Value} {cldcIT : Option Addr} {cslcIT : Array (Option Value)}
    (a_is_integer : PySem.W.nsIn K mainGlobals "is_integer" = some (some (.ref f_is_integer)))
    (l_is_integer : K.lookup f_is_integer = some ⟨oc_is_integer, od_is_integer, .func (PySem.W.fnOf "is_integer" "is_integer" (defArgs sIsInt) (defBody sIsInt) (defScope sIsInt) .none kV_is_integer dc_is_integer pm_is_integer an_is_integer cd_is_integer ct_is_integer), sl_is_integer⟩)
    (c_is_integer : PySem.W.codeIn K cd_is_integer "is_integer" = true)
    (k_is_integer : PySem.W.keepIn K (.ref f_is_integer) = true)
    (a_is_drawer_count : PySem.W.nsIn K mainGlobals "is_drawer_count" = some (some (.ref f_is_drawer_count)))
    (l_is_drawer_count : K.lookup f_is_drawer_count = some ⟨oc_is_drawer_count, od_is_drawer_count, .func (PySem.W.fnOf "is_drawer_count" "is_drawer_count" (defArgs sIsCount) (defBody sIsCount) (defScope sIsCount) .none kV_is_drawer_count dc_is_drawer_count pm_is_drawer_count an_is_drawer_count cd_is_drawer_count ct_is_drawer_count), sl_is_drawer_count⟩)
    (c_is_drawer_count : PySem.W.codeIn K cd_is_drawer_count "is_drawer_count" = true)
    (k_is_drawer_count : PySem.W.keepIn K (.ref f_is_drawer_count) = true)
    (a_is_drawer : PySem.W.nsIn K mainGlobals "is_drawer" = some (some (.ref f_is_drawer)))
    (l_is_drawer : K.lookup f_is_drawer = some ⟨oc_is_drawer, od_is_drawer, .func (PySem.W.fnOf "is_drawer" "is_drawer" (defArgs sIsDrawer) (defBody sIsDrawer) (defScope sIsDrawer) .none kV_is_drawer dc_is_drawer pm_is_drawer an_is_drawer cd_is_drawer ct_is_drawer), sl_is_drawer⟩)
    (c_is_drawer : PySem.W.codeIn K cd_is_drawer "is_drawer" = true)
    (k_is_drawer : PySem.W.keepIn K (.ref f_is_drawer) = true)
    (a_is_bar : PySem.W.nsIn K mainGlobals "is_bar" = some (some (.ref f_is_bar)))
    (l_is_bar : K.lookup f_is_bar = some ⟨oc_is_bar, od_is_bar, .func (PySem.W.fnOf "is_bar" "is_bar" (defArgs sIsBar) (defBody sIsBar) (defScope sIsBar) .none kV_is_bar dc_is_bar pm_is_bar an_is_bar cd_is_bar ct_is_bar), sl_is_bar⟩)
    (c_is_bar : PySem.W.codeIn K cd_is_bar "is_bar" = true)
    (k_is_bar : PySem.W.keepIn K (.ref f_is_bar) = true)
    (a_check_drawers : PySem.W.nsIn K mainGlobals "check_drawers" = some (some (.ref f_check_drawers)))
    (l_check_drawers : K.lookup f_check_drawers = some ⟨oc_check_drawers, od_check_drawers, .func (PySem.W.fnOf "check_drawers" "check_drawers" (defArgs sCheckDrawers) (defBody sCheckDrawers) (defScope sCheckDrawers) .none kV_check_drawers dc_check_drawers pm_check_drawers an_check_drawers cd_check_drawers ct_check_drawers), sl_check_drawers⟩)
    (c_check_drawers : PySem.W.codeIn K cd_check_drawers "check_drawers" = true)
    (k_check_drawers : PySem.W.keepIn K (.ref f_check_drawers) = true)
    (a_check_bars : PySem.W.nsIn K mainGlobals "check_bars" = some (some (.ref f_check_bars)))
    (l_check_bars : K.lookup f_check_bars = some ⟨oc_check_bars, od_check_bars, .func (PySem.W.fnOf "check_bars" "check_bars" (defArgs sCheckBars) (defBody sCheckBars) (defScope sCheckBars) .none kV_check_bars dc_check_bars pm_check_bars an_check_bars cd_check_bars ct_check_bars), sl_check_bars⟩)
    (c_check_bars : PySem.W.codeIn K cd_check_bars "check_bars" = true)
    (k_check_bars : PySem.W.keepIn K (.ref f_check_bars) = true)
    (a__law_taken : PySem.W.nsIn K mainGlobals "_law_taken" = some (some (.ref f__law_taken)))
    (l__law_taken : K.lookup f__law_taken = some ⟨oc__law_taken, od__law_taken, .func (PySem.W.fnOf "_law_taken" "_law_taken" (defArgs sTaken) (defBody sTaken) (defScope sTaken) .none kV__law_taken dc__law_taken pm__law_taken an__law_taken cd__law_taken ct__law_taken), sl__law_taken⟩)
    (c__law_taken : PySem.W.codeIn K cd__law_taken "_law_taken" = true)
    (k__law_taken : PySem.W.keepIn K (.ref f__law_taken) = true)
    (a__law_parts : PySem.W.nsIn K mainGlobals "_law_parts" = some (some (.ref f__law_parts)))
    (l__law_parts : K.lookup f__law_parts = some ⟨oc__law_parts, od__law_parts, .func (PySem.W.fnOf "_law_parts" "_law_parts" (defArgs sParts) (defBody sParts) (defScope sParts) .none kV__law_parts dc__law_parts pm__law_parts an__law_parts cd__law_parts ct__law_parts), sl__law_parts⟩)
    (c__law_parts : PySem.W.codeIn K cd__law_parts "_law_parts" = true)
    (k__law_parts : PySem.W.keepIn K (.ref f__law_parts) = true)
    (a_words_of : PySem.W.nsIn K mainGlobals "words_of" = some (some (.ref f_words_of)))
    (l_words_of : K.lookup f_words_of = some ⟨oc_words_of, od_words_of, .func (PySem.W.fnOf "words_of" "words_of" (defArgs s_words_of) (defBody s_words_of) (defScope s_words_of) .none kV_words_of dc_words_of pm_words_of an_words_of cd_words_of ct_words_of), sl_words_of⟩)
    (c_words_of : PySem.W.codeIn K cd_words_of "words_of" = true)
    (k_words_of : PySem.W.keepIn K (.ref f_words_of) = true)
    (a_check_words : PySem.W.nsIn K mainGlobals "check_words" = some (some (.ref f_check_words)))
    (l_check_words : K.lookup f_check_words = some ⟨oc_check_words, od_check_words, .func (PySem.W.fnOf "check_words" "check_words" (defArgs s_check_words) (defBody s_check_words) (defScope s_check_words) .none kV_check_words dc_check_words pm_check_words an_check_words cd_check_words ct_check_words), sl_check_words⟩)
    (c_check_words : PySem.W.codeIn K cd_check_words "check_words" = true)
    (k_check_words : PySem.W.keepIn K (.ref f_check_words) = true)
    (a_read_drawers : PySem.W.nsIn K mainGlobals "read_drawers" = some (some (.ref f_read_drawers)))
    (l_read_drawers : K.lookup f_read_drawers = some ⟨oc_read_drawers, od_read_drawers, .func (PySem.W.fnOf "read_drawers" "read_drawers" (defArgs s_read_drawers) (defBody s_read_drawers) (defScope s_read_drawers) .none kV_read_drawers dc_read_drawers pm_read_drawers an_read_drawers cd_read_drawers ct_read_drawers), sl_read_drawers⟩)
    (c_read_drawers : PySem.W.codeIn K cd_read_drawers "read_drawers" = true)
    (k_read_drawers : PySem.W.keepIn K (.ref f_read_drawers) = true)
    (a_read_bar : PySem.W.nsIn K mainGlobals "read_bar" = some (some (.ref f_read_bar)))
    (l_read_bar : K.lookup f_read_bar = some ⟨oc_read_bar, od_read_bar, .func (PySem.W.fnOf "read_bar" "read_bar" (defArgs s_read_bar) (defBody s_read_bar) (defScope s_read_bar) .none kV_read_bar dc_read_bar pm_read_bar an_read_bar cd_read_bar ct_read_bar), sl_read_bar⟩)
    (c_read_bar : PySem.W.codeIn K cd_read_bar "read_bar" = true)
    (k_read_bar : PySem.W.keepIn K (.ref f_read_bar) = true)
    (a_read : PySem.W.nsIn K mainGlobals "read" = some (some (.ref f_read)))
    (l_read : K.lookup f_read = some ⟨oc_read, od_read, .func (PySem.W.fnOf "read" "read" (defArgs s_read) (defBody s_read) (defScope s_read) .none kV_read dc_read pm_read an_read cd_read ct_read), sl_read⟩)
    (c_read : PySem.W.codeIn K cd_read "read" = true)
    (k_read : PySem.W.keepIn K (.ref f_read) = true)
    (a__law_text : PySem.W.nsIn K mainGlobals "_law_text" = some (some (.ref f__law_text)))
    (l__law_text : K.lookup f__law_text = some ⟨oc__law_text, od__law_text, .func (PySem.W.fnOf "_law_text" "_law_text" (defArgs s__law_text) (defBody s__law_text) (defScope s__law_text) .none kV__law_text dc__law_text pm__law_text an__law_text cd__law_text ct__law_text), sl__law_text⟩)
    (c__law_text : PySem.W.codeIn K cd__law_text "_law_text" = true)
    (k__law_text : PySem.W.keepIn K (.ref f__law_text) = true)
    (a__law_bar : PySem.W.nsIn K mainGlobals "_law_bar" = some (some (.ref f__law_bar)))
    (l__law_bar : K.lookup f__law_bar = some ⟨oc__law_bar, od__law_bar, .func (PySem.W.fnOf "_law_bar" "_law_bar" (defArgs s__law_bar) (defBody s__law_bar) (defScope s__law_bar) .none kV__law_bar dc__law_bar pm__law_bar an__law_bar cd__law_bar ct__law_bar), sl__law_bar⟩)
    (c__law_bar : PySem.W.codeIn K cd__law_bar "_law_bar" = true)
    (k__law_bar : PySem.W.keepIn K (.ref f__law_bar) = true)
    (a__law_wrong : PySem.W.nsIn K mainGlobals "_law_wrong" = some (some (.ref f__law_wrong)))
    (l__law_wrong : K.lookup f__law_wrong = some ⟨oc__law_wrong, od__law_wrong, .func (PySem.W.fnOf "_law_wrong" "_law_wrong" (defArgs s__law_wrong) (defBody s__law_wrong) (defScope s__law_wrong) .none kV__law_wrong dc__law_wrong pm__law_wrong an__law_wrong cd__law_wrong ct__law_wrong), sl__law_wrong⟩)
    (c__law_wrong : PySem.W.codeIn K cd__law_wrong "_law_wrong" = true)
    (k__law_wrong : PySem.W.keepIn K (.ref f__law_wrong) = true)
    (a__law_refused : PySem.W.nsIn K mainGlobals "_law_refused" = some (some (.ref f__law_refused)))
    (l__law_refused : K.lookup f__law_refused = some ⟨oc__law_refused, od__law_refused, .func (PySem.W.fnOf "_law_refused" "_law_refused" (defArgs s__law_refused) (defBody s__law_refused) (defScope s__law_refused) .none kV__law_refused dc__law_refused pm__law_refused an__law_refused cd__law_refused ct__law_refused), sl__law_refused⟩)
    (c__law_refused : PySem.W.codeIn K cd__law_refused "_law_refused" = true)
    (k__law_refused : PySem.W.keepIn K (.ref f__law_refused) = true)
    (a_law : PySem.W.nsIn K mainGlobals "law" = some (some (.ref f_law)))
    (l_law : K.lookup f_law = some ⟨oc_law, od_law, .func (PySem.W.fnOf "law" "law" (defArgs s_law) (defBody s_law) (defScope s_law) .none kV_law dc_law pm_law an_law cd_law ct_law), sl_law⟩)
    (c_law : PySem.W.codeIn K cd_law "law" = true)
    (k_law : PySem.W.keepIn K (.ref f_law) = true)
    (aC : PySem.W.nsIn K mainGlobals "Cabinet" = some (some (.ref C)))
    (pg : PySem.W.plainGet K C Str.empty = true)
    (hd : PySem.W.hasDictIn K C = true)
    (po : PySem.W.plainOver K C = true)
    (sa : PySem.W.findIn K (.ref C) "__setattr__" = some (some (.builtin "object.__setattr__")))
    (mk : PySem.W.makesIn K C = true)
    (kc : PySem.W.keepIn K (.ref C) = true)
    (nD : PySem.W.findIn K (.ref C) "_drawers" = some none)
    (nB : PySem.W.findIn K (.ref C) "_bars" = some none)
    (a_Cabinet___init__ : PySem.W.findIn K (.ref C) "__init__" = some (some (.ref f_Cabinet___init__)))
    (l_Cabinet___init__ : K.lookup f_Cabinet___init__ = some ⟨oc_Cabinet___init__, od_Cabinet___init__, .func (PySem.W.fnOf "__init__" "Cabinet.__init__" (defArgs sInit) (defBody sInit) (defScope sInit) .none kV_Cabinet___init__ dc_Cabinet___init__ pm_Cabinet___init__ an_Cabinet___init__ cd_Cabinet___init__ ct_Cabinet___init__), sl_Cabinet___init__⟩)
    (c_Cabinet___init__ : PySem.W.codeIn K cd_Cabinet___init__ "Cabinet.__init__" = true)
    (k_Cabinet___init__ : PySem.W.keepIn K (.ref f_Cabinet___init__) = true)
    (i_init : PySem.W.isFn K (.ref f_Cabinet___init__) = true)
    (z_isinstance : PySem.W.nsIn K mainGlobals "isinstance" = some none)
    (z_int : PySem.W.nsIn K mainGlobals "int" = some none)
    (z_bool : PySem.W.nsIn K mainGlobals "bool" = some none)
    (z_tuple : PySem.W.nsIn K mainGlobals "tuple" = some none)
    (z_len : PySem.W.nsIn K mainGlobals "len" = some none)
    (z_enumerate : PySem.W.nsIn K mainGlobals "enumerate" = some none)
    (z_range : PySem.W.nsIn K mainGlobals "range" = some none)
    (z_sorted : PySem.W.nsIn K mainGlobals "sorted" = some none)
    (z_str : PySem.W.nsIn K mainGlobals "str" = some none)
    (z_super : PySem.W.nsIn K mainGlobals "super" = some none)
    (z_zip : PySem.W.nsIn K mainGlobals "zip" = some none)
    (z_min : PySem.W.nsIn K mainGlobals "min" = some none)
    (aM : PySem.W.nsIn K mainGlobals "MOST_DRAWERS" = some (some (.int 7 tM)))
    (aW : PySem.W.nsIn K mainGlobals "WORDS" = some (some (.ref fW)))
    (lW : K.lookup fW = some ⟨.type "tuple", ddW, .seq #[.str "open" tW1, .str "shut" tW2] nW, slW⟩)
    (aIT : PySem.W.nsIn K mainGlobals "InvalidText" = some (some (.ref CIT)))
    (lIT : K.lookup CIT = some (excClassObj nmIT qIT CIT NIT bsIT [.ref DEIT, .type "ValueError", .type "Exception", .type "BaseException", .type "object"] true snIT sbIT abIT colIT ddIT k0IT k1IT k2IT k3IT k5IT "ValueError.__new__"))
    (saIT : PySem.W.findIn K (.ref CIT) "__setattr__" = some (some (.builtin "object.__setattr__")))
    (bIT : PySem.W.subIn K (.ref CIT) (.type "BaseException") = some true)
    (tIT : PySem.W.typeIn K (.ref CIT) = some (.type "type"))
    (kIT : PySem.W.keepIn K (.ref CIT) = true)
    (inIT : PySem.W.findIn K (.ref CIT) "__init__" = some (some (.ref fIT)))
    (tyIT : PySem.W.typeIn K (.ref fIT) = some (.type "function"))
    (lfIT : K.lookup fIT = some ⟨ocfIT, odfIT, .func (PySem.W.ksFn "__init__" "InvalidText.__init__" (defArgs s_InvalidText__init_) (defBody s_InvalidText__init_) (defScope s_InvalidText__init_) .none kVfIT docfIT pmfIT anfIT (.ref cdaIT) ctfIT ccIT), oslfIT⟩)
    (cdIT : PySem.W.codeIn K (.ref cdaIT) "InvalidText.__init__" = true)
    (alIT : PySem.W.alongIn K "__init__" [.ref DEIT, .type "ValueError", .type "Exception", .type "BaseException", .type "object"] = some (some (.builtin "ValueError.__init__")))
    (coIT : K.lookup cdaIT = some ⟨cclfIT, cddfIT, .fields vsfIT, ccsfIT⟩)
    (vsIT : vsfIT[2]? = some (.str fileIT tfIT))
    (fiIT : ((l.prog.main.file : Str) == fileIT) = true)
    (ceIT : K.lookup ccIT = some ⟨clcIT, cldcIT, .cell (some (.ref CIT)), cslcIT⟩)
    (suIT : PySem.W.mroIn K CIT (.ref CIT) = some true)
    (anIT : PySem.W.nsIn K cStatics "thirdparty.any" = some none)
    (svIT : PySem.W.subIn K (.ref CIT) (.type "ValueError") = some true)
    (toIT : (l.prog.main.scope.names.lookup ("super" : Str)).isSome = false)
    (xgIT : PySem.W.findIn K (.ref CIT) "__getattribute__" = some (some (.builtin "BaseException.__getattribute__")))
    (xhIT : PySem.W.findIn K (.ref CIT) "__getattr__" = some none)
    (xdIT : PySem.W.hasDictIn K CIT = true)
    (atIT : PySem.W.findIn K (.ref CIT) "line" = some none)
    (icIT : PySem.W.isClsIn K CIT = true)
    (ssIT : PySem.W.subIn K (.ref CIT) (.ref CIT) = some true)
    (atIT2 : PySem.W.findIn K (.ref CIT) "word" = some none)
    : ∃ fd : FuncData, (∀ (s : Shared) (v : Value), BindsTo s fd ⟨[v], []⟩ [("_law_script", v)]) ∧ ∀ base : Heap, K.In base → base.Ns mainGlobals mg → FnOk l.prog w K mg base CX0 11 fa fd ["_law_script"] (spLaw25 K) := by
  have e := hfa.symm.trans (PySem.W.mg_of X G a_law)
  cases e
  have F_is_integer := fun_mk (st := sIsInt) l_is_integer c_is_integer k_is_integer
  have b_is_integer := F_is_integer.binds (ps := ["value"]) fun _ _ _ _ _ _ us hl => match us, hl with | [_], _ => rfl
  have g_is_integer := PySem.W.mg_of X G a_is_integer
  have F_is_drawer_count := fun_mk (st := sIsCount) l_is_drawer_count c_is_drawer_count k_is_drawer_count
  have b_is_drawer_count := F_is_drawer_count.binds (ps := ["value"]) fun _ _ _ _ _ _ us hl => match us, hl with | [_], _ => rfl
  have g_is_drawer_count := PySem.W.mg_of X G a_is_drawer_count
  have F_is_drawer := fun_mk (st := sIsDrawer) l_is_drawer c_is_drawer k_is_drawer
  have b_is_drawer := F_is_drawer.binds (ps := ["drawers", "value"]) fun _ _ _ _ _ _ us hl => match us, hl with | [_, _], _ => rfl
  have g_is_drawer := PySem.W.mg_of X G a_is_drawer
  have F_is_bar := fun_mk (st := sIsBar) l_is_bar c_is_bar k_is_bar
  have b_is_bar := F_is_bar.binds (ps := ["drawers", "value"]) fun _ _ _ _ _ _ us hl => match us, hl with | [_, _], _ => rfl
  have g_is_bar := PySem.W.mg_of X G a_is_bar
  have F_check_drawers := fun_mk (st := sCheckDrawers) l_check_drawers c_check_drawers k_check_drawers
  have b_check_drawers := F_check_drawers.binds (ps := ["drawers"]) fun _ _ _ _ _ _ us hl => match us, hl with | [_], _ => rfl
  have g_check_drawers := PySem.W.mg_of X G a_check_drawers
  have F_check_bars := fun_mk (st := sCheckBars) l_check_bars c_check_bars k_check_bars
  have b_check_bars := F_check_bars.binds (ps := ["drawers", "bars"]) fun _ _ _ _ _ _ us hl => match us, hl with | [_, _], _ => rfl
  have g_check_bars := PySem.W.mg_of X G a_check_bars
  have F__law_taken := fun_mk (st := sTaken) l__law_taken c__law_taken k__law_taken
  have b__law_taken := F__law_taken.binds (ps := ["_law_row", "_law_many"]) fun _ _ _ _ _ _ us hl => match us, hl with | [_, _], _ => rfl
  have g__law_taken := PySem.W.mg_of X G a__law_taken
  have F__law_parts := fun_mk (st := sParts) l__law_parts c__law_parts k__law_parts
  have b__law_parts := F__law_parts.binds (ps := ["_law_row", "_law_most"]) fun _ _ _ _ _ _ us hl => match us, hl with | [_, _], _ => rfl
  have g__law_parts := PySem.W.mg_of X G a__law_parts
  have F_words_of := fun_mk (st := s_words_of) l_words_of c_words_of k_words_of
  have b_words_of := F_words_of.binds (ps := ["line"]) fun _ _ _ _ _ _ us hl => match us, hl with | [_], _ => rfl
  have g_words_of := PySem.W.mg_of X G a_words_of
  have F_check_words := fun_mk (st := s_check_words) l_check_words c_check_words k_check_words
  have b_check_words := F_check_words.binds (ps := ["line", "words", "allowed"]) fun _ _ _ _ _ _ us hl => match us, hl with | [_, _, _], _ => rfl
  have g_check_words := PySem.W.mg_of X G a_check_words
  have F_read_drawers := fun_mk (st := s_read_drawers) l_read_drawers c_read_drawers k_read_drawers
  have b_read_drawers := F_read_drawers.binds (ps := ["words"]) fun _ _ _ _ _ _ us hl => match us, hl with | [_], _ => rfl
  have g_read_drawers := PySem.W.mg_of X G a_read_drawers
  have F_read_bar := fun_mk (st := s_read_bar) l_read_bar c_read_bar k_read_bar
  have b_read_bar := F_read_bar.binds (ps := ["drawers", "line", "words"]) fun _ _ _ _ _ _ us hl => match us, hl with | [_, _, _], _ => rfl
  have g_read_bar := PySem.W.mg_of X G a_read_bar
  have F_read := fun_mk (st := s_read) l_read c_read k_read
  have b_read := F_read.binds (ps := ["text"]) fun _ _ _ _ _ _ us hl => match us, hl with | [_], _ => rfl
  have g_read := PySem.W.mg_of X G a_read
  have F__law_text := fun_mk (st := s__law_text) l__law_text c__law_text k__law_text
  have b__law_text := F__law_text.binds (ps := ["_law_d"]) fun _ _ _ _ _ _ us hl => match us, hl with | [_], _ => rfl
  have g__law_text := PySem.W.mg_of X G a__law_text
  have F__law_bar := fun_mk (st := s__law_bar) l__law_bar c__law_bar k__law_bar
  have b__law_bar := F__law_bar.binds (ps := ["_law_words", "_law_drawers", "_law_ahead"]) fun _ _ _ _ _ _ us hl => match us, hl with | [_, _, _], _ => rfl
  have g__law_bar := PySem.W.mg_of X G a__law_bar
  have F__law_wrong := fun_mk (st := s__law_wrong) l__law_wrong c__law_wrong k__law_wrong
  have b__law_wrong := F__law_wrong.binds (ps := ["_law_rows"]) fun _ _ _ _ _ _ us hl => match us, hl with | [_], _ => rfl
  have g__law_wrong := PySem.W.mg_of X G a__law_wrong
  have F__law_refused := fun_mk (st := s__law_refused) l__law_refused c__law_refused k__law_refused
  have b__law_refused := F__law_refused.binds (ps := ["_law_text_here"]) fun _ _ _ _ _ _ us hl => match us, hl with | [_], _ => rfl
  have g__law_refused := PySem.W.mg_of X G a__law_refused
  have F_law := fun_mk (st := s_law) l_law c_law k_law
  have F_Cabinet___init__ := fun_mk (st := sInit) l_Cabinet___init__ c_Cabinet___init__ k_Cabinet___init__
  have b_Cabinet___init__ := F_Cabinet___init__.binds (ps := ["self", "drawers", "bars"]) fun _ _ _ _ _ _ us hl => match us, hl with | [_, _, _], _ => rfl
  have TC : CabT K mg C := ⟨⟨pg, hd, po, sa⟩, nD, nB, PySem.W.mg_of X G aC⟩
  have MC : Mk K C f_Cabinet___init__ := ⟨mk, a_Cabinet___init__, i_init, kc⟩
  have TB : Bt mg := ⟨PySem.W.mg_none_of X G z_isinstance, PySem.W.mg_none_of X G z_int, PySem.W.mg_none_of X G z_bool, PySem.W.mg_none_of X G z_tuple, PySem.W.mg_none_of X G z_len, PySem.W.mg_none_of X G z_enumerate, PySem.W.mg_none_of X G z_range, PySem.W.mg_none_of X G z_sorted⟩
  have n_str := PySem.W.mg_none_of X G z_str
  have n_super := PySem.W.mg_none_of X G z_super
  have n_zip := PySem.W.mg_none_of X G z_zip
  have n_min := PySem.W.mg_none_of X G z_min
  have gM := PySem.W.mg_of X G aM
  have gW := PySem.W.mg_of X G aW
  have hW : ∀ H, SqT K H fW [.str "open", .str "shut"] := fun H => .inr ⟨_, _, _, lW, rfl, rfl, by show 2 ≤ sizeLine; decide, .cons ⟨_, rfl⟩ (.cons ⟨_, rfl⟩ .nil)⟩
  have gIT := PySem.W.mg_of X G aIT
  have OEIT : OexC K CIT := ⟨⟨_, _, _, _, _, _, _, _, _, _, _, _, _, _, _, lIT, rfl⟩, saIT, bIT, tIT, kIT⟩
  have FSIT : FunS K "__init__" "InvalidText.__init__" s_InvalidText__init_ fIT cdaIT ccIT _ := ⟨⟨_, _, _, _, _, _, _, _, rfl, lfIT, cdIT⟩⟩
  have XFIT : XfC K CIT := ⟨xgIT, xhIT, bIT, xdIT⟩
  have SKIT : SupK K l.prog fIT CIT ccIT cdaIT _ "self" := ⟨OEIT, mro_is lIT alIT, ⟨_, _, _, lfIT⟩, ⟨_, rfl, rfl⟩, ⟨_, _, _, _, _, _, coIT, vsIT, fiIT⟩, ⟨_, _, _, ceIT⟩, suIT, anIT, svIT, toIT⟩
  have EXIT := exm_of bIT icIT tIT ssIT
  have bITi := bindsS (K := K) (ps := ["self", "line", "word"]) (fd := PySem.W.ksFn "__init__" "InvalidText.__init__" (defArgs s_InvalidText__init_) (defBody s_InvalidText__init_) (defScope s_InvalidText__init_) .none kVfIT docfIT pmfIT anfIT (.ref cdaIT) ctfIT ccIT) fun us hl => match us, hl with | [_, _, _], _ => rfl
  refine ⟨PySem.W.fnOf "law" "law" (defArgs s_law) (defBody s_law) (defScope s_law) .none kV_law dc_law pm_law an_law cd_law ct_law, fun s v => .of_eq rfl, fun base hKX hGX => ?_⟩
  have O__law_taken := ok_taken (P := l.prog) (w := w) (base := base) F__law_taken TB
  have O__law_parts := ok_parts F__law_parts TB O__law_taken g__law_taken k__law_taken b__law_taken
  have O__law_text := ok_lawText (P := l.prog) (w := w) (base := base) F__law_text n_str
  have O_words_of := ok_wordsOf (mg := mg) (P := l.prog) (w := w) (base := base) F_words_of
  have O_x_badI := ok_InvTextInit (w := w) (mg := mg) (base := base) FSIT SKIT n_super atIT atIT2
  have O_check_words := ok_ckWords2 F_check_words TB n_zip n_min ⟨OEIT, gIT, ⟨_, _, inIT, tyIT, O_x_badI, bITi⟩⟩
  have O_read_drawers := ok_readDr2 F_read_drawers TB n_str ⟨_, gM⟩ O_check_words g_check_words k_check_words b_check_words
  have O_read_bar := ok_readBar2 F_read_bar TB n_str gW hW O_check_words g_check_words k_check_words b_check_words
  have O_is_integer := ok_isInt (P := l.prog) (w := w) (base := base) F_is_integer TB
  have O_is_drawer_count := ok_isCount F_is_drawer_count TB O_is_integer g_is_integer k_is_integer b_is_integer ⟨_, gM⟩
  have O_check_drawers := ok_checkDrawers F_check_drawers O_is_drawer_count g_is_drawer_count k_is_drawer_count b_is_drawer_count
  have O_is_drawer := ok_isDrawer F_is_drawer TB O_is_integer g_is_integer k_is_integer b_is_integer
  have O_is_bar := ok_isBar F_is_bar TB O_is_drawer g_is_drawer k_is_drawer b_is_drawer ⟨fW, gW, hW⟩
  have O_check_bars := ok_checkBars F_check_bars TB O_is_bar g_is_bar k_is_bar b_is_bar
  have O_Cabinet___init__ := ok_init F_Cabinet___init__ TC O_check_drawers g_check_drawers k_check_drawers b_check_drawers O_check_bars g_check_bars k_check_bars b_check_bars
  have O_read := ok_read2 F_read TB TC.mgC MC O_Cabinet___init__ b_Cabinet___init__ ⟨OEIT, gIT, ⟨_, _, inIT, tyIT, O_x_badI, bITi⟩⟩ O_words_of g_words_of k_words_of b_words_of O_read_drawers g_read_drawers k_read_drawers b_read_drawers O_read_bar g_read_bar k_read_bar b_read_bar
  have O__law_refused := ok_lawRefT F__law_refused O_read g_read k_read b_read gIT ⟨EXIT, XFIT, atIT, atIT2⟩
  have O__law_bar := ok_lawBar (P := l.prog) (w := w) (base := base) F__law_bar TB
  have O__law_wrong := ok_lawWrong F__law_wrong TB n_str O__law_bar g__law_bar k__law_bar b__law_bar
  exact ok_law F_law TB O__law_taken g__law_taken k__law_taken b__law_taken O__law_parts g__law_parts k__law_parts b__law_parts O__law_text g__law_text k__law_text b__law_text O__law_refused g__law_refused k__law_refused b__law_refused O__law_wrong g__law_wrong k__law_wrong b__law_wrong
theorem walk {l : PySem.W.OpenLaw} {q : Program} {loose : List Str} {XP : (Str → Option Value) → Heap → Prop} {YP : World → Heap → Prop} {d : DefRec} {K : Params → PySem.W.Frag} (hn : l.most = some 63) (hdf : d.params.defaults = [])
    (hY : ∀ (w : World) (h : Heap), YP w h → (K w.params).In h)
    (F : ∀ (w : World) (mg : Str → Option Value) (fa : Addr) (h : Heap), (K w.params).In h → h.Ns mainGlobals mg → mg d.name = some (.ref fa) →
      ∃ fd : FuncData, (∀ (s : Shared) (u : Value), BindsTo s fd ⟨[u], []⟩ [("_law_script", u)]) ∧ ∀ base : Heap, (K w.params).In base → base.Ns mainGlobals mg → FnOk l.prog w (K w.params) mg base CX0 11 fa fd ["_law_script"] (spLaw25 (K w.params))) :
    PySem.W.WalkO q loose XP YP l.row.toRowW d [] (fun f vs => PySem.call f vs) :=
  L2.walk_of (n := 63) (k := 11) (x := "_law_script") (CX := fun _ => CX0) (sp := fun w => spLaw25 (K w.params)) hn (by decide) hdf ⟨rfl, by decide, by decide⟩ hY F (fun _ _ a ns hl _ hS => ⟨a, ns, rfl, hS, hl, fun _ => rfl⟩) fun _ _ _ _ _ z => z
end DL


set_option Elab.async false
open PySem PySem.W PyProof.Rows in
set_option maxRecDepth 100000 in
set_option maxHeartbeats 0 in
theorem PySem.Challenge.cw_drawerlocks_k25_texts_refused_holds : PySem.Challenge.rw_drawerlocks_k25_texts_refused.Holds := by
  w_on; o_law; k_head; (case hw => w_witness2)
  k_fill
  refine DL.walk (l := PySem.Challenge.rw_drawerlocks_k25_texts_refused) rfl rfl (fun w h Y => PySem.W.kIn_of Y) ?F
  case F =>
    intro w mg fa h KX G hmg
    refine' DL.all_mk KX G hmg ?a_is_integer ?l_is_integer ?c_is_integer ?k_is_integer ?a_is_drawer_count ?l_is_drawer_count ?c_is_drawer_count ?k_is_drawer_count ?a_is_drawer ?l_is_drawer ?c_is_drawer ?k_is_drawer ?a_is_bar ?l_is_bar ?c_is_bar ?k_is_bar ?a_check_drawers ?l_check_drawers ?c_check_drawers ?k_check_drawers ?a_check_bars ?l_check_bars ?c_check_bars ?k_check_bars ?a__law_taken ?l__law_taken ?c__law_taken ?k__law_taken ?a__law_parts ?l__law_parts ?c__law_parts ?k__law_parts ?a_words_of ?l_words_of ?c_words_of ?k_words_of ?a_check_words ?l_check_words ?c_check_words ?k_check_words ?a_read_drawers ?l_read_drawers ?c_read_drawers ?k_read_drawers ?a_read_bar ?l_read_bar ?c_read_bar ?k_read_bar ?a_read ?l_read ?c_read ?k_read ?a__law_text ?l__law_text ?c__law_text ?k__law_text ?a__law_bar ?l__law_bar ?c__law_bar ?k__law_bar ?a__law_wrong ?l__law_wrong ?c__law_wrong ?k__law_wrong ?a__law_refused ?l__law_refused ?c__law_refused ?k__law_refused ?a_law ?l_law ?c_law ?k_law ?aC ?pg ?hd ?po ?sa ?mk ?kc ?nD ?nB ?a_Cabinet___init__ ?l_Cabinet___init__ ?c_Cabinet___init__ ?k_Cabinet___init__ ?i_init ?z_isinstance ?z_int ?z_bool ?z_tuple ?z_len ?z_enumerate ?z_range ?z_sorted ?z_str ?z_super ?z_zip ?z_min ?aM ?aW ?lW ?aIT ?lIT ?saIT ?bIT ?tIT ?kIT ?inIT ?tyIT ?lfIT ?cdIT ?alIT ?coIT ?vsIT ?fiIT ?ceIT ?suIT ?anIT ?svIT ?toIT ?xgIT ?xhIT ?xdIT ?atIT ?icIT ?ssIT ?atIT2
    (case a_is_integer => k_is)
    (case l_is_integer => k_is)
    (case c_is_integer => k_is)
    (case k_is_integer => k_is)
    (case a_is_drawer_count => k_is)
    (case l_is_drawer_count => k_is)
    (case c_is_drawer_count => k_is)
    (case k_is_drawer_count => k_is)
    (case a_is_drawer => k_is)
    (case l_is_drawer => k_is)
    (case c_is_drawer => k_is)
    (case k_is_drawer => k_is)
    (case a_is_bar => k_is)
    (case l_is_bar => k_is)
    (case c_is_bar => k_is)
    (case k_is_bar => k_is)
    (case a_check_drawers => k_is)
    (case l_check_drawers => k_is)
    (case c_check_drawers => k_is)
    (case k_check_drawers => k_is)
    (case a_check_bars => k_is)
    (case l_check_bars => k_is)
    (case c_check_bars => k_is)
    (case k_check_bars => k_is)
    (case a__law_taken => k_is)
    (case l__law_taken => k_is)
    (case c__law_taken => k_is)
    (case k__law_taken => k_is)
    (case a__law_parts => k_is)
    (case l__law_parts => k_is)
    (case c__law_parts => k_is)
    (case k__law_parts => k_is)
    (case a_words_of => k_is)
    (case l_words_of => k_is)
    (case c_words_of => k_is)
    (case k_words_of => k_is)
    (case a_check_words => k_is)
    (case l_check_words => k_is)
    (case c_check_words => k_is)
    (case k_check_words => k_is)
    (case a_read_drawers => k_is)
    (case l_read_drawers => k_is)
    (case c_read_drawers => k_is)
    (case k_read_drawers => k_is)
    (case a_read_bar => k_is)
    (case l_read_bar => k_is)
    (case c_read_bar => k_is)
    (case k_read_bar => k_is)
    (case a_read => k_is)
    (case l_read => k_is)
    (case c_read => k_is)
    (case k_read => k_is)
    (case a__law_text => k_is)
    (case l__law_text => k_is)
    (case c__law_text => k_is)
    (case k__law_text => k_is)
    (case a__law_bar => k_is)
    (case l__law_bar => k_is)
    (case c__law_bar => k_is)
    (case k__law_bar => k_is)
    (case a__law_wrong => k_is)
    (case l__law_wrong => k_is)
    (case c__law_wrong => k_is)
    (case k__law_wrong => k_is)
    (case a__law_refused => k_is)
    (case l__law_refused => k_is)
    (case c__law_refused => k_is)
    (case k__law_refused => k_is)
    (case a_law => k_is)
    (case l_law => k_is)
    (case c_law => k_is)
    (case k_law => k_is)
    (case aC => k_is)
    (case pg => k_is)
    (case hd => k_is)
    (case po => k_is)
    (case sa => k_is)
    (case mk => k_is)
    (case kc => k_is)
    (case nD => k_is)
    (case nB => k_is)
    (case a_Cabinet___init__ => k_is)
    (case l_Cabinet___init__ => k_is)
    (case c_Cabinet___init__ => k_is)
    (case k_Cabinet___init__ => k_is)
    (case i_init => k_is)
    (case z_isinstance => k_is)
    (case z_int => k_is)
    (case z_bool => k_is)
    (case z_tuple => k_is)
    (case z_len => k_is)
    (case z_enumerate => k_is)
    (case z_range => k_is)
    (case z_sorted => k_is)
    (case z_str => k_is)
    (case z_super => k_is)
    (case z_zip => k_is)
    (case z_min => k_is)
    (case aM => k_is)
    (case aW => k_is)
    (case lW => k_is)
    (case aIT => k_is)
    (case lIT => k_is)
    (case saIT => k_is)
    (case bIT => k_is)
    (case tIT => k_is)
    (case kIT => k_is)
    (case inIT => k_is)
    (case tyIT => k_is)
    (case lfIT => k_is)
    (case cdIT => k_is)
    (case alIT => first | rfl | decide +kernel)
    (case coIT => k_is)
    (case vsIT => rfl)
    (case fiIT => first | rfl | decide +kernel)
    (case ceIT => k_is)
    (case suIT => first | k_is | rfl)
    (case anIT => first | k_is | rfl)
    (case svIT => first | k_is | rfl)
    (case toIT => first | rfl | decide +kernel)
    (case xgIT => k_is)
    (case xhIT => k_is)
    (case xdIT => k_is)
    (case atIT => k_is)
    (case icIT => k_is)
    (case ssIT => first | rfl | k_is)
    (case atIT2 => k_is)
