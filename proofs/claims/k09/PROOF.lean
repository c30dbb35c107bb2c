import PyProof.Rows.All
import Wide.All
import OpenK.AllK
import Wide.FinOn
import HandS.ForMost
import HandS.ForExc
import HandS.TupLe
import HandS.TupAny
import HandS.SortOrd
import HandS.SortRule
import HandS.IsInst
import HandS.Conv
import HandS.Wide
import HandS.Property
import HandS.Deep
import HandS.Walk
import HandS.Zip
import HandS.Flow
import KE.GoesEnum
import PySem.Challenge.RW_drawerlocks_k09_papers
import HandS.Replace
import HandS.More
import HandS.TryOnly
import KE.GoesZip
import KE.KSuper
import KE.KExcSuper
import HandS.ClsMeth
import HandS.ExcInit
import HandS.WordsExc
import HandS.FStr
import HandS.Star
import PyProof.Rows.SortShellAny
import KE.DataMinMax
import PyProof.Rows.StrMeet
import HandS.SlotsOwn
import HandS.ExcOwn
import HandS.TryMany
import HandS.ExcField
import HandS.DictComp
import HandS.TupMul
import HandS.Codes
set_option Elab.async false
set_option maxRecDepth 100000
namespace DL
open PySem PySem.Spec PyProof.Rows L2
/-! ### bars: four parts; the words as truth values (true: shut) -/
structure Bar where
  d : Int
  w : Bool
  o : Int
  t : Bool
deriving DecidableEq
def wd (b : Bool) : Str := if b = true then "shut" else "open"
theorem wd_inj : ∀ {a b : Bool}, wd a = wd b → a = b := by decide +kernel
theorem wd_lt : ∀ a b : Bool, decide ((wd a).cps.toList < (wd b).cps.toList) = (!a && b) := by decide +kernel
theorem wd_dec : ∀ a : Bool, decide (wd a = "shut") = a := by decide +kernel
def Bar.key (b : Bar) : List Key := [.inl b.d, .inr (wd b.w), .inl b.o, .inr (wd b.t)]
def Bar.vs (b : Bar) : List V := [.int b.d, .str (wd b.w), .int b.o, .str (wd b.t)]
def b2n (b : Bool) : Int := if b = true then 1 else 0
theorem b2n_le (b : Bool) : 0 ≤ b2n b ∧ b2n b ≤ 1 := by cases b <;> decide
theorem b2n_inj {a b : Bool} (h : b2n a = b2n b) : a = b := by revert h; revert a b; decide
def Bar.code (b : Bar) : Int := ((b.d * 2 + b2n b.w) * 8 + b.o) * 2 + b2n b.t
/-- the parts lie where a bar of at most eight drawers has them -/
def Bar.low (b : Bar) : Prop := 0 ≤ b.d ∧ b.d < 8 ∧ 0 ≤ b.o ∧ b.o < 8
theorem Bar.ext4 {a b : Bar} (h1 : a.d = b.d) (h2 : a.w = b.w) (h3 : a.o = b.o) (h4 : a.t = b.t) : a = b := by
  cases a; cases b; simp only at h1 h2 h3 h4; subst h1 h2 h3 h4; rfl
theorem Bar.code_inj {a b : Bar} (ha : a.low) (hb : b.low) (h : a.code = b.code) : a = b := by
  unfold Bar.low at ha hb
  unfold Bar.code at h
  have w1 := b2n_le a.w; have w2 := b2n_le b.w; have t1 := b2n_le a.t; have t2 := b2n_le b.t
  exact Bar.ext4 (by omega) (b2n_inj (by omega)) (by omega) (b2n_inj (by omega))
/-- what a < b of two such tuples comes to -/
def Bar.ltb (a b : Bar) : Bool := if a.d = b.d then (if a.w = b.w then (if a.o = b.o then (!a.t && b.t) else decide (a.o < b.o)) else (!a.w && b.w)) else decide (a.d < b.d)
theorem Bar.ltb_code {a b : Bar} (ha : a.low) (hb : b.low) : a.ltb b = decide (a.code < b.code) := by
  obtain ⟨ad, aw, ao, at'⟩ := a
  obtain ⟨bd, bw, bo, bt⟩ := b
  unfold Bar.low at ha hb
  unfold Bar.ltb Bar.code b2n
  simp only at ha hb ⊢
  by_cases h1 : ad = bd
  · rw [if_pos h1]
    by_cases h2 : aw = bw
    · rw [if_pos h2]
      by_cases h3 : ao = bo
      · rw [if_pos h3]
        subst h1 h2 h3
        cases at' <;> cases bt <;> simp <;> omega
      · rw [if_neg h3]
        subst h1 h2
        cases at' <;> cases bt <;> simp <;> omega
    · rw [if_neg h2]
      subst h1
      cases aw <;> cases bw <;> cases at' <;> cases bt <;> simp at h2 ⊢ <;> omega
  · rw [if_neg h1]
    cases aw <;> cases bw <;> cases at' <;> cases bt <;> simp <;> omega
/-- a bar read back -/
def barOf : List V → Bar
  | [.int d, .str w, .int o, .str t] => ⟨d, decide (w = "shut"), o, decide (t = "shut")⟩
  | _ => ⟨0, false, 0, false⟩
theorem barOf_vs (b : Bar) : barOf b.vs = b := by
  show (⟨b.d, decide (wd b.w = "shut"), b.o, decide (wd b.t = "shut")⟩ : Bar) = b
  rw [wd_dec, wd_dec]
/-- the bar that stands at an address of the heap -/
def barAt (H : Hp) : V → Bar
  | .ref a => (match H a with | some (.tup xs) => barOf xs | _ => ⟨0, false, 0, false⟩)
  | _ => ⟨0, false, 0, false⟩
theorem barAt_of {H : Hp} {a : Addr} {b : Bar} (h : H a = some (.tup b.vs)) : barAt H (.ref a) = b := by
  show (match H a with | some (.tup xs) => barOf xs | _ => ⟨0, false, 0, false⟩) = b
  rw [h]; exact barOf_vs b
/-! ### sorted(d), d a dict whose keys are such tuples -/
def IsBarV (h : Heap) (v : Value) (b : Bar) : Prop := ∃ a o t1 t2 t3 t4 n, v = .ref a ∧ h.get? a = some o ∧ o.cls = .type "tuple" ∧ o.data = .seq #[.int b.d t1, .str (wd b.w) t2, .int b.o t3, .str (wd b.t) t4] n
theorem IsBarV.keeps {h h' : Heap} {v : Value} {b : Bar} (p : IsBarV h v b) (k : ∀ c o, h.get? c = some o → o.cls = .type "tuple" → h'.get? c = some o) : IsBarV h' v b := by
  obtain ⟨a, o, t1, t2, t3, t4, n, e, ho, hc, hd⟩ := p
  exact ⟨a, o, t1, t2, t3, t4, n, e, k _ _ ho hc, hc, hd⟩
section
variable {prog : Program} {w : World} {A : Around} {E : Value → Shared → Prop} {s : Shared}
theorem oneLt_words (c : Bool) {p q : Str} {t u : Tok} {Q : Bool → Shared → Prop} (h : c = false) (hq : Q (decide (p.cps.toList < q.cps.toList)) s) : wpAny (model prog w) A (oneLt' c (.str p t) (.str q u)) Q E s := by
  subst h
  exact PySem.W.kat_one _ _ (PyProof.Rows.lt_str hq)
theorem bar_cmp {vs : List Value} {kb : Value → Bar} (hp : ∀ v ∈ vs, IsBarV s.heap v (kb v) ∧ (kb v).low) : SrtO.Cmp prog w A s (tuples' true) (fun p => p.1 ∈ vs) (SrtO.lt2 fun v u => decide ((kb v).code < (kb u).code)) := by
  intro p q hm hm'
  obtain ⟨h1, l1⟩ := hp _ hm
  obtain ⟨h2, l2⟩ := hp _ hm'
  show wpAny (model prog w) A (keyLt' (tuples' true) p.1 q.1) (fun r s' => s' = s ∧ r = decide ((kb p.1).code < (kb q.1).code)) (fun _ _ => False) s
  generalize kb p.1 = x at h1 l1 ⊢
  generalize kb q.1 = y at h2 l2 ⊢
  rw [← Bar.ltb_code l1 l2]
  obtain ⟨a, o, t1, t2, t3, t4, n, e, ho, hc, hd⟩ := h1
  obtain ⟨a', o', t1', t2', t3', t4', n', e', ho', hc', hd'⟩ := h2
  rw [e, e']
  refine PySem.W.kat_lt ho hd ho' hd' ?_
  show PySem.W.KatLex prog w A true (decide (4 < 4)) _ [(.int x.d t1, .int y.d t1'), (.str (wd x.w) t2, .str (wd y.w) t2'), (.int x.o t3, .int y.o t3'), (.str (wd x.t) t4, .str (wd y.t) t4')] 0 s
  refine PySem.W.kat_cons (SeqAt.EqAt.int_int x.d t1 y.d t1' prog w _ _ ?_)
  refine PySem.W.kat_go (fun e1 => ?_) (fun e1 => ?_)
  · have e1' : x.d = y.d := by simpa using e1
    refine PySem.W.kat_yes (PySem.W.kat_cons (wpAny_eqBool_str ?_))
    refine PySem.W.kat_go (fun e2 => ?_) (fun e2 => ?_)
    · have e2' : x.w = y.w := wd_inj (by simpa using e2)
      refine PySem.W.kat_yes (PySem.W.kat_cons (SeqAt.EqAt.int_int x.o t3 y.o t3' prog w _ _ ?_))
      refine PySem.W.kat_go (fun e3 => ?_) (fun e3 => ?_)
      · have e3' : x.o = y.o := by simpa using e3
        refine PySem.W.kat_yes (PySem.W.kat_cons (wpAny_eqBool_str ?_))
        refine PySem.W.kat_go (fun e4 => ?_) (fun e4 => ?_)
        · have e4' : x.t = y.t := wd_inj (by simpa using e4)
          refine PySem.W.kat_yes (PySem.W.kat_nil ⟨rfl, ?_⟩)
          unfold Bar.ltb
          rw [if_pos e1', if_pos e2', if_pos e3', e4']
          cases y.t <;> rfl
        · refine PySem.W.kat_no (oneLt_words _ rfl ⟨rfl, ?_⟩)
          unfold Bar.ltb
          rw [if_pos e1', if_pos e2', if_pos e3', wd_lt]
      · have e3' : ¬ x.o = y.o := by simpa using e3
        refine PySem.W.kat_no (PySem.W.kat_one _ _ (PyProof.Rows.lt_int ?_))
        refine (show s = s ∧ decide (x.o < y.o) = x.ltb y from ⟨rfl, ?_⟩)
        unfold Bar.ltb
        rw [if_pos e1', if_pos e2', if_neg e3']
    · have e2' : ¬ x.w = y.w := fun z => by rw [z] at e2; simp at e2
      refine PySem.W.kat_no (oneLt_words _ rfl ⟨rfl, ?_⟩)
      unfold Bar.ltb
      rw [if_pos e1', if_neg e2', wd_lt]
  · have e1' : ¬ x.d = y.d := by simpa using e1
    refine PySem.W.kat_no (oneLt_int ⟨rfl, ?_⟩)
    unfold Bar.ltb
    rw [if_neg e1']
theorem bar_firsts {h : Heap} : ∀ {vs : List Value}, (∀ v ∈ vs, ∃ b, IsBarV h v b) → ∃ fs : List Value, PySem.W.KatTups h vs fs ∧ fs.length = vs.length ∧ ∀ f ∈ fs, ∃ x t, f = Value.int x t
  | [], _ => ⟨[], PySem.W.KatTups.nil, rfl, fun _ hm => by simp at hm⟩
  | v :: vs, hp => by
    obtain ⟨fs, h1, h2, h3⟩ := bar_firsts (vs := vs) fun v' hm => hp v' (List.mem_cons_of_mem _ hm)
    obtain ⟨b, a, o, t1, t2, t3, t4, n, e, ho, hc, hd⟩ := hp v (List.mem_cons_self ..)
    subst e
    refine ⟨.int b.d t1 :: fs, PySem.W.KatTups.cons ho hc hd rfl h1, by rw [List.length_cons, List.length_cons, h2], fun f hm => ?_⟩
    rcases List.mem_cons.mp hm with rfl | hm
    · exact ⟨b.d, t1, rfl⟩
    · exact h3 f hm
theorem swo_code (kb : Value → Bar) : SrtO.Swo fun v u => decide ((kb v).code < (kb u).code) := by
  refine ⟨fun x y h => ?_, fun x y z h1 h2 => ?_⟩
  · have a := of_decide_eq_true h
    exact decide_eq_false (by omega)
  · have a := of_decide_eq_false h1
    have b := of_decide_eq_false h2
    exact decide_eq_false (by omega)
theorem bars_sortableO {a : Addr} {vs : List Value} {kb : Value → Bar} (h0 : 0 < vs.length) (hp : ∀ v ∈ vs, IsBarV s.heap v (kb v) ∧ (kb v).low) (ha : ∀ o, s.heap.get? a = some o → o.cls ≠ .type "tuple") :
    SrtO.SortableO prog w A s a vs fun v u => decide ((kb v).code < (kb u).code) := by
  intro h' keep
  have hp' : ∀ v ∈ vs, IsBarV h' v (kb v) ∧ (kb v).low := fun v hm => ⟨(hp v hm).1.keeps fun b o e c => keep b o (fun z => by subst z; exact ha o e c) e, (hp v hm).2⟩
  obtain ⟨fs, h1, h2, h3⟩ := bar_firsts fun v hm => ⟨_, (hp' v hm).1⟩
  refine ⟨tuples' true, fun Q E hq => ?_, bar_cmp hp'⟩
  refine PySem.W.kat_kind (T := .type "int") h1 (by omega) (fun f hm => ?_) (by rfl) ?_
  · obtain ⟨x, t, rfl⟩ := h3 f hm
    exact PySem.W.Looks.now
  · have e : (Value.type "int" != Value.type "tuple") = true := by first | decide +kernel | rfl | decide
    rw [e]
    exact hq
end
/-- sorted(d): the keys' own tuples, by their codes -/
def rSortB : List V → Hp → VK → Prop := fun xs H Q => ∃ (d : Addr) (kvs : List (List Key × V)) (bs : List Bar), xs = [V.ref d] ∧ Rd H d (.dT kvs) ∧ kvs.map (·.1) = bs.map Bar.key ∧ (∀ b ∈ bs, b.low) ∧
  ∀ (ks : List (Addr × Bar)) (p : Addr), (∀ k ∈ ks, H k.1 = some (.tup k.2.vs)) → (ks.map (·.2)).Perm bs → (ks.map (·.2)).Pairwise (fun x y => x.code ≤ y.code) → H p = none → Q (.ref p) (upd H p (.lst (ks.map fun k => V.ref k.1)))
theorem keys_bars : ∀ {H : Hp} {kvs : List (List Key × V)} {as : List Addr} {bs : List Bar}, IsKeys H kvs as → kvs.map (·.1) = bs.map Bar.key → (∀ a ∈ as, ∃ b ∈ bs, H a = some (.tup b.vs)) ∧ (as.map V.ref).map (barAt H) = bs := by
  intro H kvs as bs ik
  unfold IsKeys at ik
  induction ik generalizing bs with
  | nil =>
    intro e
    cases bs with
    | nil => exact ⟨fun a ha => by simp at ha, rfl⟩
    | cons b bs => simp at e
  | @cons kv a kvs' as' h t ih =>
    intro e
    cases bs with
    | nil => simp at e
    | cons b bs =>
      rw [List.map_cons, List.map_cons] at e
      injection e with e1 e2
      obtain ⟨i1, i2⟩ := ih e2
      have hb : H a = some (.tup b.vs) := by rw [h, e1]; rfl
      refine ⟨fun c hc => ?_, ?_⟩
      · rcases List.mem_cons.mp hc with rfl | hc
        · exact ⟨b, List.mem_cons_self, hb⟩
        · obtain ⟨b', m, q⟩ := i1 c hc
          exact ⟨b', List.mem_cons_of_mem _ m, q⟩
      · rw [List.map_cons, List.map_cons, i2, barAt_of hb]
section
variable {X : Cx}
theorem cr_sortB (hcalm : X.calm = true) : CallR X (.builtin "sorted") rSortB := by
  intro pins s σ H xs us Q I r h
  obtain ⟨d, kvs, bs, rfl, hd, hks, hlow, q⟩ := h
  obtain ⟨u, rfl, rx⟩ := r.one
  obtain rfl : u = Value.ref d := rx
  obtain ⟨z, hs, ks, pr, o, es, ep, ho, hx, hdt, he, hn⟩ := (show ObjOk X.prog X.w H s.heap d (.dT kvs) from hd.ok I.hok)
  have l1 : es.size = ks.length := size_of_entries he
  have l2 : kvs.length = ks.length := Paired.length pr
  refine Calls.call_function_entry PyProof.Rows.kind_sorted PyProof.Rows.plain_sorted PyProof.Rows.entry_sorted (PyProof.Rows.args_sorted1 _) ?_
  unfold Builtin.«sorted»
  refine wpAny_bind (m := checkCount "sorted" 1 1 _) (wpAny_pure ?_)
  refine wpAny_bind (PySem.W.kdu_collect (A := X.A.in1) (kdl_raw hs hx hdt) (I.ok.hd hcalm) ho (by omega) fun h' tk acc hk it => ?_)
  have ea : acc.toList = ks.map fun x => Value.ref x.2.1 := by
    have hl : acc.toList.length = ks.length := by rw [Array.length_toList, it.1]; exact l1
    apply List.ext_getElem?
    intro j
    rw [List.getElem?_map]
    cases hj : acc.toList[j]? with
    | none =>
      have h1 := List.getElem?_eq_none_iff.mp hj
      rw [List.getElem?_eq_none (by omega)]
      all_goals rfl
    | some v =>
      obtain ⟨en, hen, hv⟩ := it.2 j v (by rw [← Array.getElem?_toList]; exact hj)
      have qe := entry_at he j
      rw [hen] at qe
      cases hb : ks[j]? with
      | none =>
        rw [hb] at qe
        exact nomatch (show some en = none from qe)
      | some b =>
        rw [hb] at qe
        have e2 : en = entryOfKey (tupleKind (mixKind X.prog X.w)) b := Option.some.inj qe
        rw [hv, e2]
        all_goals rfl
  have ik : IsKeys H kvs (ks.map fun x => x.2.1) := isKeys_of pr
  obtain ⟨kb1, kb2⟩ := keys_bars ik hks
  generalize has : (ks.map fun x => x.2.1) = as at ik kb1 kb2
  have ea' : acc.toList = as.map Value.ref := by rw [ea, ← has, List.map_map]; rfl
  have hal : acc.toList.length = as.length := by rw [ea', List.length_map]
  have hasz : as.length ≤ sizeLine := by rw [← has, List.length_map]; omega
  have I1 : Inv X pins σ H { s with heap := h', toks := tk } := I.kept hk
  refine wpAny_bind (wpAny_newList ?_ (by rw [hal]; exact hasz))
  have hoL : (h'.push (seqObj "list" acc.toList.toArray 0)).get? h'.objs.size = some (seqObj "list" acc.toList.toArray 0) := Heap.get?_push_size _ rfl
  show wpAny _ _ _ _ _ { s with heap := h'.push (seqObj "list" acc.toList.toArray 0), toks := tk }
  have hbar : ∀ v ∈ acc.toList, IsBarV h' v (barAt H (backV v)) ∧ (barAt H (backV v)).low := fun v hv => by
    rw [ea'] at hv
    obtain ⟨a, ham, rfl⟩ := List.mem_map.mp hv
    obtain ⟨b, hbm, hHa⟩ := kb1 a ham
    have e1 : barAt H (backV (Value.ref a)) = b := barAt_of hHa
    rw [e1]
    refine ⟨?_, hlow b hbm⟩
    obtain ⟨_, its, rv, oo, h1, h2, n, h3⟩ := (show ObjOk X.prog X.w H h' a (.tup b.vs) from I1.hok a _ hHa)
    cases rv with
    | cons r1 rv =>
      cases rv with
      | cons r2 rv =>
        cases rv with
        | cons r3 rv =>
          cases rv with
          | cons r4 rv =>
            cases rv
            obtain ⟨t1, rfl⟩ := r1
            obtain ⟨t2, rfl⟩ := r2
            obtain ⟨t3, rfl⟩ := r3
            obtain ⟨t4, rfl⟩ := r4
            exact ⟨a, oo, t1, t2, t3, t4, n, rfl, h1, h2, h3⟩
  refine wpAny_bind (wpAny_holding (wpAny_call_entry PyProof.Rows.slot_list_sort ⟨_, hoL, rfl⟩ PyProof.Rows.entry_list_sort
    (SrtO.list_sort_ord (s := { s with heap := h'.push (seqObj "list" acc.toList.toArray 0), toks := tk }) (swo_code fun v => barAt H (backV v)) hoL (by rw [hal]; exact hasz) (fun h2 => ?_) fun out hs hb => ⟨_, rfl, ?_⟩)
    (PyProof.Rows.args_list_sort _)))
  · refine bars_sortableO (by omega) (fun v hv => ⟨(hbar v hv).1.keeps fun c oo e _ => Heap.get?_push_of_some _ e, (hbar v hv).2⟩) fun oo e => ?_
    have e' : some oo = some (seqObj "list" acc.toList.toArray 0) := e.symm.trans hoL
    cases e'
    intro c
    exact absurd (Value.type.inj c) (by decide)
  · obtain ⟨e', he'⟩ := PyProof.Rows.sortedHeap_at (vs := acc.toList) (out := out.toArray) hoL
    have pm : out.Perm (as.map Value.ref) := by rw [← ea']; exact hb.perm
    have href : ∀ v ∈ out, ∃ a, v = Value.ref a ∧ a ∈ as := fun v hv => by
      obtain ⟨a, ha, rfl⟩ := List.mem_map.mp (pm.mem_iff.mp hv)
      exact ⟨a, rfl, ha⟩
    have e1 : out.map backV = (out.map fun v => ((match v with | .ref a => a | _ => 0 : Addr), barAt H (backV v))).map fun k => V.ref k.1 := by
      rw [List.map_map]
      refine List.map_congr_left fun v hv => ?_
      obtain ⟨a, rfl, _⟩ := href v hv
      rfl
    have e2 : (out.map fun v => ((match v with | .ref a => a | _ => 0 : Addr), barAt H (backV v))).map (·.2) = out.map fun v => barAt H (backV v) := by
      rw [List.map_map]; rfl
    have pm2 : (out.map fun v => barAt H (backV v)).Perm bs := by
      have q1 := pm.map fun v => barAt H (backV v)
      have q2 : (as.map Value.ref).map (fun v => barAt H (backV v)) = bs := by
        rw [← kb2, List.map_map, List.map_map]; rfl
      rw [q2] at q1
      exact q1
    have qq := q (out.map fun v => ((match v with | .ref a => a | _ => 0 : Addr), barAt H (backV v))) h'.objs.size (fun k hk2 => by
        obtain ⟨v, hv, rfl⟩ := List.mem_map.mp hk2
        obtain ⟨a, rfl, ha⟩ := href v hv
        obtain ⟨b, _, hH⟩ := kb1 a ha
        show H a = some (.tup (barAt H (.ref a)).vs)
        rw [barAt_of hH]
        exact hH) (by rw [e2]; exact pm2) (by
        rw [e2, List.pairwise_map]
        exact hs.imp fun {x y} q => by
          have := of_decide_eq_false q
          omega) (I1.hok.fresh (Nat.le_refl _))
    rw [← e1] at qq
    refine wpAny_pure ⟨_, rfl, .ref h'.objs.size, upd H h'.objs.size (.lst (out.map backV)), I1.laid (t' := tk) (fun b u e => ?_) (Nat.le_refl _)
      (show ObjOk X.prog X.w _ _ _ (.lst (out.map backV)) from ⟨?_, out, e', vals_back fun v hv => ?_, he'⟩), rfl, qq⟩
    · have hb : b < h'.objs.size := Heap.lt_size e
      rw [PyProof.Rows.sortedHeap_old (Nat.ne_of_lt hb) (by rw [size_push']; exact Nat.lt_succ_of_lt hb)]
      exact Heap.get?_push_of_some _ e
    · rw [List.length_map, pm.length_eq, List.length_map]
      exact hasz
    · obtain ⟨a, e, _⟩ := href v hv
      exact ⟨a, e⟩
end
end DL

set_option Elab.async false
set_option maxRecDepth 100000
namespace DL
open PySem PySem.Spec PyProof.Rows L2
/-! ### bar <= bar -/
def Bar.leb (a b : Bar) : Bool := decide (a.code ≤ b.code)
def Bar.leq (a b : Bar) : Bool := if a.d = b.d then (if a.w = b.w then (if a.o = b.o then (if a.t = b.t then true else !(!b.t && a.t)) else decide (a.o ≤ b.o)) else !(!b.w && a.w)) else decide (a.d ≤ b.d)
theorem Bar.leq_code {a b : Bar} (ha : a.low) (hb : b.low) : a.leq b = a.leb b := by
  obtain ⟨ad, aw, ao, at'⟩ := a
  obtain ⟨bd, bw, bo, bt⟩ := b
  unfold Bar.low at ha hb
  unfold Bar.leq Bar.leb Bar.code b2n
  simp only at ha hb ⊢
  by_cases h1 : ad = bd
  · rw [if_pos h1]
    by_cases h2 : aw = bw
    · rw [if_pos h2]
      by_cases h3 : ao = bo
      · rw [if_pos h3]
        subst h1 h2 h3
        cases at' <;> cases bt <;> simp <;> omega
      · rw [if_neg h3]
        subst h1 h2
        cases at' <;> cases bt <;> simp <;> omega
    · rw [if_neg h2]
      subst h1
      cases aw <;> cases bw <;> cases at' <;> cases bt <;> simp at h2 ⊢ <;> omega
  · rw [if_neg h1]
    cases aw <;> cases bw <;> cases at' <;> cases bt <;> simp <;> omega
def rLeB (K : PySem.W.Frag) : R2 := fun x y H Q => ∃ (a b : Addr) (p q : Bar), x = .ref a ∧ y = .ref b ∧ SqT K H a p.vs ∧ SqT K H b q.vs ∧ Q (.bl (p.leq q)) H
theorem four_of {p : Bar} {its : List Value} (r : Vals p.vs its) : ∃ t1 t2 t3 t4, its = [.int p.d t1, .str (wd p.w) t2, .int p.o t3, .str (wd p.t) t4] := by
  cases r with
  | cons r1 rv =>
    cases rv with
    | cons r2 rv =>
      cases rv with
      | cons r3 rv =>
        cases rv with
        | cons r4 rv =>
          cases rv
          obtain ⟨t1, rfl⟩ := r1
          obtain ⟨t2, rfl⟩ := r2
          obtain ⟨t3, rfl⟩ := r3
          obtain ⟨t4, rfl⟩ := r4
          exact ⟨t1, t2, t3, t4, rfl⟩
theorem beq_dec {α : Type} [BEq α] [LawfulBEq α] [DecidableEq α] (a b : α) : (a == b) = decide (a = b) := by
  by_cases q : a = b
  · rw [decide_eq_true q]; exact beq_iff_eq.mpr q
  · rw [decide_eq_false q]; exact beq_eq_false_iff_ne.mpr q
theorem wd_beq (a b : Bool) : ((wd a) == (wd b)) = decide (a = b) := by revert a b; decide +kernel
theorem op_leB {X : Cx} (hu : X.A.units < cLine) : OpR X (compareOp .LtE) (rLeB X.K) := by
  intro pins s σ H x y v u Q I rx ry h
  obtain ⟨a, b, p, q, rfl, rfl, ha, hb, hq⟩ := h
  cases rx
  cases ry
  obtain ⟨its, r1, p1, _⟩ := I.tuple ha
  obtain ⟨its2, r2, p2, _⟩ := I.tuple hb
  obtain ⟨t1, t2, t3, t4, rfl⟩ := four_of r1
  obtain ⟨u1, u2, u3, u4, rfl⟩ := four_of r2
  have R := Ob.RcOp.tuples_le (A := X.A) (s := s) (e := fun j => match j with | 0 => decide (p.d = q.d) | 1 => decide (p.w = q.w) | 2 => decide (p.o = q.o) | _ => decide (p.t = q.t))
    (r := fun j => match j with | 0 => decide (p.d ≤ q.d) | 1 => !(!q.w && p.w) | 2 => decide (p.o ≤ q.o) | _ => !(!q.t && p.t)) p1 p2 hu (fun j h1 h2 => by
      match j, h1, h2 with
      | 0, _, _ => show SeqAt.EqAt _ _ (.int p.d t1) (.int q.d u1) (decide (p.d = q.d)); rw [← beq_dec]; exact SeqAt.EqAt.int_int _ _ _ _
      | 1, _, _ => show SeqAt.EqAt _ _ (.str (wd p.w) t2) (.str (wd q.w) u2) (decide (p.w = q.w)); rw [← wd_beq]; exact SeqAt.EqAt.str_str _ _ _ _
      | 2, _, _ => show SeqAt.EqAt _ _ (.int p.o t3) (.int q.o u3) (decide (p.o = q.o)); rw [← beq_dec]; exact SeqAt.EqAt.int_int _ _ _ _
      | 3, _, _ => show SeqAt.EqAt _ _ (.str (wd p.t) t4) (.str (wd q.t) u4) (decide (p.t = q.t)); rw [← wd_beq]; exact SeqAt.EqAt.str_str _ _ _ _
      | n + 4, h1, _ => exact absurd (show n + 4 < 4 from h1) (by omega)) (fun j h1 h2 _ => by
      match j, h1, h2 with
      | 0, _, _ => exact Ob.RcOp.le_int _ _ _ _
      | 1, _, _ =>
        show Ob.RcOp .LtE _ _ (.str (wd p.w) t2) (.str (wd q.w) u2) (!(!q.w && p.w))
        rw [← wd_lt]
        exact fun _ _ _ _ h => PySem.P.le_str h
      | 2, _, _ => exact Ob.RcOp.le_int _ _ _ _
      | 3, _, _ =>
        show Ob.RcOp .LtE _ _ (.str (wd p.t) t4) (.str (wd q.t) u4) (!(!q.t && p.t))
        rw [← wd_lt]
        exact fun _ _ _ _ h => PySem.P.le_str h
      | n + 4, h1, _ => exact absurd (show n + 4 < 4 from h1) (by omega))
  have z : wpAny (model X.prog X.w) X.A (compareOp .LtE (.ref a) (.ref b)) (EP X pins σ Q) X.xe s := R X.prog X.w X.xe (EP X pins σ Q) (by
    refine ⟨.bl (p.leq q), H, I, ?_, hq⟩
    show Value.bool _ = Value.bool (p.leq q)
    have e : (Ob.lexAt (fun j => match j with | 0 => decide (p.d = q.d) | 1 => decide (p.w = q.w) | 2 => decide (p.o = q.o) | _ => decide (p.t = q.t))
      (fun j => match j with | 0 => decide (p.d ≤ q.d) | 1 => !(!q.w && p.w) | 2 => decide (p.o ≤ q.o) | _ => !(!q.t && p.t)) true 0 4) = p.leq q := by
      unfold Bar.leq
      simp only [Ob.lexAt, decide_eq_true_eq]
    exact congrArg Value.bool e)
  exact z
/-! ### for i, x in enumerate(t), t a tuple -/
def IteT (K : PySem.W.Frag) (a : Addr) : It :=
  ⟨fun i H => ∃ (xs : List V) (x : V), SqT K H a xs ∧ xs[i]? = some x, fun i H v H' => ∃ T x, v = .ref T ∧ H T = none ∧ H' = upd H T (.tup [.int (i : Nat), x]) ∧ ∀ xs, SqT K H a xs → xs[i]? = some x, fun i H => ∃ xs : List V, SqT K H a xs ∧ xs.length ≤ i⟩
theorem turn_enumT {P : Program} {w : World} {K : PySem.W.Frag} {elts : List Expr} {kk : Nat} {tpos : Pos} (a e it : Addr) (hai : a ≠ it) (hae : e ≠ a) :
    Turn P w K (.Tuple elts kk tpos) (IteT K a) [e, it] e (fun i h => (∃ old, IsEnum h e it ((i : Nat) : Int) old) ∧ h.IsTupleIter it a i ∧ e ≠ it) where
  mem := by simp
  obj := fun i h st b hb => by
    obtain ⟨⟨old, he⟩, ⟨o, ho, hc, hd⟩, _⟩ := st
    have e' : b = e ∨ b = it := by simpa using hb
    rcases e' with z | z
    · rw [z]; exact ⟨_, he, fun v q => nomatch q⟩
    · rw [z]; exact ⟨o, ho, fun v q => by rw [hd] at q; cases q⟩
  keep := fun i h h' st k => let ⟨⟨old, he⟩, hi, hne⟩ := st; ⟨⟨old, k e (by simp) _ he⟩, hi.at fun o q => k it (by simp) o q, hne⟩
  item := by
    intro X hP hw hK hc i pins s σ H E I hf st hg
    subst hP hw hK
    obtain ⟨⟨old, he⟩, hit, hne⟩ := st
    obtain ⟨xs, x, hq, hx⟩ := hg
    obtain ⟨its, rv, p, hz⟩ := I.tuple hq
    obtain ⟨u, hu, ru⟩ := rv.get hx
    have hel : e < s.heap.objs.size := Heap.lt_size he
    have hil : it < s.heap.objs.size := by obtain ⟨_, q, _⟩ := hit; exact Heap.lt_size q
    have hlt : i < its.toArray.size := by
      have := (List.getElem?_eq_some_iff.mp hu).1
      simpa using this
    refine wpAny_pyNext_enum_itemD (Draws.tuple (A := X.A.in1) (I.ok.hd hc) it a hai its.toArray) he ⟨hit, p⟩ hlt hne (by simp; exact ⟨hne, hae⟩) fun x1 h' tk hp ho hst' hT hsz hk => ?_
    have hx1 : x1 = u := by
      have q : its.toArray[i]? = some u := by simpa using hu
      rw [q] at hp
      exact (Option.some.inj hp).symm
    subst hx1
    refine ⟨_, rfl, wpAny_letOwnedTupleGo_enum (s := { s with heap := h', toks := tk + 1 }) ho fun h'' he' sb => ?_⟩
    have hT2 : h''.get? s.heap.objs.size = some { cls := .type "tuple", data := .seq #[.int i tk, x1] } := (sb.2 _ (Nat.ne_of_gt hel)).trans hT
    have new : ObjOk X.prog X.w (upd H s.heap.objs.size (.tup [.int (i : Nat), x])) h'' s.heap.objs.size (.tup [.int (i : Nat), x]) :=
      ⟨by show 2 ≤ sizeLine; decide, [.int i tk, x1], .cons ⟨_, rfl⟩ (.cons ru .nil), ⟨_, hT2, rfl, _, rfl⟩⟩
    have I1 : Inv X pins σ (upd H s.heap.objs.size (.tup [.int (i : Nat), x])) { s with heap := h'', toks := tk + 1 } :=
      I.turnedNew (ch := [e, it]) (fun b ob hb q => (sb.2 b (fun z => hb (by simp [z]))).trans (hk b ob (fun z => hb (by simp [z])) (fun z => hb (by simp [z])) q)) hf (Nat.le_refl _) new
    refine ⟨.ref s.heap.objs.size, _, I1, rfl, ⟨_, x, rfl, I.hok.fresh (Nat.le_refl _), rfl, fun ys hy => by rw [I.tuple_inj hy hq]; exact hx⟩, ⟨⟨x1, ?_⟩, hst'.1.at fun o q => (sb.2 it (Ne.symm hne)).trans q, hne⟩, fun b hb => ?_⟩
    · have e1 : ((i + 1 : Nat) : Int) = (i : Int) + 1 := by omega
      rw [e1]; exact he'
    · have hb' : b < s.heap.objs.size := by
        have e' : b = e ∨ b = it := by simpa using hb
        rcases e' with z | z
        · rw [z]; exact hel
        · rw [z]; exact hil
      rw [upd_ne (Nat.ne_of_lt hb')]
      exact (hf b hb).1
  done := by
    intro X hP hw hK hc i pins s σ H E I hf st hg
    subst hP hw hK
    obtain ⟨⟨old, he⟩, hit, hne⟩ := st
    obtain ⟨xs, hq, hx⟩ := hg
    obtain ⟨its, rv, p, hz⟩ := I.tuple hq
    obtain ⟨f0, f1, f2, f3, f4, f5⟩ := hf it (by simp)
    have hl := rv.length
    have D := Draws.tuple (prog := X.prog) (w := X.w) (A := X.A.in1) (I.ok.hd hc) it a hai its.toArray
    have go : ∀ {Q : Option Value → Shared → Prop}, (∀ h', Heap.ExtBut it s.heap h' → Q none { s with heap := h' }) → wpAny (model X.prog X.w) X.A (pyNext (.ref e)) Q E s := by
      intro Q hQ
      unfold pyNext
      have hT : s.TypeIs (.ref e) "enumerate" := ⟨_, he, rfl⟩
      refine wpAny_bind (wpAny_attempt (wpAny_callSpecial?_slot (name := Str.ofString "__next__") hT F.slot_enumerate_next
        (wpAny_call_entry F.slot_enumerate_next hT F.entry_enumerate_next ?_ (F.args_enumerate_next_1 _))))
      show wpAny _ _ (field (.ref e) 2 >>= _) _ _ _
      refine wpAny_bind (wpAny_field he rfl (x := .ref it) rfl ?_)
      refine wpAny_bind (wpAny_nextOf_tuple_end (I.ok.hd hc) hit p (by simp; omega) fun h' x he' hx' => ?_)
      obtain ⟨o, ho, hc⟩ := hx'
      refine wpAny_bind (wpAny_isInstance (T := "StopIteration") (b := true) ⟨o, ho, hc⟩ isSubtype_stop ?_)
      exact wpAny_pure (hQ _ he')
    exact go fun h' eb => ⟨rfl, I.turned (t' := s.toks) (fun b o hb q => eb b o hb q) f0 f1 f3 f4 f5⟩
  self := fun A i s Q E st h => let ⟨⟨_, he⟩, _⟩ := st; wpAny_pyIter_enum he h
def iEnumT (K : PySem.W.Frag) (ta : TA) : TI := fun σ H R => ta σ H fun vs H1 => ∃ a xs, vs = [.ref a] ∧ SqT K H1 a xs ∧ R (IteT K a) H1
end DL

set_option Elab.async false
set_option maxRecDepth 100000
namespace DL
open PySem PySem.Spec PyProof.Rows L2
open Sem (wp)
set_option maxHeartbeats 1000000 in
theorem meets_enumerate_newB1 {v : Value} {o : Obj} {H : Heap → Prop} (B : Begins v o H) :
    Meets (Builtin.«enumerate.__new__» ⟨[.type "enumerate", v], []⟩) (fun _ R s => H s.heap ∧
      R (.ok (.ret (.ref (s.heap.push o).objs.size))) { s with heap := (s.heap.push o).push { cls := .type "enumerate", data := .fields #[.none, .bool false, .ref s.heap.objs.size, rawInt 0, .none, .none] } }) :=
  .of_wp fun prog w A R s h => by
    obtain ⟨hp, g, d, tk, os⟩ := s; obtain ⟨h1, h⟩ := h
    have hsub := sub_enumerate
    have q1 : ∀ {A' : Around} {E : Value → Shared → Prop} {Q : Value → Shared → Prop}, Q (.ref hp.objs.size) ⟨hp.push o, g, d, tk, os⟩ → wpAny (model prog w) A' (pyIter v) Q E ⟨hp, g, d, tk, os⟩ :=
      fun q => B.iter prog w _ _ ⟨hp, g, d, tk, os⟩ _ h1 q
    wp_walk using q1
    refine wpAny_stack_any fun st => wpAny_pure ?_
    split
    · rename_i c _ _ _ _ _
      cases (c == Value.type "enumerate")
      · wp_walk using q1
        exact ⟨_, rfl, h⟩
      · wp_walk using q1
        exact ⟨_, rfl, h⟩
    · wp_walk using q1
      exact ⟨_, rfl, h⟩
section
variable {prog : Program} {w : World} {A : Around} {E : Value → Shared → Prop} {s : Shared}
theorem enum_begins1 {v : Value} {o : Obj} {H : Heap → Prop} {Q : Value → Shared → Prop} (B : Begins v o H) (h1 : H s.heap)
    (h : ∀ h', IsEnum h' (s.heap.objs.size + 1) s.heap.objs.size 0 .none → h'.get? s.heap.objs.size = some o → h'.objs.size = s.heap.objs.size + 2 →
      (∀ b o, s.heap.get? b = some o → h'.get? b = some o) → Q (.ref (s.heap.objs.size + 1)) { s with heap := h' }) :
    wpAny (model prog w) A (call (.type "enumerate") [v]) Q E s := by
  refine callType_new F.called_enumerate (by decide) (F.typeCall_enumerate_1 _) (F.newCall_enumerate_1 _) (fun obj => F.args_object_init_2 obj _) F.entry_enumerate_new
    (meets_enumerate_newB1 B) ⟨h1, ?_⟩
  have hz : (s.heap.push o).objs.size = s.heap.objs.size + 1 := Heap.size_push ..
  show _ ∧ _
  rw [hz]
  have he : IsEnum ((s.heap.push o).push { cls := .type "enumerate", data := .fields #[.none, .bool false, .ref s.heap.objs.size, rawInt 0, .none, .none] }) (s.heap.objs.size + 1) s.heap.objs.size 0 .none := by
    have := Heap.get?_push_size (s.heap.push o) (o := { cls := .type "enumerate", data := .fields #[.none, .bool false, .ref s.heap.objs.size, rawInt 0, .none, .none] }) rfl
    rw [hz] at this; exact this
  refine ⟨⟨_, he, rfl⟩, h _ he (Heap.get?_push_of_some _ (Heap.get?_push_size _ B.free)) (by rw [Heap.size_push, hz]) fun b o x => Heap.get?_push_of_some _ (Heap.get?_push_of_some _ x)⟩
end
theorem pi_enumT {X : Cx} {e : Expr} {ta : TA} {p pos tpos : Pos} {elts : List Expr} {kk : Nat} (hg : Gl X "enumerate") (hm : X.mg "enumerate" = none) (ha : PA X [e] ta) (hs : starEach [e] X.env = [(false, eval e X.env)] := by rfl) :
    PI X (.Tuple elts kk tpos) (.Call (.Name "enumerate" p) [e] [] pos) (iEnumT X.K ta) := by
  refine ⟨fun pins s σ H R I h => ?_⟩
  refine Call_ (ld_blt I hg hm boot_enumerate (PyProof.Rows.callWith_type1 (thn (ha.run pos pins s σ H _ I h) fun us s1 ⟨vs, H1, I1, r1, q1⟩ => ?_) hs rfl))
  obtain ⟨a, xs, ex, hq, q⟩ := q1
  subst ex
  cases r1 with
  | cons r rr =>
    cases rr
    cases r
    obtain ⟨its, rv, p', hz⟩ := I1.tuple hq
    have hal : a < s1.heap.objs.size := by obtain ⟨o, ho, _⟩ := id p'; exact Heap.lt_size ho
    refine enum_begins1 (begins_tuple a its.toArray) (show s1.heap.IsTuple a its.toArray from p') fun h' he hit hsz hk => wpAny_pyIter_enum he ?_
    have I2 : Inv X pins σ H1 { s1 with heap := h' } := I1.kept (t' := s1.toks) hk
    refine ⟨s1.heap.objs.size + 1, [s1.heap.objs.size + 1, s1.heap.objs.size], _, _, H1, rfl, I2, turn_enumT a (s1.heap.objs.size + 1) s1.heap.objs.size (Nat.ne_of_lt hal) (Nat.ne_of_gt (Nat.lt_succ_of_lt hal)),
      ⟨⟨.none, he⟩, ⟨_, hit, rfl, rfl⟩, Nat.succ_ne_self _⟩, fun b hb => ?_, q⟩
    have e' : b = s1.heap.objs.size + 1 ∨ b = s1.heap.objs.size := by simpa using hb
    have hle : s1.heap.objs.size ≤ b := by
      rcases e' with z | z
      · rw [z]; exact Nat.le_add_right _ _
      · rw [z]; exact Nat.le_refl _
    exact I1.fpOk hle (I1.hok.fresh hle)
theorem walk_enumT {K : PySem.W.Frag} {a : Addr} {xs : List V} : Walk (IteT K a) xs.length (fun H => SqT K H a xs) (YPair (fun i => some (.int (i : Nat))) (fun i => xs[i]?)) := by
  refine ⟨fun i _ hi q => ⟨xs, xs[i], q, by simp [hi]⟩, fun _ q => ⟨xs, q, Nat.le_refl _⟩, fun i H v H' _ q y => ?_⟩
  obtain ⟨T, x, h1, h2, h3, h4⟩ := y
  exact ⟨T, .int (i : Nat), x, h1, h2, h3, rfl, h4 xs q⟩
end DL

set_option Elab.async false
set_option maxRecDepth 100000
namespace DL
open PySem L2
def top (i : Nat) : Stmt := PySem.Challenge.pw_drawerlocks_k09_papers.main.body.getD i (.Pass ⟨0, 0, 0, 0⟩)
abbrev sIsInt : Stmt := top 11
abbrev sIsCount : Stmt := top 12
abbrev sIsDrawer : Stmt := top 13
abbrev s_is_set : Stmt := top 14
abbrev sIsBar : Stmt := top 15
abbrev s_is_standing : Stmt := top 16
abbrev s_has_signs : Stmt := top 17
abbrev s_first_standing : Stmt := top 18
abbrev s_fits : Stmt := top 19
abbrev s_hinders : Stmt := top 20
abbrev s_moved : Stmt := top 21
abbrev sInit : Stmt := inClass (top 23) 0
abbrev sDrawers : Stmt := inClass (top 23) 1
abbrev sBars : Stmt := inClass (top 23) 2
abbrev s_free_drawers : Stmt := top 24
abbrev s_goes : Stmt := top 25
abbrev s_bars_against : Stmt := top 26
abbrev sCheckDrawers : Stmt := top 27
abbrev sCheckBars : Stmt := top 28
abbrev s_check_cabinet : Stmt := top 29
abbrev s_reached : Stmt := top 31
abbrev s_first_rows : Stmt := top 32
abbrev s_rows_from : Stmt := top 33
abbrev s_first_row_to : Stmt := top 34
abbrev s_open_together : Stmt := top 36
abbrev s_paper : Stmt := top 37
abbrev s_right_paper : Stmt := top 38
abbrev s_is_closed : Stmt := top 39
abbrev s_any_fits : Stmt := top 40
abbrev s_open_pattern : Stmt := top 41
abbrev s_check_set : Stmt := top 42
abbrev sTaken : Stmt := top 44
abbrev sParts : Stmt := top 45
abbrev sMade : Stmt := top 46
abbrev s__law_hold : Stmt := top 47
abbrev s__law_free : Stmt := top 48
abbrev s__law_moved : Stmt := top 49
abbrev s__law_rows : Stmt := top 50
abbrev s__law_all : Stmt := top 51
abbrev s__law_pattern : Stmt := top 52
abbrev s__law_is_table : Stmt := top 53
abbrev s_law : Stmt := top 54
end DL

set_option Elab.async false
set_option maxRecDepth 100000
namespace DL
open PySem L2
/-! ### the facts of the top -/
structure Bt (mg : Str → Option Value) : Prop where
  isinstance : mg "isinstance" = none
  int : mg "int" = none
  bool : mg "bool" = none
  tuple : mg "tuple" = none
  len : mg "len" = none
  enumerate : mg "enumerate" = none
  range : mg "range" = none
  sorted : mg "sorted" = none
/-! ### is_integer -/
structure spIsInt (K : PySem.W.Frag) (vs : List V) (H : Hp) (Q : VK) (_ : XK) : Prop where
  h : ∃ (v : V) (t : Value) (b1 b2 : Bool), vs = [v] ∧ TyX K H v t ∧ PySem.W.kitOne K t (.type "int") = some b1 ∧ PySem.W.kitOne K t (.type "bool") = some b2 ∧ Q (.bl (b1 && !b2)) H
section
variable {P : Program} {w : World} {K : PySem.W.Frag} {mg : Str → Option Value} {base : Heap}
theorem scIsInt : FnScope ["value"] ["value"] (defScope sIsInt) := ⟨rfl, rfl, rfl, by decide +kernel, rfl, by decide +kernel, by decide +kernel⟩
theorem ok_isInt {f : Addr} {fd : FuncData} (F : Fun K "is_integer" "is_integer" sIsInt f fd) (T : Bt mg) : FnOk P w K mg base CX0 1 f fd ["value"] (spIsInt K) := by
  refine F.ok scIsInt (fun vs H Q E h => ?_) (fun cdv A outer s H vs Q E hr h => ?_)
  · obtain ⟨v, t, b1, b2, rfl, _⟩ := h.h
    rfl
  · obtain ⟨v, t, b1, b2, rfl, ty, k1, k2, k⟩ := h.h
    refine ⟨_, pss_one (ps_ret (pe_and (pe_callB call_isi (by rfl) T.isinstance (by decide +kernel) (pa_cons (pv 0) (pa_cons (pe_bltn (v := .ty "int") (by rfl) T.int (by decide +kernel) rfl) pa_nil)))
      (pe_one (pe_not (pe_callB call_isi (by rfl) T.isinstance (by decide +kernel) (pa_cons (pv 0) (pa_cons (pe_bltn (v := .ty "bool") (by rfl) T.bool (by decide +kernel) rfl) pa_nil))))))), ?_⟩
    refine ⟨_, rfl, _, _, t, _, b1, rfl, .ty "int", ty, k1, b1, rfl, ?_⟩
    cases b1 with
    | false => exact iteF k
    | true => exact iteT ⟨_, rfl, _, _, t, _, b2, rfl, .ty "bool", ty, k2, b2, rfl, k⟩
/-! ### is_drawer_count(value), is_drawer(drawers, value) -/
/-- an int as value: whether it is one; any other known thing: False -/
structure spIsCount (K : PySem.W.Frag) (vs : List V) (H : Hp) (Q : VK) (_ : XK) : Prop where
  h : (∃ n : Int, vs = [.int n] ∧ Q (.bl (decide (1 ≤ n) && decide (n ≤ 7))) H) ∨
  ∃ (v : V) (t : Value) (b1 b2 : Bool), vs = [v] ∧ TyX K H v t ∧ PySem.W.kitOne K t (.type "int") = some b1 ∧ PySem.W.kitOne K t (.type "bool") = some b2 ∧ (b1 && !b2) = false ∧ Q (.bl false) H
theorem scIsCount : FnScope ["value"] ["value"] (defScope sIsCount) := ⟨rfl, rfl, rfl, by decide +kernel, rfl, by decide +kernel, by decide +kernel⟩
theorem ok_isCount {f f1 : Addr} {fd fd1 : FuncData} (F : Fun K "is_drawer_count" "is_drawer_count" sIsCount f fd) (_T : Bt mg) (G : FnOk P w K mg base CX0 1 f1 fd1 ["value"] (spIsInt K)) (g1 : mg "is_integer" = some (.ref f1)) (k1 : PySem.W.keepIn K (.ref f1) = true) (b1 : Binds K fd1 ["value"] [])
    (gM : ∃ t, mg "MOST_DRAWERS" = some (.int 7 t)) : FnOk P w K mg base CX0 2 f fd ["value"] (spIsCount K) := by
  refine F.ok scIsCount (fun vs H Q E h => ?_) (fun cdv A outer s H vs Q E hr h => ?_)
  · rcases h.h with ⟨n, rfl, _⟩ | ⟨v, t, b1, b2, rfl, _⟩ <;> rfl
  · obtain ⟨tM, gM⟩ := gM
    refine ⟨_, pss_one (ps_ret (pe_and (pe_call G (hr.mono (by decide)) rfl g1 k1 b1 .nil pass0 (pa_cons (pv 0) pa_nil)) (pe_one (pe_chain op_le op_le pe_int (pv 0) (pe_glob (v := .int 7) rfl gM ⟨_, rfl⟩))))), ?_⟩
    rcases h.h with ⟨n, rfl, k⟩ | ⟨v, t, c1, c2, rfl, ty, e1, e2, e3, k⟩
    · refine ⟨_, rfl, ⟨.int n, .type "int", true, false, rfl, .base (.int n), kit_ty (by decide +kernel), kit_ty (by decide +kernel), true, rfl, iteT ?_⟩⟩
      refine ⟨_, rfl, _, _, rfl, rfl, _, rfl, ?_⟩
      by_cases h1 : 1 ≤ n
      · rw [decide_eq_true h1] at k ⊢
        exact iteT ⟨_, _, rfl, rfl, k⟩
      · rw [decide_eq_false h1] at k ⊢
        exact iteF k
    · refine ⟨_, rfl, ⟨v, t, c1, c2, rfl, ty, e1, e2, _, rfl, ?_⟩⟩
      rw [e3]
      exact iteF k
structure spIsDrawer (K : PySem.W.Frag) (vs : List V) (H : Hp) (Q : VK) (_ : XK) : Prop where
  h : ∃ n : Int, (∃ i : Int, vs = [.int n, .int i] ∧ Q (.bl (decide (0 ≤ i) && decide (i < n))) H) ∨
  ∃ (v : V) (t : Value) (b1 b2 : Bool), vs = [.int n, v] ∧ TyX K H v t ∧ PySem.W.kitOne K t (.type "int") = some b1 ∧ PySem.W.kitOne K t (.type "bool") = some b2 ∧ (b1 && !b2) = false ∧ Q (.bl false) H
theorem scIsDrawer : FnScope ["drawers", "value"] ["drawers", "value"] (defScope sIsDrawer) := ⟨rfl, rfl, rfl, by decide +kernel, rfl, by decide +kernel, by decide +kernel⟩
theorem ok_isDrawer {f f1 : Addr} {fd fd1 : FuncData} (F : Fun K "is_drawer" "is_drawer" sIsDrawer f fd) (_T : Bt mg) (G : FnOk P w K mg base CX0 1 f1 fd1 ["value"] (spIsInt K)) (g1 : mg "is_integer" = some (.ref f1)) (k1 : PySem.W.keepIn K (.ref f1) = true) (b1 : Binds K fd1 ["value"] []) :
    FnOk P w K mg base CX0 2 f fd ["drawers", "value"] (spIsDrawer K) := by
  refine F.ok scIsDrawer (fun vs H Q E h => ?_) (fun cdv A outer s H vs Q E hr h => ?_)
  · rcases h.h with ⟨n, ⟨i, rfl, _⟩ | ⟨v, t, b1, b2, rfl, _⟩⟩ <;> rfl
  · refine ⟨_, pss_one (ps_ret (pe_and (pe_call G (hr.mono (by decide)) rfl g1 k1 b1 .nil pass0 (pa_cons (pv 1) pa_nil)) (pe_one (pe_chain op_le op_lt pe_int (pv 1) (pv 0))))), ?_⟩
    rcases h.h with ⟨n, ⟨i, rfl, k⟩ | ⟨v, t, c1, c2, rfl, ty, e1, e2, e3, k⟩⟩
    · refine ⟨_, rfl, ⟨.int i, .type "int", true, false, rfl, .base (.int i), kit_ty (by decide +kernel), kit_ty (by decide +kernel), true, rfl, iteT ?_⟩⟩
      refine ⟨_, rfl, _, _, rfl, rfl, _, rfl, ?_⟩
      by_cases h1 : 0 ≤ i
      · rw [decide_eq_true h1] at k ⊢
        exact iteT ⟨_, rfl, _, _, rfl, rfl, k⟩
      · rw [decide_eq_false h1] at k ⊢
        exact iteF k
    · refine ⟨_, rfl, ⟨v, t, c1, c2, rfl, ty, e1, e2, _, rfl, ?_⟩⟩
      rw [e3]
      exact iteF k
end
end DL

set_option Elab.async false
set_option maxRecDepth 100000
namespace DL
open PySem L2
/-! ### is_bar -/
def scV : V → Bool
  | .non => true | .bl _ => true | .int _ => true | .str _ => true | _ => false
def isD (n : Int) : V → Bool
  | .int i => decide (0 ≤ i) && decide (i < n)
  | _ => false
def inW : V → Bool
  | .str z => decide (z = "open") || decide (z = "shut")
  | _ => false
def barB (n : Int) (x0 x1 x2 x3 : V) : Bool := isD n x0 && (isD n x2 && (!decide (x0 = x2) && (inW x1 && inW x3)))
theorem inW_in (x : V) (h : scV x = true) : inV x [.str "open", .str "shut"] = inW x ∧ flatV x = true := by
  have z1 : ∀ z : Str, ((("open" : Str) == z) || ((("shut" : Str) == z) || false)) = (decide (z = "open") || decide (z = "shut")) := fun z => by
    rw [beq_dec, beq_dec, Bool.or_false]
    congr 1
    · exact decide_eq_decide.mpr ⟨Eq.symm, Eq.symm⟩
    · exact decide_eq_decide.mpr ⟨Eq.symm, Eq.symm⟩
  cases x with
  | str z => exact ⟨z1 z, rfl⟩
  | non => exact ⟨rfl, rfl⟩
  | bl b => exact ⟨rfl, rfl⟩
  | int i => exact ⟨rfl, rfl⟩
  | _ => cases h
theorem spIsDrawer_sc {K : PySem.W.Frag} {n : Int} {x : V} {H : Hp} {Q : VK} {E : XK} (hx : scV x = true) (k : Q (.bl (isD n x)) H) : spIsDrawer K [.int n, x] H Q E := by
  cases x with
  | int i => exact ⟨⟨n, .inl ⟨i, rfl, k⟩⟩⟩
  | non => exact ⟨⟨n, .inr ⟨.non, .type "NoneType", false, false, rfl, .base .non, kit_ty (by decide +kernel), kit_ty (by decide +kernel), rfl, k⟩⟩⟩
  | bl b => exact ⟨⟨n, .inr ⟨.bl b, .type "bool", true, true, rfl, .base (.bl b), kit_ty (by decide +kernel), kit_ty (by decide +kernel), rfl, k⟩⟩⟩
  | str z => exact ⟨⟨n, .inr ⟨.str z, .type "str", false, false, rfl, .base (.str z), kit_ty (by decide +kernel), kit_ty (by decide +kernel), rfl, k⟩⟩⟩
  | _ => cases hx
theorem tyT {K : PySem.W.Frag} {H : Hp} {a : Addr} {xs : List V} (h : SqT K H a xs) : TyX K H (.ref a) (.type "tuple") := by
  rcases h with (h | ⟨o, h⟩) | ⟨o, its, n, h1, h2, _⟩
  · exact .base (.tup h)
  · exact .fTuple h
  · exact .kTuple h1 h2
structure spIsBar (K : PySem.W.Frag) (vs : List V) (H : Hp) (Q : VK) (_ : XK) : Prop where
  h : ∃ n : Int, (∃ (v : V) (t : Value), vs = [.int n, v] ∧ TyX K H v t ∧ PySem.W.kitOne K t (.type "tuple") = some false ∧ Q (.bl false) H) ∨
  (∃ (a : Addr) (xs : List V), vs = [.int n, .ref a] ∧ SqT K H a xs ∧ xs.length ≠ 4 ∧ Q (.bl false) H) ∨
  ∃ (a : Addr) (x0 x1 x2 x3 : V), vs = [.int n, .ref a] ∧ SqT K H a [x0, x1, x2, x3] ∧ scV x0 = true ∧ scV x1 = true ∧ scV x2 = true ∧ scV x3 = true ∧ Q (.bl (barB n x0 x1 x2 x3)) H
section
variable {P : Program} {w : World} {K : PySem.W.Frag} {mg : Str → Option Value} {base : Heap}
theorem scIsBar : FnScope ["drawers", "value", "drawer", "way", "other", "stand"] ["drawers", "value"] (defScope sIsBar) := ⟨rfl, rfl, rfl, by decide +kernel, rfl, by decide +kernel, by decide +kernel⟩
theorem ok_isBar {f f1 : Addr} {fd fd1 : FuncData} (F : Fun K "is_bar" "is_bar" sIsBar f fd) (T : Bt mg) (G : FnOk P w K mg base CX0 2 f1 fd1 ["drawers", "value"] (spIsDrawer K)) (g1 : mg "is_drawer" = some (.ref f1)) (k1 : PySem.W.keepIn K (.ref f1) = true) (b1 : Binds K fd1 ["drawers", "value"] [])
    (gW : ∃ aW, mg "WORDS" = some (.ref aW) ∧ ∀ H, SqT K H aW [.str "open", .str "shut"]) : FnOk P w K mg base CX0 3 f fd ["drawers", "value"] (spIsBar K) := by
  refine F.ok scIsBar (fun vs H Q E h => ?_) (fun cdv A outer s H vs Q E hr h => ?_)
  · rcases h.h with ⟨n, ⟨v, t, rfl, _⟩ | ⟨a, xs, rfl, _⟩ | ⟨a, x0, x1, x2, x3, rfl, _⟩⟩ <;> rfl
  · obtain ⟨aW, gW, hW⟩ := gW
    refine ⟨_, pss_cons (ps_if (PW.pt (pw_or (pt_not (pt_val (pe_callB call_isi (by rfl) T.isinstance (by decide +kernel) (pa_cons (pv 1) (pa_cons (pe_bltn (v := .ty "tuple") (by rfl) T.tuple (by decide +kernel) rfl) pa_nil)))))
        (pw_or1 (pt_cmpR op_ne (pe_callB call_len_seq (by rfl) T.len PySem.boot_len (pa_cons (pv 1) pa_nil)) pe_int (nomark _))))) (pss_one (ps_ret pe_bl)) pss_nil)
      (pss_cons (ps_asg (pv 1) (pg_tup (by rfl) (pgs_cons (pg_name (i := 2) scIsBar.nd rfl (.inl rfl)) (pgs_cons (pg_name (i := 3) scIsBar.nd rfl (.inl rfl)) (pgs_cons (pg_name (i := 4) scIsBar.nd rfl (.inl rfl)) (pgs_cons (pg_name (i := 5) scIsBar.nd rfl (.inl rfl)) pgs_nil))))))
      (pss_cons (ps_if (PW.pt (pw_or (pt_not (pt_val (pe_call G (hr.mono (by decide)) rfl g1 k1 b1 .nil pass0 (pa_cons (pv 0) (pa_cons (pv 2) pa_nil))))) (pw_or1 (pt_not (pt_val (pe_call G (hr.mono (by decide)) rfl g1 k1 b1 .nil pass0 (pa_cons (pv 0) (pa_cons (pv 4) pa_nil)))))))) (pss_one (ps_ret pe_bl)) pss_nil)
      (pss_one (ps_ret (pe_and (pe_cmpR op_ne (pv 2) (pv 4) (nomark _)) (pe_and (pe_cmpR op_in_seq (pv 3) (pe_glob (v := .ref aW) rfl gW rfl) (by rfl)) (pe_one (pe_cmpR op_in_seq (pv 5) (pe_glob (v := .ref aW) rfl gW rfl) (by rfl))))))))), ?_⟩
    rcases h.h with ⟨n, ⟨v, t, rfl, ty, e, k⟩ | ⟨a, xs, rfl, hq, hl, k⟩ | ⟨a, x0, x1, x2, x3, rfl, hq, c0, c1, c2, c3, k⟩⟩
    · exact ⟨_, rfl, _, _, t, _, false, rfl, .ty "tuple", ty, e, _, rfl, iteT (iteT k)⟩
    · refine ⟨_, rfl, _, _, _, _, true, rfl, .ty "tuple", tyT hq, kit_ty (by decide +kernel), _, rfl, iteF ?_⟩
      refine ⟨_, rfl, a, xs, rfl, .inr hq, rfl, _, rfl, ?_⟩
      refine ite2 (fun _ => k) (fun z => ?_)
      exact absurd (show (.int (xs.length : Int) : V) = .int 4 by simpa using z) (fun q => hl (by injection q with q; omega))
    · refine ⟨_, rfl, _, _, _, _, true, rfl, .ty "tuple", tyT hq, kit_ty (by decide +kernel), _, rfl, iteF ?_⟩
      refine ⟨_, rfl, a, _, rfl, .inr hq, rfl, _, rfl, iteF ?_⟩
      refine ⟨_, rfl, a, _, rfl, hq, rfl, x0, _, rfl, x1, _, rfl, x2, _, rfl, x3, _, rfl, rfl, ?_⟩
      refine ⟨_, rfl, _, rfl, ?_⟩
      refine spIsDrawer_sc c0 ⟨_, rfl, ?_⟩
      unfold barB at k
      cases d0 : isD n x0 with
      | false => rw [d0] at k; exact iteT (iteT k)
      | true =>
        rw [d0] at k
        refine iteF ⟨_, rfl, _, rfl, ?_⟩
        refine spIsDrawer_sc c2 ⟨_, rfl, ?_⟩
        cases d2 : isD n x2 with
        | false => rw [d2] at k; exact iteT k
        | true =>
          rw [d2] at k
          refine iteF ?_
          obtain ⟨i0, rfl⟩ : ∃ i, x0 = .int i := by cases x0 <;> first | exact ⟨_, rfl⟩ | cases d0
          obtain ⟨i2, rfl⟩ : ∃ i, x2 = .int i := by cases x2 <;> first | exact ⟨_, rfl⟩ | cases d2
          refine ⟨_, rfl, _, rfl, rfl, _, rfl, ?_⟩
          have k' : Q (.bl (!decide ((.int i0 : V) = .int i2) && (inW x1 && inW x3))) H := k
          cases e : decide ((.int i0 : V) = .int i2) with
          | true => rw [e] at k'; exact iteF k'
          | false =>
            rw [e] at k'
            refine iteT ⟨_, rfl, aW, _, rfl, .inr (hW H), (inW_in x1 c1).2, rfl, _, rfl, ?_⟩
            show if inV x1 _ = true then _ else _
            rw [(inW_in x1 c1).1]
            have k'' : Q (.bl (inW x1 && inW x3)) H := k'
            cases e1 : inW x1 with
            | false => rw [e1] at k''; exact iteF k''
            | true =>
              rw [e1] at k''
              refine iteT ⟨_, rfl, aW, _, rfl, .inr (hW H), (inW_in x3 c3).2, rfl, ?_⟩
              show Q (.bl (inV x3 _)) H
              rw [(inW_in x3 c3).1]
              exact k''
end
end DL

set_option Elab.async false
set_option maxRecDepth 100000
namespace DL
open PySem L2
/-! ### bars of the heap -/
structure BarsAt (H : Hp) (t : Addr) (ks : List (Addr × Bar)) : Prop where
  tu : H t = some (.tup (ks.map fun k => V.ref k.1))
  el : ∀ k ∈ ks, H k.1 = some (.tup k.2.vs)
theorem BarsAt.same {H H' : Hp} {t : Addr} {ks : List (Addr × Bar)} (B : BarsAt H t ks) (s : Same H H') : BarsAt H' t ks := ⟨s _ _ B.tu, fun k hk => s _ _ (B.el k hk)⟩
def Bar.ok (n : Int) (b : Bar) : Prop := 0 ≤ b.d ∧ b.d < n ∧ 0 ≤ b.o ∧ b.o < n ∧ b.d ≠ b.o
theorem Bar.ok.low {n : Int} {b : Bar} (h : b.ok n) (hn : n ≤ 7) : b.low := by
  obtain ⟨h1, h2, h3, h4, _⟩ := h
  exact ⟨h1, by omega, h3, by omega⟩
structure OkBars (n : Int) (bs : List Bar) : Prop where
  ok : ∀ b ∈ bs, b.ok n
  asc : bs.Pairwise fun x y => x.code < y.code
theorem inW_wd (b : Bool) : inW (.str (wd b)) = true := by revert b; decide +kernel
theorem barB_ok {n : Int} {b : Bar} (h : b.ok n) : barB n (.int b.d) (.str (wd b.w)) (.int b.o) (.str (wd b.t)) = true := by
  obtain ⟨h1, h2, h3, h4, h5⟩ := h
  unfold barB
  rw [inW_wd, inW_wd]
  show ((decide (0 ≤ b.d) && decide (b.d < n)) && ((decide (0 ≤ b.o) && decide (b.o < n)) && (!decide ((.int b.d : V) = .int b.o) && true))) = true
  have e : decide ((.int b.d : V) = .int b.o) = false := decide_eq_false fun q => h5 (by injection q)
  rw [decide_eq_true h1, decide_eq_true h2, decide_eq_true h3, decide_eq_true h4, e]
  rfl
theorem spIsBar_ok {K : PySem.W.Frag} {n : Int} {a : Addr} {b : Bar} {H : Hp} {Q : VK} {E : XK} (h : b.ok n) (ha : SqT K H a b.vs) (k : Q (.bl true) H) : spIsBar K [.int n, .ref a] H Q E :=
  ⟨⟨n, .inr (.inr ⟨a, _, _, _, _, rfl, ha, rfl, rfl, rfl, rfl, by rw [barB_ok h]; exact k⟩)⟩⟩
theorem SqT.of' {K : PySem.W.Frag} {H : Hp} {a : Addr} {xs : List V} (h : H a = some (.tup xs)) : SqT K H a xs := .inl (.inl h)
theorem same_upd {H : Hp} {p : Addr} {o : HO} (h : H p = none) : Same H (upd H p o) := fun b u e => by rw [upd_ne (ne_of_none e h)]; exact e
theorem at_prev {α : Type} {xs : List α} {i : Nat} {v : α} (h0 : 0 < i) (h : xs[i - 1]? = some v) : atI xs ((i : Int) - 1) = some v := by
  have e : (i : Int) - 1 = ((i - 1 : Nat) : Int) := by omega
  rw [e]
  exact atI_nat h
theorem pw_prev {bs : List Bar} (h : bs.Pairwise fun x y => x.code < y.code) {i : Nat} (h0 : 0 < i) {x y : Bar} (hx : bs[i - 1]? = some x) (hy : bs[i]? = some y) : x.code < y.code := by
  obtain ⟨l1, e1⟩ := List.getElem?_eq_some_iff.mp hx
  obtain ⟨l2, e2⟩ := List.getElem?_eq_some_iff.mp hy
  have := List.pairwise_iff_getElem.mp h (i - 1) i l1 l2 (by omega)
  rw [e1, e2] at this
  exact this
theorem not_leq {n : Int} {x y : Bar} (hn : n ≤ 7) (hx : x.ok n) (hy : y.ok n) (h : x.code < y.code) : y.leq x = false := by
  rw [Bar.leq_code (hy.low hn) (hx.low hn)]
  exact decide_eq_false (by omega)
/-! ### check_drawers, check_bars, __init__ of what is right -/
structure spCheckDrawers (vs : List V) (H : Hp) (Q : VK) (_ : XK) : Prop where
  h : ∃ n : Int, vs = [.int n] ∧ 1 ≤ n ∧ n ≤ 7 ∧ Q .non H
structure spCheckBars (vs : List V) (H : Hp) (Q : VK) (_ : XK) : Prop where
  h : ∃ (n : Int) (t : Addr) (ks : List (Addr × Bar)), vs = [.int n, .ref t] ∧ n ≤ 7 ∧ BarsAt H t ks ∧ OkBars n (ks.map (·.2)) ∧ ∀ H', Same H H' → Q .non H'
theorem kd_ : ¬ (("_drawers" : Str) = "_bars") := by decide +kernel
def cfl (n : Int) (t : Addr) : List (Str × V) := putF "_bars" (.ref t) (putF "_drawers" (.int n) [])
theorem cfl_d (n : Int) (t : Addr) : (cfl n t).lookup ("_drawers" : Str) = some (.int n) := by
  unfold cfl
  rw [lookup_putF, if_neg kd_, lookup_putF, if_pos rfl]
theorem cfl_b (n : Int) (t : Addr) : (cfl n t).lookup ("_bars" : Str) = some (.ref t) := by
  unfold cfl
  rw [lookup_putF, if_pos rfl]
/-- a Cabinet stands at c -/
def CabAt (C : Addr) (H : Hp) (c : Addr) (n : Int) (t : Addr) : Prop := ∃ dx, H c = some (.ins C dx (cfl n t))
structure spInit (C : Addr) (vs : List V) (H : Hp) (Q : VK) (_ : XK) : Prop where
  h : ∃ (p dx : Addr) (n : Int) (t : Addr) (ks : List (Addr × Bar)), vs = [.ref p, .int n, .ref t] ∧ H p = some (.ins C dx []) ∧ 1 ≤ n ∧ n ≤ 7 ∧ BarsAt H t ks ∧ OkBars n (ks.map (·.2)) ∧
    ∀ H', H' p = some (.ins C dx (cfl n t)) → (∀ b o, b ≠ p → H b = some o → H' b = some o) → Q .non H'
/-- the class -/
structure CabT (K : PySem.W.Frag) (mg : Str → Option Value) (C : Addr) : Prop where
  cl : Cls K C
  nD : NoAttr K C "_drawers"
  nB : NoAttr K C "_bars"
  mgC : mg "Cabinet" = some (.ref C)
section
variable {P : Program} {w : World} {K : PySem.W.Frag} {mg : Str → Option Value} {base : Heap}
theorem scCheckDrawers : FnScope ["drawers"] ["drawers"] (defScope sCheckDrawers) := ⟨rfl, rfl, rfl, by decide +kernel, rfl, by decide +kernel, by decide +kernel⟩
theorem ok_checkDrawers {f f1 : Addr} {fd fd1 : FuncData} (F : Fun K "check_drawers" "check_drawers" sCheckDrawers f fd) (G : FnOk P w K mg base CX0 2 f1 fd1 ["value"] (spIsCount K)) (g1 : mg "is_drawer_count" = some (.ref f1)) (k1 : PySem.W.keepIn K (.ref f1) = true) (b1 : Binds K fd1 ["value"] []) :
    FnOk P w K mg base CX0 3 f fd ["drawers"] spCheckDrawers := by
  refine F.ok scCheckDrawers (fun vs H Q E h => ?_) (fun cdv A outer s H vs Q E hr h => ?_)
  · obtain ⟨n, rfl, _⟩ := h.h
    rfl
  · obtain ⟨n, rfl, h1, h2, k⟩ := h.h
    refine ⟨_, pss_one (ps_if (pt_not (pt_val (pe_call G (hr.mono (by decide)) rfl g1 k1 b1 .nil pass0 (pa_cons (pv 0) pa_nil)))) (pss_one ps_never) pss_nil), ?_⟩
    refine ⟨_, rfl, ⟨.inl ⟨n, rfl, _, rfl, ?_⟩⟩⟩
    rw [decide_eq_true h1, decide_eq_true h2]
    exact iteF k
theorem scCheckBars : FnScope ["drawers", "bars", "index", "bar"] ["drawers", "bars"] (defScope sCheckBars) := ⟨rfl, rfl, rfl, by decide +kernel, rfl, by decide +kernel, by decide +kernel⟩
theorem ok_checkBars {f f1 : Addr} {fd fd1 : FuncData} (F : Fun K "check_bars" "check_bars" sCheckBars f fd) (T : Bt mg) (G : FnOk P w K mg base CX0 3 f1 fd1 ["drawers", "value"] (spIsBar K)) (g1 : mg "is_bar" = some (.ref f1)) (k1 : PySem.W.keepIn K (.ref f1) = true) (b1 : Binds K fd1 ["drawers", "value"] []) :
    FnOk P w K mg base CX0 4 f fd ["drawers", "bars"] spCheckBars := by
  refine F.ok scCheckBars (fun vs H Q E h => ?_) (fun cdv A outer s H vs Q E hr h => ?_)
  · obtain ⟨n, t, ks, rfl, _⟩ := h.h
    rfl
  · obtain ⟨n, t, ks, rfl, hn, B, O, k⟩ := h.h
    have hu : _ < cLine := hr.units0
    refine ⟨_, pss_cons (ps_if (pt_not (pt_val (pe_callB call_isi (by rfl) T.isinstance (by decide +kernel) (pa_cons (pv 1) (pa_cons (pe_bltn (v := .ty "tuple") (by rfl) T.tuple (by decide +kernel) rfl) pa_nil))))) (pss_one ps_never) pss_nil)
      (pss_one (ps_for PassesOwn.never rfl (pi_enumT (by rfl) T.enumerate (pa_cons (pv 1) pa_nil)) (pg_tup (by rfl) (pgs_cons (pg_name (i := 2) scCheckBars.nd rfl (.inl rfl)) (pgs_cons (pg_name (i := 3) scCheckBars.nd rfl (.inl rfl)) pgs_nil)))
        (pss_cons (ps_if (pt_not (pt_val (pe_call G (hr.mono (by decide)) rfl g1 k1 b1 .nil pass0 (pa_cons (pv 0) (pa_cons (pv 3) pa_nil))))) (pss_one ps_never) pss_nil)
        (pss_one (ps_if (PW.pt (pw_and (pt_cmpR op_gt (pv 2) pe_int (nomark _)) (pw_and1 (pt_cmpR (op_leB hu) (pv 3) (pe_ix ix_tup (pv 1) (pe_op op_sub (pv 2) pe_int) (fun _ _ => rfl)) (nomark _))))) (pss_one ps_never) pss_nil))))), ?_⟩
    refine ⟨_, rfl, _, _, _, _, true, rfl, .ty "tuple", tyT (SqT.of' B.tu), kit_ty (by decide +kernel), _, rfl, iteF ?_⟩
    refine ⟨_, rfl, t, _, rfl, SqT.of' B.tu, ?_⟩
    refine for_it walk_enumT (fun i σ H' => ∃ v2 v3, σ = [some (.int n), some (.ref t), v2, v3] ∧ Same H H') ⟨_, _, rfl, Same.refl H⟩ (fun i σ H' _ ⟨_, _, _, s1⟩ => SqT.of' (s1 _ _ B.tu)) ?_ ?_
    · rintro i x σ H1 H2 hi ⟨v2, v3, rfl, s1⟩ ⟨T, x1, x2, rfl, hT, rfl, e1, e2⟩
      have e1' : V.int (i : Nat) = x1 := Option.some.inj e1
      subst e1'
      have e2 : (ks.map fun k => V.ref k.1)[i]? = some x2 := e2
      rw [List.getElem?_map] at e2
      cases ek : ks[i]? with
      | none => rw [ek] at e2; cases e2
      | some kk =>
        rw [ek] at e2
        have e2' : V.ref kk.1 = x2 := Option.some.inj e2
        subst e2'
        have s2 : Same H (upd H1 T (.tup [.int (i : Nat), .ref kk.1])) := s1.trans (same_upd hT)
        have hm : kk ∈ ks := List.mem_of_getElem? ek
        have hok : kk.2.ok n := O.ok _ (List.mem_map.mpr ⟨kk, hm, rfl⟩)
        refine ⟨T, _, rfl, SqT.of' upd_same, rfl, _, _, rfl, _, _, rfl, rfl, ?_⟩
        refine ⟨_, rfl, _, rfl, spIsBar_ok hok (SqT.of' (s2 _ _ (B.el kk hm))) ⟨_, rfl, iteF ?_⟩⟩
        refine ⟨_, rfl, _, _, rfl, rfl, _, rfl, ?_⟩
        refine ite2 (fun z => ?_) (fun z => iteF ⟨_, _, rfl, s2⟩)
        have h0 : 0 < i := by have := of_decide_eq_true z; omega
        obtain ⟨kp, ep⟩ : ∃ kp, ks[i - 1]? = some kp := by
          have := (List.getElem?_eq_some_iff.mp ek).1
          exact ⟨ks[i - 1]'(by omega), List.getElem?_eq_getElem (by omega)⟩
        have hmp : kp ∈ ks := List.mem_of_getElem? ep
        have hokp : kp.2.ok n := O.ok _ (List.mem_map.mpr ⟨kp, hmp, rfl⟩)
        refine ⟨_, rfl, _, rfl, _, rfl, _, _, rfl, rfl, t, _, _, .ref kp.1, rfl, rfl, SqT.of' (s2 _ _ B.tu), at_prev h0 (by rw [List.getElem?_map, ep]; rfl), ?_⟩
        refine ⟨kk.1, kp.1, kk.2, kp.2, rfl, rfl, SqT.of' (s2 _ _ (B.el kk hm)), SqT.of' (s2 _ _ (B.el kp hmp)), _, rfl, ?_⟩
        have hlt : kp.2.code < kk.2.code := pw_prev O.asc h0 (by rw [List.getElem?_map, ep]; rfl) (by rw [List.getElem?_map, ek]; rfl)
        rw [not_leq hn hokp hok hlt]
        exact iteF ⟨_, _, rfl, s2⟩
    · rintro σ H' ⟨v2, v3, rfl, s1⟩
      exact k H' s1
theorem scInit : FnScope ["self", "drawers", "bars"] ["self", "drawers", "bars"] (defScope sInit) := ⟨rfl, rfl, rfl, by decide +kernel, rfl, by decide +kernel, by decide +kernel⟩
theorem ok_init {f f1 f2 C : Addr} {fd fd1 fd2 : FuncData} (F : Fun K "__init__" "Cabinet.__init__" sInit f fd) (T : CabT K mg C) (G1 : FnOk P w K mg base CX0 3 f1 fd1 ["drawers"] spCheckDrawers) (g1 : mg "check_drawers" = some (.ref f1)) (k1 : PySem.W.keepIn K (.ref f1) = true) (b1 : Binds K fd1 ["drawers"] [])
    (G2 : FnOk P w K mg base CX0 4 f2 fd2 ["drawers", "bars"] spCheckBars) (g2 : mg "check_bars" = some (.ref f2)) (k2 : PySem.W.keepIn K (.ref f2) = true) (b2 : Binds K fd2 ["drawers", "bars"] []) : FnOk P w K mg base CX0 5 f fd ["self", "drawers", "bars"] (spInit C) := by
  refine F.ok scInit (fun vs H Q E h => ?_) (fun cdv A outer s H vs Q E hr h => ?_)
  · obtain ⟨p, dx, n, t, ks, rfl, _⟩ := h.h
    rfl
  · obtain ⟨p, dx, n, t, ks, rfl, hp, h1, h7, B, O, k⟩ := h.h
    refine ⟨_, pss_cons (ps_expr (pe_call G1 (hr.mono (by decide)) rfl g1 k1 b1 .nil pass0 (pa_cons (pv 1) pa_nil))) (pss_cons (ps_expr (pe_call G2 (hr.mono (by decide)) rfl g2 k2 b2 .nil pass0 (pa_cons (pv 1) (pa_cons (pv 2) pa_nil))))
      (pss_cons (ps_fld (pv 0) (pv 1) rfl) (pss_one (ps_fld (pv 0) (pv 2) rfl)))), ?_⟩
    refine ⟨_, rfl, ⟨n, rfl, h1, h7, ?_⟩⟩
    refine ⟨_, rfl, _, rfl, ⟨n, t, ks, rfl, h7, B, O, fun H1 s1 => ?_⟩⟩
    refine ⟨_, rfl, _, rfl, p, C, dx, _, rfl, s1 _ _ hp, T.cl, T.nD, (by show 0 < 1000; decide), _, rfl, _, rfl, p, C, dx, _, rfl, upd_same, T.cl, T.nB, (by show 1 < 1000; decide), ?_⟩
    refine k _ upd_same fun b o hb e => ?_
    rw [upd_ne hb, upd_ne hb]
    exact s1 _ _ e
end
end DL

set_option Elab.async false
set_option maxRecDepth 100000
namespace DL
open PySem L2
/-! ### drawing: the row of draws stands at r, the script at sc -/
def But (r : Addr) (H H' : Hp) : Prop := ∀ b o, b ≠ r → H b = some o → H' b = some o
theorem But.refl (r : Addr) (H : Hp) : But r H H := fun _ _ _ h => h
theorem But.trans {r : Addr} {H H1 H2 : Hp} (a : But r H H1) (b : But r H1 H2) : But r H H2 := fun c o hc h => b c o hc (a c o hc h)
theorem sbut {r : Addr} {H H' : Hp} (s : Same H H') : But r H H' := fun c o _ h => s c o h
theorem but_upd {r : Addr} {H : Hp} {o : HO} : But r H (upd H r o) := fun c u hc h => by rw [upd_ne hc]; exact h
theorem But.seq {K : PySem.W.Frag} {r : Addr} {H H' : Hp} {a : Addr} {xs : List V} (s : But r H H') (ha : a ≠ r) (h : SqL K H a xs) : SqL K H' a xs := by
  rcases h with (h | ⟨o, h⟩) | h
  · exact .inl (.inl (s _ _ ha h))
  · exact .inl (.inr ⟨o, s _ _ ha h⟩)
  · exact .inr h
theorem But.tup {r : Addr} {H H' : Hp} {a : Addr} {xs : List V} {ys : List V} (s : But r H H') (hr : H r = some (.lst ys)) (h : H a = some (.tup xs)) : H' a = some (.tup xs) :=
  s _ _ (ne_of h hr (by intro z; cases z)) h
structure RowOk (H : Hp) (r sc : Addr) : Prop where
  h : ∃ i m e : Int, H r = some (.lst [.ref sc, .int i, .int m, .int e]) ∧ 0 ≤ i ∧ 0 ≤ m ∧ m < 2147483647 ∧ 0 ≤ e
theorem RowOk.same {H H' : Hp} {r sc : Addr} (R : RowOk H r sc) (s : Same H H') : RowOk H' r sc := by
  obtain ⟨i, m, e, h, q⟩ := R.h
  exact ⟨⟨i, m, e, s _ _ h, q⟩⟩
theorem But.seqR {K : PySem.W.Frag} {r sc : Addr} {H H' : Hp} {a : Addr} {ns : List Int} (s : But r H H') (R : RowOk H r sc) (h : SqL K H a (ns.map V.int)) : SqL K H' a (ns.map V.int) := by
  obtain ⟨i, m, e, hR, _⟩ := R.h
  have nd : ∀ u : HO, H a = some u → u ≠ .lst [.ref sc, .int i, .int m, .int e] → a ≠ r := fun u hu hn z => by
    rw [z, hR] at hu
    exact hn (Option.some.inj hu).symm
  rcases h with (h | ⟨o, h⟩) | h
  · refine .inl (.inl (s _ _ (nd _ h fun z => ?_) h))
    injection z with z
    cases ns with
    | nil => cases z
    | cons n ns => injection z with z _; cases z
  · exact .inl (.inr ⟨o, s _ _ (nd _ h fun z => by cases z) h⟩)
  · exact .inr h
structure spTaken (K : PySem.W.Frag) (vs : List V) (H : Hp) (Q : VK) (_ : XK) : Prop where
  h : ∃ (r sc : Addr) (ns : List Int) (many : Int), vs = [.ref r, .int many] ∧ RowOk H r sc ∧ SqL K H sc (ns.map V.int) ∧ 1 ≤ many ∧ many ≤ 1000 ∧
    ∀ (v : Int) (H' : Hp), 0 ≤ v → v < many → RowOk H' r sc → But r H H' → Q (.int v) H'
section
variable {P : Program} {w : World} {K : PySem.W.Frag} {mg : Str → Option Value} {base : Heap}
theorem scTaken : FnScope ["_law_row", "_law_many", "_law_found", "_law_cell"] ["_law_row", "_law_many"] (defScope sTaken) := ⟨rfl, rfl, rfl, by decide +kernel, rfl, by decide +kernel, by decide +kernel⟩
theorem ok_taken {f : Addr} {fd : FuncData} (F : Fun K "_law_taken" "_law_taken" sTaken f fd) (T : Bt mg) : FnOk P w K mg base CX0 1 f fd ["_law_row", "_law_many"] (spTaken K) := by
  refine F.ok scTaken (fun vs H Q E h => ?_) (fun cdv A outer s H vs Q E hr h => ?_)
  · obtain ⟨r, sc, ns, many, rfl, _⟩ := h.h
    rfl
  · obtain ⟨r, sc, ns, many, rfl, R, S, h1, h2, k⟩ := h.h
    obtain ⟨i, m, e, hR, hi, hm0, hm, he⟩ := R.h
    have dv : CDivW e many := wide_div (b := 10) (by omega) (by omega) (by decide) (by decide)
    refine ⟨_, pss_cons (ps_if (pt_cmpR op_gt (pe_ix ix_list (pv 0) pe_int (fun _ _ => rfl)) pe_int (nomark _))
        (pss_cons (ps_set (i := 2) scTaken.nd rfl (.inl rfl) (pe_op op_mod (pe_callTy call_int1 (by rfl) T.int (by decide +kernel) (pa_cons (pe_ix ix_list (pv 0) pe_int (fun _ _ => rfl)) pa_nil)) (pv 1)))
        (pss_cons (ps_asg (pe_op op_fdivW (pe_ix ix_list (pv 0) pe_int (fun _ _ => rfl)) (pv 1)) (pg_sub (pv 0) pe_int set_list))
        (pss_one (ps_ret (pv 2))))) pss_nil)
      (pss_cons (ps_asg (pe_op op_add (pe_ix ix_list (pv 0) pe_int (fun _ _ => rfl)) pe_int) (pg_sub (pv 0) pe_int set_list))
      (pss_cons (ps_if (pt_cmpR op_gt (pe_ix ix_list (pv 0) pe_int (fun _ _ => rfl)) (pe_callB call_len_seq (by rfl) T.len PySem.boot_len (pa_cons (pe_ix ix_list (pv 0) pe_int (fun _ _ => rfl)) pa_nil)) (nomark _))
        (pss_cons (ps_asg (pe_op op_mod (pe_callTy call_int1 (by rfl) T.int (by decide +kernel) (pa_cons (pe_op op_add (pe_op op_mul (pe_ix ix_list (pv 0) pe_int (fun _ _ => rfl)) pe_int) pe_int) pa_nil)) pe_int) (pg_sub (pv 0) pe_int set_list))
        (pss_one (ps_ret (pe_op op_mod (pe_callTy call_int1 (by rfl) T.int (by decide +kernel) (pa_cons (pe_op op_fdiv (pe_ix ix_list (pv 0) pe_int (fun _ _ => rfl)) pe_int) pa_nil)) (pv 1))))) pss_nil)
      (pss_cons (ps_set (i := 3) scTaken.nd rfl (.inl rfl) (pe_ix ix_list (pe_ix ix_list (pv 0) pe_int (fun _ _ => rfl)) (pe_op op_sub (pe_ix ix_list (pv 0) pe_int (fun _ _ => rfl)) pe_int) (fun _ _ => rfl)))
      (pss_cons (ps_asg (pe_op op_mod (pe_callTy call_int1 (by rfl) T.int (by decide +kernel) (pa_cons (pe_op op_add (pe_op op_add (pe_op op_mul (pe_ix ix_list (pv 0) pe_int (fun _ _ => rfl)) pe_int) (pv 3)) pe_int) pa_nil)) pe_int) (pg_sub (pv 0) pe_int set_list))
      (pss_cons (ps_if (pt_cmpR op_ge (pv 3) (pe_op op_pow pe_int pe_int) (nomark _)) (pss_one (ps_asg (pe_op op_fdivW (pv 3) (pv 1)) (pg_sub (pv 0) pe_int set_list))) pss_nil)
      (pss_one (ps_ret (pe_op op_mod (pe_callTy call_int1 (by rfl) T.int (by decide +kernel) (pa_cons (pv 3) pa_nil)) (pv 1))))))))), ?_⟩
    refine ⟨_, rfl, r, _, _, .int e, rfl, rfl, SqL.of hR, rfl, _, _, rfl, rfl, _, rfl, ?_⟩
    refine ite2 (fun z => ?_) (fun _ => ?_)
    · refine ⟨_, rfl, r, _, _, .int e, rfl, rfl, SqL.of hR, rfl, .inl ⟨_, rfl, _, rfl, _, _, rfl, rfl, (by omega), ?_⟩⟩
      refine ⟨_, rfl, r, _, _, .int e, rfl, rfl, SqL.of hR, rfl, _, rfl, _, _, rfl, rfl, dv, ?_⟩
      refine ⟨_, rfl, r, _, _, 3, rfl, rfl, hR, rfl, _, rfl, ?_⟩
      exact k _ _ (Int.emod_nonneg _ (by omega)) (Int.emod_lt_of_pos _ (by omega)) ⟨⟨i, m, e / many, upd_same, hi, hm0, hm, Int.ediv_nonneg he (by omega)⟩⟩ but_upd
    · refine ⟨_, rfl, r, _, _, .int i, rfl, rfl, SqL.of hR, rfl, _, _, rfl, rfl, ?_⟩
      refine ⟨_, rfl, r, _, _, 1, rfl, rfl, hR, rfl, ?_⟩
      have S1 : SqL K (upd H r (.lst [.ref sc, .int (i + 1), .int m, .int e])) sc (ns.map V.int) := but_upd.seqR R S
      refine ⟨_, rfl, r, _, _, .int (i + 1), rfl, rfl, SqL.of upd_same, rfl, ?_⟩
      refine ⟨_, rfl, r, _, _, .ref sc, rfl, rfl, SqL.of upd_same, rfl, sc, _, rfl, .inl S1, _, _, rfl, rfl, _, rfl, ?_⟩
      refine ite2 (fun z => ?_) (fun z => ?_)
      · refine ⟨_, rfl, r, _, _, .int m, rfl, rfl, SqL.of upd_same, rfl, _, _, rfl, rfl, .inl ⟨by omega, by omega⟩, _, _, rfl, rfl, .inl ⟨_, rfl, _, _, rfl, rfl, (by show (0 : Int) < 2147483647; decide), ?_⟩⟩
        refine ⟨_, rfl, r, _, _, 2, rfl, rfl, upd_same, rfl, ?_⟩
        refine ⟨_, rfl, r, _, _, .int ((m * 48271 + 11) % 2147483647), rfl, rfl, SqL.of upd_same, rfl, _, _, rfl, rfl, ⟨by decide, by decide⟩, .inl ⟨_, rfl, _, rfl, _, _, rfl, rfl, (by omega), ?_⟩⟩
        refine k _ _ (Int.emod_nonneg _ (by omega)) (Int.emod_lt_of_pos _ (by omega)) ⟨⟨i + 1, (m * 48271 + 11) % 2147483647, e, upd_same, by omega, Int.emod_nonneg _ (by decide), Int.emod_lt_of_pos _ (by decide), he⟩⟩ (but_upd.trans but_upd)
      · have hlt : i < ns.length := by
          have := of_decide_eq_false (by simpa using z : decide ((ns.map V.int).length < i + 1) = false)
          rw [List.length_map] at this
          omega
        have hc : ∃ c, ns[i.toNat]? = some c := ⟨ns[i.toNat]'(by omega), List.getElem?_eq_getElem (by omega)⟩
        obtain ⟨c, hc⟩ := hc
        have hat : atI (ns.map V.int) ((i + 1) - 1) = some (.int c) := by
          have e1 : (i + 1) - 1 = ((i.toNat : Nat) : Int) := by omega
          rw [e1]
          exact atI_nat (by rw [List.getElem?_map, hc]; rfl)
        refine ⟨_, rfl, r, _, _, .ref sc, rfl, rfl, SqL.of upd_same, rfl, _, rfl, r, _, _, .int (i + 1), rfl, rfl, SqL.of upd_same, rfl, _, _, rfl, rfl, sc, _, _, .int c, rfl, rfl, S1, hat, ?_⟩
        refine ⟨_, rfl, r, _, _, .int m, rfl, rfl, SqL.of upd_same, rfl, _, _, rfl, rfl, .inl ⟨by omega, by omega⟩, _, rfl, _, _, rfl, rfl, _, _, rfl, rfl, .inl ⟨_, rfl, _, _, rfl, rfl, (by show (0 : Int) < 2147483647; decide), ?_⟩⟩
        refine ⟨_, rfl, r, _, _, 2, rfl, rfl, upd_same, rfl, ?_⟩
        refine ⟨_, rfl, _, _, rfl, rfl, ⟨by decide, by decide, by decide⟩, _, _, rfl, rfl, _, rfl, ?_⟩
        have m1 := Int.emod_nonneg (m * 48271 + c + 11) (show (2147483647 : Int) ≠ 0 by decide)
        have m2 := Int.emod_lt_of_pos (m * 48271 + c + 11) (show (0 : Int) < 2147483647 by decide)
        have v1 := Int.emod_nonneg c (show many ≠ 0 by omega)
        have v2 := Int.emod_lt_of_pos c (show 0 < many by omega)
        refine ite2 (fun z => ?_) (fun _ => ?_)
        · have hc0 : (10 : Int) ^ (18 : Int).toNat ≤ c := of_decide_eq_true z
          have hc1 : 0 ≤ c := by
            have : (0 : Int) ≤ (10 : Int) ^ (18 : Int).toNat := by decide
            omega
          refine ⟨_, rfl, _, rfl, _, _, rfl, rfl, wide_div (b := 10) (by omega) (by omega) (by decide) (by decide), ?_⟩
          refine ⟨_, rfl, r, _, _, 3, rfl, rfl, upd_same, rfl, ?_⟩
          refine ⟨_, rfl, .inl ⟨_, rfl, _, rfl, _, _, rfl, rfl, (by omega), ?_⟩⟩
          exact k _ _ v1 v2 ⟨⟨i + 1, _, c / many, upd_same, by omega, m1, m2, Int.ediv_nonneg hc1 (by omega)⟩⟩ ((but_upd.trans but_upd).trans but_upd)
        · refine ⟨_, rfl, .inl ⟨_, rfl, _, rfl, _, _, rfl, rfl, (by omega), ?_⟩⟩
          exact k _ _ v1 v2 ⟨⟨i + 1, _, e, upd_same, by omega, m1, m2, he⟩⟩ (but_upd.trans but_upd)
end
end DL

set_option Elab.async false
set_option maxRecDepth 100000
namespace DL
open PySem L2
theorem keys_put {kvs : List (List Key × V)} {bs : List Bar} {b : Bar} (v : V) (h : kvs.map (·.1) = bs.map Bar.key) (hn : bs.Nodup) :
    ∃ bs' : List Bar, (putK kvs b.key v).map (·.1) = bs'.map Bar.key ∧ bs'.Nodup ∧ (∀ x ∈ bs', x = b ∨ x ∈ bs) ∧ bs'.length ≤ bs.length + 1 := by
  unfold putK
  by_cases e : (kvs.any fun kv => decide (kv.1 = b.key)) = true
  · rw [if_pos e]
    refine ⟨bs, ?_, hn, fun x hx => .inr hx, Nat.le_succ _⟩
    rw [← h, List.map_map]
    refine List.map_congr_left fun kv _ => ?_
    show (if kv.1 = b.key then (kv.1, v) else kv).1 = kv.1
    by_cases q : kv.1 = b.key
    · rw [if_pos q]
    · rw [if_neg q]
  · rw [if_neg e]
    have hnot : b ∉ bs := fun hm => e (by
      rw [List.any_eq_true]
      have : b.key ∈ kvs.map (·.1) := by rw [h]; exact List.mem_map.mpr ⟨b, hm, rfl⟩
      obtain ⟨kv, hkv, q⟩ := List.mem_map.mp this
      exact ⟨kv, hkv, decide_eq_true q⟩)
    refine ⟨bs ++ [b], by rw [List.map_append, List.map_append, h]; rfl, ?_, fun x hx => ?_, by simp⟩
    · rw [List.nodup_append]
      refine ⟨hn, List.nodup_cons.mpr ⟨by simp, List.nodup_nil⟩, fun x hx y hy => ?_⟩
      rw [List.mem_singleton.mp hy]
      exact fun q => hnot (q ▸ hx)
    · rcases List.mem_append.mp hx with hx | hx
      · exact .inr hx
      · exact .inl (List.mem_singleton.mp hx)
theorem asc_of {n : Int} (hn : n ≤ 7) {xs bs : List Bar} (hp : xs.Perm bs) (hs : xs.Pairwise fun x y => x.code ≤ y.code) (hd : bs.Nodup) (ho : ∀ b ∈ bs, b.ok n) : OkBars n xs := by
  have hx : ∀ b ∈ xs, b.ok n := fun b hb => ho b (hp.mem_iff.mp hb)
  refine ⟨hx, ?_⟩
  have hd' : xs.Nodup := hp.nodup_iff.mpr hd
  have := hs.and hd'
  refine List.Pairwise.imp_of_mem (fun {a b} ha hb q => ?_) this
  obtain ⟨q1, q2⟩ := q
  rcases Int.lt_or_eq_of_le q1 with z | z
  · exact z
  · exact absurd (Bar.code_inj ((hx a ha).low hn) ((hx b hb).low hn) z) q2
structure spParts (K : PySem.W.Frag) (vs : List V) (H : Hp) (Q : VK) (_ : XK) : Prop where
  h : ∃ (r sc : Addr) (ns : List Int) (most : Int), vs = [.ref r, .int most] ∧ RowOk H r sc ∧ SqL K H sc (ns.map V.int) ∧ 1 ≤ most ∧ most ≤ 7 ∧
    ∀ (p t : Addr) (n : Int) (ks : List (Addr × Bar)) (H' : Hp), H p = none → H t = none → 1 ≤ n → n ≤ most → H' p = some (.lst [.int n, .ref t]) → BarsAt H' t ks → OkBars n (ks.map (·.2)) → ks.length ≤ 13 → RowOk H' r sc → But r H H' → Q (.ref p) H'
theorem three_at {v : Int} (h0 : 0 ≤ v) (h3 : v < 3) : ∃ c : Int, atI [V.int 3, V.int 6, V.int 14] v = some (.int c) ∧ 1 ≤ c ∧ c ≤ 14 := by
  have : v = 0 ∨ v = 1 ∨ v = 2 := by omega
  rcases this with rfl | rfl | rfl
  · exact ⟨3, rfl, by decide, by decide⟩
  · exact ⟨6, rfl, by decide, by decide⟩
  · exact ⟨14, rfl, by decide, by decide⟩
theorem two_at {v : Int} (h0 : 0 ≤ v) (h3 : v < 2) : ∃ c : Bool, atI [V.str "open", V.str "shut"] v = some (.str (wd c)) := by
  have : v = 0 ∨ v = 1 := by omega
  rcases this with rfl | rfl
  · exact ⟨false, rfl⟩
  · exact ⟨true, rfl⟩
section
variable {P : Program} {w : World} {K : PySem.W.Frag} {mg : Str → Option Value} {base : Heap}
theorem scParts : FnScope ["_law_row", "_law_most", "_law_many", "_law_found", "_law_k", "_law_drawer", "_law_other", "_law_way", "_law_stand"] ["_law_row", "_law_most"] (defScope sParts) := ⟨rfl, rfl, rfl, by decide +kernel, rfl, by decide +kernel, by decide +kernel⟩
theorem ok_parts {f f1 : Addr} {fd fd1 : FuncData} (F : Fun K "_law_parts" "_law_parts" sParts f fd) (T : Bt mg) (G : FnOk P w K mg base CX0 1 f1 fd1 ["_law_row", "_law_many"] (spTaken K)) (g1 : mg "_law_taken" = some (.ref f1)) (k1 : PySem.W.keepIn K (.ref f1) = true) (b1 : Binds K fd1 ["_law_row", "_law_many"] []) :
    FnOk P w K mg base CX0 2 f fd ["_law_row", "_law_most"] (spParts K) := by
  refine F.ok scParts (fun vs H Q E h => ?_) (fun cdv A outer s H vs Q E hr h => ?_)
  · obtain ⟨r, sc, ns, most, rfl, _⟩ := h.h
    rfl
  · obtain ⟨r, sc, ns, most, rfl, R, S, h1, h7, k⟩ := h.h
    have hu := hu_of hr
    obtain ⟨i0, m0, e0, hR0, _⟩ := id R.h
    refine ⟨_, pss_cons (ps_par (i := 2) (j := 3) (by rfl) scParts.nd rfl rfl (by decide) rfl rfl (pa_cons (pe_op op_add pe_int (pe_call G (hr.mono (by decide)) rfl g1 k1 b1 .nil pass0 (pa_cons (pv 0) (pa_cons (pv 1) pa_nil)))) (pa_cons pe_dnewT pa_nil)) (by rfl))
      (pss_cons (ps_for PassesOwn.never rfl (pi_range1 (by rfl) T.range (pa_cons (pe_call G (hr.mono (by decide)) rfl g1 k1 b1 .nil pass0 (pa_cons (pv 0) (pa_cons (pe_ix ix_list (pe_lst (pa_cons pe_int (pa_cons pe_int (pa_cons pe_int pa_nil)))) (pe_call G (hr.mono (by decide)) rfl g1 k1 b1 .nil pass0 (pa_cons (pv 0) (pa_cons pe_int pa_nil))) (fun _ _ => rfl)) pa_nil))) pa_nil)) (pg_name (i := 4) scParts.nd rfl (.inl rfl))
        (pss_cons (ps_par (i := 5) (j := 6) (by rfl) scParts.nd rfl rfl (by decide) rfl rfl (pa_cons (pe_call G (hr.mono (by decide)) rfl g1 k1 b1 .nil pass0 (pa_cons (pv 0) (pa_cons (pv 2) pa_nil))) (pa_cons (pe_call G (hr.mono (by decide)) rfl g1 k1 b1 .nil pass0 (pa_cons (pv 0) (pa_cons (pv 2) pa_nil))) pa_nil)) (by rfl))
        (pss_one (ps_if (pt_cmpR op_ne (pv 5) (pv 6) (nomark _))
          (pss_cons (ps_par (i := 7) (j := 8) (by rfl) scParts.nd rfl rfl (by decide) rfl rfl (pa_cons (pe_ix ix_list (pe_lst (pa_cons pe_str (pa_cons pe_str pa_nil))) (pe_op op_fdiv (pe_call G (hr.mono (by decide)) rfl g1 k1 b1 .nil pass0 (pa_cons (pv 0) (pa_cons pe_int pa_nil))) pe_int) (fun _ _ => rfl))
            (pa_cons (pe_ix ix_list (pe_lst (pa_cons pe_str (pa_cons pe_str pa_nil))) (pe_call G (hr.mono (by decide)) rfl g1 k1 b1 .nil pass0 (pa_cons (pv 0) (pa_cons pe_int pa_nil))) (fun _ _ => rfl)) pa_nil)) (by rfl))
          (pss_one (ps_dput hu (pv 3) (pe_tup (pa_cons (pv 5) (pa_cons (pv 7) (pa_cons (pv 6) (pa_cons (pv 8) pa_nil))))) pe_bl rfl))) pss_nil))))
      (pss_one (ps_ret (pe_lst (pa_cons (pv 2) (pa_cons (pe_callTy call_tuple_of (by rfl) T.tuple (by decide +kernel) (pa_cons (pe_callB (cr_sortB (by rfl)) (by rfl) T.sorted (by decide +kernel) (pa_cons (pv 3) pa_nil)) pa_nil)) pa_nil)))))), ?_⟩
    -- many, found
    refine ⟨_, rfl, _, rfl, ⟨⟨r, sc, ns, most, rfl, R, S, h1, by omega, fun v H1 v0 v1 R1 B1 => ?_⟩⟩⟩
    refine ⟨_, _, rfl, rfl, fun d hd => ⟨_, _, rfl, ?_⟩⟩
    obtain ⟨i1, m1, e1, hR1, _⟩ := id R1.h
    have ndr : d ≠ r := (ne_of_none hR1 hd).symm
    have hd0 : H d = none := by
      cases q : H d with
      | none => rfl
      | some o =>
        rw [B1 d o ndr q] at hd
        cases hd
    have R2 : RowOk (upd H1 d (.dT [])) r sc := R1.same (same_upd hd)
    have B2 : But r H (upd H1 d (.dT [])) := B1.trans (sbut (same_upd hd))
    -- range(..)
    refine ⟨_, rfl, (by show 3 ≤ sizeLine; decide), fun l hl => ?_⟩
    have nlr : l ≠ r := by
      obtain ⟨_, _, _, q, _⟩ := id R2.h
      exact (ne_of_none q hl).symm
    have R3 := R2.same (same_upd (o := .lst [V.int 3, V.int 6, V.int 14]) hl)
    have B3 : But r H _ := B2.trans (sbut (same_upd (o := .lst [V.int 3, V.int 6, V.int 14]) hl))
    refine ⟨_, rfl, ⟨⟨r, sc, ns, 3, rfl, R3, B3.seqR R S, by decide, by decide, fun v2 H3 w0 w1 R4 B4 => ?_⟩⟩⟩
    obtain ⟨c, hc, c1, c14⟩ := three_at w0 w1
    refine ⟨l, _, v2, .int c, rfl, rfl, SqL.of (B4 _ _ nlr upd_same), hc, ?_⟩
    have B5 : But r H H3 := B3.trans B4
    refine ⟨⟨r, sc, ns, c, rfl, R4, B5.seqR R S, c1, by omega, fun v3 H4 x0 x1 R5 B6 => ?_⟩⟩
    refine ⟨v3, rfl, by omega, by omega, ?_⟩
    have B7 : But r H H4 := B5.trans B6
    have hd4 : H4 d = some (.dT []) := B6 _ _ ndr (B4 _ _ ndr (by rw [upd_ne (ne_of_none (upd_same (H := H1) (a := d)) hl)]; exact upd_same))
    refine for_range (lo := 0) (n := v3.toNat) (fun i σ H5 => ∃ (kvs : List (List Key × V)) (bs : List Bar) (u4 u5 u6 u7 u8 : Option V), σ = [some (.ref r), some (.int most), some (.int (1 + v)), some (.ref d), u4, u5, u6, u7, u8] ∧ H5 d = some (.dT kvs) ∧ kvs.map (·.1) = bs.map Bar.key ∧ bs.Nodup ∧ (∀ b ∈ bs, b.ok (1 + v)) ∧ bs.length ≤ i ∧ RowOk H5 r sc ∧ But r H H5)
      ⟨[], [], _, _, _, _, _, rfl, hd4, rfl, List.nodup_nil, fun b hb => by simp at hb, Nat.le_refl _, R5, B7⟩ ?_ ?_
    · rintro i σ H5 hi ⟨kvs, bs, u4, u5, u6, u7, u8, rfl, hD, hk, hnd, hok, hlen, R6, B8⟩
      refine ⟨_, rfl, _, rfl, ⟨⟨r, sc, ns, 1 + v, rfl, R6, B8.seqR R S, by omega, by omega, fun a H6 a0 a1 R7 B9 => ?_⟩⟩⟩
      refine ⟨_, rfl, _, rfl, ⟨⟨r, sc, ns, 1 + v, rfl, R7, (B8.trans B9).seqR R S, by omega, by omega, fun o H7 o0 o1 R8 B10 => ?_⟩⟩⟩
      have hD7 : H7 d = some (.dT kvs) := B10 _ _ ndr (B9 _ _ ndr hD)
      have B11 : But r H H7 := (B8.trans B9).trans B10
      refine ⟨_, _, rfl, _, rfl, _, rfl, rfl, _, rfl, ?_⟩
      refine ite2 (fun z => ?_) (fun _ => ?_)
      · have hao : a ≠ o := fun q => by subst q; simp at z
        refine ⟨(by show 2 ≤ sizeLine; decide), fun l1 hl1 => ?_⟩
        have R9 := R8.same (same_upd (o := .lst [V.str "open", V.str "shut"]) hl1)
        have nl1 : l1 ≠ r := by
          obtain ⟨_, _, _, q, _⟩ := id R8.h
          exact (ne_of_none q hl1).symm
        refine ⟨_, rfl, ⟨⟨r, sc, ns, 3, rfl, R9, (B11.trans (sbut (same_upd hl1))).seqR R S, by decide, by decide, fun y H8 y0 y1 R10 B12 => ?_⟩⟩⟩
        obtain ⟨cw, hcw⟩ := two_at (v := y / 2) (by omega) (by omega)
        refine ⟨_, _, rfl, rfl, ⟨by decide, by decide⟩, l1, _, _, _, rfl, rfl, SqL.of (B12 _ _ nl1 upd_same), hcw, ?_⟩
        refine ⟨(by show 2 ≤ sizeLine; decide), fun l2 hl2 => ?_⟩
        have R11 := R10.same (same_upd (o := .lst [V.str "open", V.str "shut"]) hl2)
        have nl2 : l2 ≠ r := by
          obtain ⟨_, _, _, q, _⟩ := id R10.h
          exact (ne_of_none q hl2).symm
        have B13 : But r H7 (upd H8 l2 (.lst [V.str "open", V.str "shut"])) := ((sbut (same_upd hl1)).trans B12).trans (sbut (same_upd hl2))
        refine ⟨_, rfl, ⟨⟨r, sc, ns, 2, rfl, R11, (B11.trans B13).seqR R S, by decide, by decide, fun y2 H9 z0 z1 R12 B14 => ?_⟩⟩⟩
        obtain ⟨ct, hct⟩ := two_at z0 z1
        refine ⟨l2, _, _, _, rfl, rfl, SqL.of (B14 _ _ nl2 upd_same), hct, ?_⟩
        have B15 : But r H7 H9 := B13.trans B14
        have hD9 : H9 d = some (.dT kvs) := B15 _ _ ndr hD7
        refine ⟨_, _, rfl, _, rfl, _, rfl, _, rfl, _, rfl, _, rfl, (by show 4 ≤ sizeLine; decide), fun q hq => ?_⟩
        have hlen2 : kvs.length = bs.length := by
          have := congrArg List.length hk
          rw [List.length_map, List.length_map] at this
          exact this
        refine ⟨d, _, rfl, DPut.t (k := (⟨a, cw, o, ct⟩ : Bar).key) (by rw [upd_ne (ne_of_none hD9 hq)]; exact hD9) upd_same (by rw [hlen2]; exact small1000 (by omega)), ?_⟩
        obtain ⟨bs', g1', g2', g3', g4'⟩ := keys_put (b := ⟨a, cw, o, ct⟩) (.bl true) hk hnd
        have nqr : q ≠ r := by
          obtain ⟨_, _, _, q', _⟩ := id R12.h
          exact (ne_of_none q' hq).symm
        refine ⟨_, bs', _, _, _, _, _, rfl, upd_same, g1', g2', fun b hb => ?_, by omega, ?_, ?_⟩
        · rcases g3' b hb with rfl | hb
          · exact ⟨a0, a1, o0, o1, hao⟩
          · exact hok b hb
        · obtain ⟨i', m', e', q1, q2⟩ := (R12.same (same_upd (o := .tup (⟨a, cw, o, ct⟩ : Bar).vs) hq)).h
          exact ⟨⟨i', m', e', by rw [upd_ne (Ne.symm ndr)]; exact q1, q2⟩⟩
        · refine fun c u hc hH => ?_
          have hcd : c ≠ d := fun z' => by rw [z', hd0] at hH; cases hH
          rw [upd_ne hcd]
          exact same_upd hq _ _ (B15 _ _ hc (B11 _ _ hc hH))
      · exact ⟨kvs, bs, _, _, _, _, _, rfl, hD7, hk, hnd, hok, by omega, R8, B11⟩
    · rintro σ H5 ⟨kvs, bs, u4, u5, u6, u7, u8, rfl, hD, hk, hnd, hok, hlen, R6, B8⟩
      refine ⟨_, rfl, _, rfl, d, kvs, bs, rfl, .inl hD, hk, fun b hb => (hok b hb).low (by omega), fun ks p g1' g2' g3' hp => ?_⟩
      refine ⟨p, _, rfl, .inl ⟨SqL.of upd_same, fun t ht => ?_⟩⟩
      refine ⟨(by show 2 ≤ sizeLine; decide), fun q hq => ?_⟩
      have sp : Same H5 (upd H5 p (.lst (ks.map fun k => V.ref k.1))) := same_upd hp
      have st : Same H5 (upd (upd H5 p (.lst (ks.map fun k => V.ref k.1))) t (.tup (ks.map fun k => V.ref k.1))) := sp.trans (same_upd ht)
      have sq : Same H5 _ := st.trans (same_upd (o := .lst [.int (1 + v), .ref t]) hq)
      obtain ⟨i', m', e', qR, _⟩ := id R6.h
      have nfree : ∀ {c : Addr}, H5 c = none → H c = none := fun {c} hc => by
        cases q' : H c with
        | none => rfl
        | some o =>
          have ncr : c ≠ r := fun z => by rw [z, qR] at hc; cases hc
          rw [B8 c o ncr q'] at hc
          cases hc
      refine k q t (1 + v) ks _ (nfree (st.free hq)) (nfree (sp.free ht)) (by omega) (by omega) upd_same ⟨by rw [upd_ne (ne_of_none upd_same hq)]; exact upd_same, fun kk hkk => sq _ _ (g1' kk hkk)⟩
        (asc_of (by omega) g2' g3' hnd hok) ?_ (R6.same sq) (B8.trans (sbut sq))
      have := g2'.length_eq
      rw [List.length_map] at this
      omega
/-! ### the cabinet of a draw -/
structure spMade (C : Addr) (vs : List V) (H : Hp) (Q : VK) (_ : XK) : Prop where
  h : ∃ (p t : Addr) (n : Int) (ks : List (Addr × Bar)) (zs : List V), vs = [.ref p] ∧ H p = some (.lst (.int n :: .ref t :: zs)) ∧ 1 ≤ n ∧ n ≤ 7 ∧ BarsAt H t ks ∧ OkBars n (ks.map (·.2)) ∧
    ∀ (c : Addr) (H' : Hp), H c = none → CabAt C H' c n t → Same H H' → Q (.ref c) H'
theorem scMade : FnScope ["_law_d"] ["_law_d"] (defScope sMade) := ⟨rfl, rfl, rfl, by decide +kernel, rfl, by decide +kernel, by decide +kernel⟩
theorem ok_made {f fI C : Addr} {fd fdI : FuncData} (F : Fun K "_law_made" "_law_made" sMade f fd) (T : CabT K mg C) (M : Mk K C fI) (G : FnOk P w K mg base CX0 5 fI fdI ["self", "drawers", "bars"] (spInit C)) (bI : Binds K fdI ["self", "drawers", "bars"] []) :
    FnOk P w K mg base CX0 7 f fd ["_law_d"] (spMade C) := by
  refine F.ok scMade (fun vs H Q E h => ?_) (fun cdv A outer s H vs Q E hr h => ?_)
  · obtain ⟨p, t, n, ks, zs, rfl, _⟩ := h.h
    rfl
  · obtain ⟨p, t, n, ks, zs, rfl, hp, h1, h7, B, O, k⟩ := h.h
    refine ⟨_, pss_one (ps_ret (pe_make M G hr rfl T.mgC bI .nil pass0 (pa_cons (pe_ix ix_list (pv 0) pe_int (fun _ _ => rfl)) (pa_cons (pe_ix ix_list (pv 0) pe_int (fun _ _ => rfl)) pa_nil)))), ?_⟩
    refine ⟨_, rfl, p, _, 0, .int n, rfl, rfl, SqL.of hp, atI_nat (j := 0) rfl, _, rfl, p, _, 1, .ref t, rfl, rfl, SqL.of hp, atI_nat (j := 1) rfl, ?_⟩
    intro x dx nx ndx nex
    have s0 : Same H (upd (upd H dx (.own x)) x (.ins C dx [])) := fun b o e => by
      rw [upd_ne (ne_of_none e nx), upd_ne (ne_of_none e ndx)]
      exact e
    refine ⟨⟨x, dx, n, t, ks, rfl, upd_same, h1, h7, B.same s0, O, fun H' hx kp => ⟨rfl, ?_⟩⟩⟩
    exact k x H' nx ⟨dx, hx⟩ fun b o e => kp b o (ne_of_none e nx) (s0 b o e)
end
end DL

set_option Elab.async false
set_option maxRecDepth 100000
namespace DL
open PySem L2
/-! ### rules with the written part named, for blocks within blocks -/
theorem cr_anyK {X : Cx} {K : PySem.W.Frag} (hK : X.K = K) (hc : X.calm = true) : CallR X (.builtin "any") (rAny K) := by subst hK; exact cr_any hc
theorem pi_tupK {X : Cx} {K : PySem.W.Frag} {tg l : Expr} {tl : TE} (hK : X.K = K) (hl : PE X l tl) : PI X tg l (iTup K tl) := by subst hK; exact pi_tup hl
theorem ix_listK {X : Cx} {K : PySem.W.Frag} (hK : X.K = K) : IxR X (rIxL K) := by subst hK; exact ix_list
theorem op_in_seqK {X : Cx} {K : PySem.W.Frag} (hK : X.K = K) : OpR X (compareOp .In) (rIn K false) := by subst hK; exact op_in_seq
theorem pe_bmK {X : Cx} {K : PySem.W.Frag} {T : String} {name : Str} {id : String} {r : V → List V → Hp → VK → Prop} {o e : Expr} {es : List Expr} {to : TE} {t : TA} {apos cpos : Pos} (hK : X.K = K) (pa : PlainAttrs T) (slot : Slot T name id) (hty : typeOf (.builtin id) = pure (.type "method_descriptor")) (hm : MtR X id r) (ho : PE X o to) (ha : PA X (e :: es) t)
    (hbase : attributeBase o name X.env (eval o X.env) = eval o X.env := by rfl)
    (hfew : ((backTo cpos (starEach (e :: es) X.env)).all (fun x => !x.1) && (backToKw cpos (keywordEach [] X.env)).all (fun x => x.1.isSome)
      && decide ((e :: es).length + ([] : List Keyword).length + (if ([] : List Keyword).isEmpty then 0 else 1) < 30)) = true := by rfl)
    (hline : (apos.endLine == cpos.line) = true := by rfl) (hs : starEach (e :: es) X.env = (false, eval e X.env) :: starEach es X.env := by rfl) (hplain : (backTo cpos (starEach es X.env)).any (·.1) = false := by rfl) :
    PE X (.Call (.Attribute o name apos) (e :: es) [] cpos) (tBM K T r to t) := by subst hK; exact pe_bm pa slot hty hm ho ha hbase hfew hline hs hplain
theorem boot_any_ : bootBuiltins ("any" : Str) = some (.builtin "any") := by decide +kernel
theorem boot_all_ : bootBuiltins ("all" : Str) = some (.builtin "all") := by decide +kernel
end DL

set_option Elab.async false
set_option maxRecDepth 100000
namespace DL
open PySem L2 HT TL
/-! ### standings: a truth value a drawer (true: open) -/
def sg (b : Bool) : Nat := if b = true then 111 else 115
def sgs (b : Bool) : Str := ⟨#[sg b]⟩
def sstr (st : List Bool) : Str := ⟨(st.map sg).toArray⟩
theorem sstr_tl (st : List Bool) : (sstr st).cps.toList = st.map sg := by simp [sstr]
theorem sstr_len (st : List Bool) : (sstr st).length = st.length := by
  show (sstr st).cps.size = st.length
  rw [← Array.length_toList, sstr_tl, List.length_map]
theorem sg_inj : ∀ {a b : Bool}, sg a = sg b → a = b := by decide
theorem sstr_inj {a b : List Bool} (h : sstr a = sstr b) : a = b := by
  have h1 : a.map sg = b.map sg := by rw [← sstr_tl, ← sstr_tl, h]
  have : ∀ {a b : List Bool}, a.map sg = b.map sg → a = b := by
    intro a
    induction a with
    | nil => intro b h; cases b with | nil => rfl | cons y b => simp at h
    | cons x a ih =>
      intro b h
      cases b with
      | nil => simp at h
      | cons y b =>
        rw [List.map_cons, List.map_cons] at h
        injection h with h1 h2
        rw [sg_inj h1, ih h2]
  exact this h1
def sat (st : List Bool) (i : Int) : Bool := st.getD i.toNat false
theorem sstr_at {st : List Bool} {i : Int} (h0 : 0 ≤ i) (h1 : i < st.length) : atI (sstr st).cps.toList i = some (sg (sat st i)) := by
  have e : i = ((i.toNat : Nat) : Int) := by omega
  have hl : i.toNat < st.length := by omega
  rw [e]
  refine atI_nat ?_
  rw [sstr_tl, List.getElem?_map]
  unfold sat
  rw [Int.toNat_natCast, List.getD_eq_getElem?_getD, List.getElem?_eq_getElem hl]
  rfl
def sgn (b : Bool) : Str := if b = true then "s" else "o"
theorem sgs_sgn (x b : Bool) : decide ((V.str ⟨#[sg x]⟩) = V.str (sgn b)) = (x != b) := by revert x b; decide +kernel
theorem sgs_o (x : Bool) : decide ((V.str ⟨#[sg x]⟩) = V.str "o") = x := by revert x; decide +kernel
theorem sgs_s (x : Bool) : decide ((V.str ⟨#[sg x]⟩) = V.str "s") = !x := by revert x; decide +kernel
theorem wd_ne (a b : Bool) : decide ((V.str (wd a)) = V.str (wd b)) = (a == b) := by revert a b; decide +kernel
/-- whether the bar stands against the pull -/
def hind (b : Bar) (st : List Bool) (d : Int) : Bool := decide (b.d = d) && ((sat st d == b.w) && (sat st b.o == b.t))
def goesB (bs : List Bar) (st : List Bool) (d : Int) : Bool := !(bs.any fun b => hind b st d)
def flip (st : List Bool) (d : Int) : List Bool := st.set d.toNat (!sat st d)
theorem flip_len (st : List Bool) (d : Int) : (flip st d).length = st.length := by unfold flip; rw [List.length_set]
def drs (n : Nat) : List Int := (List.range n).map fun (i : Nat) => (i : Int)
def freeL (bs : List Bar) (st : List Bool) : List Int := (drs st.length).filter fun d => goesB bs st d
/-- the table of signs -/
structure SgT (K : PySem.W.Frag) (w : World) (mg : Str → Option Value) (aS : Addr) : Prop where
  g : mg "SIGNS" = some (.ref aS)
  o : KDct K w aS "open" (.str "o")
  s : KDct K w aS "shut" (.str "s")
theorem SgT.at {K : PySem.W.Frag} {w : World} {mg : Str → Option Value} {aS : Addr} (T : SgT K w mg aS) (b : Bool) : KDct K w aS (wd b) (.str (sgn b)) := by
  cases b
  · exact T.o
  · exact T.s
structure spHold (K : PySem.W.Frag) (vs : List V) (H : Hp) (Q : VK) (_ : XK) : Prop where
  h : ∃ (a : Addr) (b : Bar) (st : List Bool) (d : Int), vs = [.ref a, .str (sstr st), .int d] ∧ SqT K H a b.vs ∧ b.ok st.length ∧ st.length ≤ 7 ∧ 0 ≤ d ∧ d < st.length ∧ Q (.bl (hind b st d)) H
structure spMoved (vs : List V) (H : Hp) (Q : VK) (_ : XK) : Prop where
  h : ∃ (st : List Bool) (d : Int), vs = [.str (sstr st), .int d] ∧ st.length ≤ 7 ∧ 0 ≤ d ∧ d < st.length ∧ ∀ H', Same H H' → Q (.str (sstr (flip st d))) H'
theorem str_small {st : List Bool} (h : st.length ≤ 7) : (sstr st).length ≤ sizeLine := by rw [sstr_len]; exact Nat.le_of_lt (small1000 (by omega))
theorem cut_flip (st : List Bool) (d : Int) (h0 : 0 ≤ d) (h1 : d < st.length) (x : Str) (hx : x.cps.toList = [sg (!sat st d)]) : (cutS (sstr st) none (some d) ++ x) ++ cutS (sstr st) (some (d + 1)) none = sstr (flip st d) := by
  refine PyProof.Rows.ext_toList ?_
  obtain ⟨k, rfl⟩ : ∃ k : Nat, d = (k : Int) := ⟨d.toNat, by omega⟩
  have hk : k < st.length := by omega
  have e1 : ((k : Int) + 1) = ((k + 1 : Nat) : Int) := by omega
  have t1 : tl (cutS (sstr st) none (some (k : Int))) = (st.map sg).take k := by
    unfold tl cutS
    rw [HT.sIx_none, HT.sIx_nat, sstr_len, sstr_tl]
    simp [Nat.min_eq_left (Nat.le_of_lt hk)]
  have t2 : tl (cutS (sstr st) (some ((k : Int) + 1)) none) = (st.map sg).drop (k + 1) := by
    unfold tl cutS
    rw [e1, HT.sIx_none, HT.sIx_nat, sstr_len, sstr_tl]
    simp only [Nat.min_eq_left (show k + 1 ≤ st.length by omega)]
    rw [List.take_of_length_le (by rw [List.length_drop, List.length_map]; omega)]
  show tl _ = tl _
  rw [tl_append, tl_append, t1, t2, show tl x = _ from hx, show tl (sstr (flip st (k : Int))) = _ from sstr_tl _]
  unfold flip
  rw [Int.toNat_natCast, List.map_set, List.set_eq_take_append_cons_drop, if_pos (by rw [List.length_map]; exact hk)]
  simp
section
variable {P : Program} {w : World} {K : PySem.W.Frag} {mg : Str → Option Value} {base : Heap}
theorem scHinders : FnScope ["bar", "standing", "drawer", "barred", "way", "other", "stand"] ["bar", "standing", "drawer"] (defScope s_hinders) := ⟨rfl, rfl, rfl, by decide +kernel, rfl, by decide +kernel, by decide +kernel⟩
theorem ok_hinders {f aS : Addr} {fd : FuncData} (F : Fun K "hinders" "hinders" s_hinders f fd) (T : SgT K w mg aS) : FnOk P w K mg base CX0 1 f fd ["bar", "standing", "drawer"] (spHold K) := by
  refine F.ok scHinders (fun vs H Q E h => ?_) (fun cdv A outer s H vs Q E hr h => ?_)
  · obtain ⟨a, b, st, d, rfl, _⟩ := h.h
    rfl
  · obtain ⟨a, b, st, d, rfl, hq, hb, h7, d0, d1, k⟩ := h.h
    obtain ⟨b1, b2, b3, b4, b5⟩ := hb
    refine ⟨_, pss_cons (ps_asg (pv 0) (pg_tup (by rfl) (pgs_cons (pg_name (i := 3) scHinders.nd rfl (.inl rfl)) (pgs_cons (pg_name (i := 4) scHinders.nd rfl (.inl rfl)) (pgs_cons (pg_name (i := 5) scHinders.nd rfl (.inl rfl)) (pgs_cons (pg_name (i := 6) scHinders.nd rfl (.inl rfl)) pgs_nil))))))
      (pss_cons (ps_if (PW.pt (pw_or (pt_cmpR op_ne (pv 3) (pv 2) (nomark _)) (pw_or1 (pt_cmpR op_eq (pe_ix ix_str (pv 1) (pv 2) (fun _ _ => rfl)) (pe_ix ix_kdict (pe_glob (v := .ref aS) rfl T.g rfl) (pv 4) (fun _ _ => rfl)) (nomark _))))) (pss_one (ps_ret pe_bl)) pss_nil)
      (pss_one (ps_ret (pe_cmpR op_ne (pe_ix ix_str (pv 1) (pv 5) (fun _ _ => rfl)) (pe_ix ix_kdict (pe_glob (v := .ref aS) rfl T.g rfl) (pv 6) (fun _ _ => rfl)) (nomark _))))), ?_⟩
    refine ⟨_, rfl, a, _, rfl, hq, rfl, _, _, rfl, _, _, rfl, _, _, rfl, _, _, rfl, rfl, ?_⟩
    refine ⟨_, rfl, _, rfl, rfl, _, rfl, ?_⟩
    have e0 : decide ((V.int b.d) = V.int d) = decide (b.d = d) := decide_eq_decide.mpr ⟨fun z => by injection z, fun z => by rw [z]⟩
    show if (!decide ((V.int b.d) = V.int d)) = true then _ else _
    rw [e0]
    by_cases q : b.d = d
    · rw [decide_eq_true q]
      refine iteF ?_
      refine ⟨_, rfl, _, rfl, _, d, _, rfl, rfl, str_small h7, sstr_at d0 d1, _, rfl, aS, wd b.w, _, rfl, rfl, T.at b.w, rfl, _, rfl, ?_⟩
      show if decide ((V.str ⟨#[sg (sat st d)]⟩) = V.str (sgn b.w)) = true then _ else _
      rw [sgs_sgn]
      unfold hind at k
      rw [decide_eq_true q] at k
      cases e : (sat st d != b.w) with
      | true =>
        have e' : (sat st d == b.w) = false := by rw [bne, Bool.not_eq_true'] at e; exact e
        rw [e'] at k
        exact iteT k
      | false =>
        have e' : (sat st d == b.w) = true := by rw [bne, Bool.not_eq_false'] at e; exact e
        rw [e'] at k
        refine iteF ?_
        refine ⟨_, rfl, _, rfl, _, b.o, _, rfl, rfl, str_small h7, sstr_at b3 b4, _, rfl, aS, wd b.t, _, rfl, rfl, T.at b.t, rfl, ?_⟩
        show Q (.bl (!decide ((V.str ⟨#[sg (sat st b.o)]⟩) = V.str (sgn b.t)))) H
        rw [sgs_sgn, bne, Bool.not_not]
        exact k
    · rw [decide_eq_false q]
      unfold hind at k
      rw [decide_eq_false q] at k
      exact iteT k
theorem scMoved : FnScope ["standing", "drawer", "word"] ["standing", "drawer"] (defScope s_moved) := ⟨rfl, rfl, rfl, by decide +kernel, rfl, by decide +kernel, by decide +kernel⟩
theorem ok_moved {f aS : Addr} {fd : FuncData} (F : Fun K "moved" "moved" s_moved f fd) (T : SgT K w mg aS) : FnOk P w K mg base CX0 1 f fd ["standing", "drawer"] spMoved := by
  refine F.ok scMoved (fun vs H Q E h => ?_) (fun cdv A outer s H vs Q E hr h => ?_)
  · obtain ⟨st, d, rfl, _⟩ := h.h
    rfl
  · obtain ⟨st, d, rfl, h7, d0, d1, k⟩ := h.h
    refine ⟨_, pss_cons (ps_set (i := 2) scMoved.nd rfl (.inl rfl) (pe_ifExp (pt_cmpR op_eq (pe_ix ix_str (pv 0) (pv 1) (fun _ _ => rfl)) (pe_ix ix_kdict (pe_glob (v := .ref aS) rfl T.g rfl) pe_str (fun _ _ => rfl)) (nomark _)) pe_str pe_str))
      (pss_one (ps_ret (pe_op op_add_str (pe_op op_add_str (pe_slice sl_str (pv 0) po_none (po_some (pv 1))) (pe_ix ix_kdict (pe_glob (v := .ref aS) rfl T.g rfl) (pv 2) (fun _ _ => rfl))) (pe_slice sl_str (pv 0) (po_some (pe_op op_add (pv 1) pe_int)) po_none)))), ?_⟩
    refine ⟨_, rfl, _, rfl, _, d, _, rfl, rfl, str_small h7, sstr_at d0 d1, aS, _, _, rfl, rfl, T.s, rfl, _, rfl, ?_⟩
    show if decide ((V.str ⟨#[sg (sat st d)]⟩) = V.str "s") = true then _ else _
    rw [sgs_s]
    have fin : ∀ x : Bool, x = sat st d → (∃ v, ((L2.start ["standing", "drawer", "word"] [.str (sstr st), .int d]).set 2 (some (.str (wd x))))[0]? = some (some v) ∧ (∃ z, v = .str z ∧ ∃ i, i = d ∧ True)) → True := fun _ _ _ => trivial
    have small : ∀ a b : Str, a.length ≤ 7 → b.length ≤ 7 → a.length + b.length ≤ sizeLine := fun a b ha hb => Nat.le_of_lt (small1000 (by omega))
    have c7 : ∀ lo hi, (cutS (sstr st) lo hi).length ≤ 7 := fun lo hi => by
      show (cutS (sstr st) lo hi).cps.size ≤ 7
      unfold cutS
      rw [List.size_toArray, List.length_take, List.length_drop, sstr_tl, List.length_map]
      omega
    have one : ∀ b : Bool, (sgn b).length ≤ 7 ∧ (sgn b).cps.toList = [sg (!b)] := by decide +kernel
    have app : ∀ a b : Str, (a ++ b).length = a.length + b.length := fun a b => by
      show (a ++ b).cps.size = a.cps.size + b.cps.size
      rw [← Array.length_toList, ← Array.length_toList, ← Array.length_toList]
      exact (congrArg List.length (tl_append a b)).trans (List.length_append ..)
    cases e : sat st d with
    | false =>
      refine iteT ?_
      refine ⟨_, rfl, _, rfl, _, rfl, _, rfl, str_small h7, _, rfl, aS, wd false, _, rfl, rfl, T.at false, _, _, rfl, rfl, small _ _ (c7 _ _) (one false).1, ?_⟩
      refine ⟨_, rfl, _, rfl, _, _, rfl, rfl, _, rfl, _, rfl, str_small h7, _, _, rfl, rfl, ?_, ?_⟩
      · have h1 := c7 none (some d)
        have h2 := (one false).1
        have h3 := c7 (some (d + 1)) none
        have h4 := app (cutS (sstr st) none (some d)) (sgn false)
        exact Nat.le_of_lt (small1000 (by omega))
      · have := k H (Same.refl H)
        rw [← cut_flip st d d0 d1 (sgn false) (by rw [(one false).2, e])] at this
        exact this
    | true =>
      refine iteF ?_
      refine ⟨_, rfl, _, rfl, _, rfl, _, rfl, str_small h7, _, rfl, aS, wd true, _, rfl, rfl, T.at true, _, _, rfl, rfl, small _ _ (c7 _ _) (one true).1, ?_⟩
      refine ⟨_, rfl, _, rfl, _, _, rfl, rfl, _, rfl, _, rfl, str_small h7, _, _, rfl, rfl, ?_, ?_⟩
      · have h1 := c7 none (some d)
        have h2 := (one true).1
        have h3 := c7 (some (d + 1)) none
        have h4 := app (cutS (sstr st) none (some d)) (sgn true)
        exact Nat.le_of_lt (small1000 (by omega))
      · have := k H (Same.refl H)
        rw [← cut_flip st d d0 d1 (sgn true) (by rw [(one true).2, e])] at this
        exact this
end
end DL

set_option Elab.async false
set_option maxRecDepth 100000
namespace DL
open PySem L2 HT TL
theorem new_at {H : Hp} {a : Addr} {o : HO} (h : H a = none) : Same H (upd H a o) ∧ (upd H a o) a = some o := ⟨same_upd h, upd_same⟩
/-! ### comprehensions that pick, in one word -/
theorem take_pick {α : Type} (p : α → Bool) (v : α → V) {l : List α} {i : Nat} {z : α} (h : l[i]? = some z) :
    ((l.take (i + 1)).filter p).map v = if p z = true then ((l.take i).filter p).map v ++ [v z] else ((l.take i).filter p).map v := by
  obtain ⟨hl, e⟩ := List.getElem?_eq_some_iff.mp h
  rw [List.take_succ_eq_append_getElem hl, List.filter_append, e]
  by_cases q : p z = true
  · rw [if_pos q, List.filter_cons_of_pos q, List.filter_nil, List.map_append]
    rfl
  · rw [if_neg q, List.filter_cons_of_neg q, List.filter_nil, List.append_nil]
/-- what a comprehension asks once its walk is told -/
def lcC (J : It) (g : TG) (tt : TT) (te : TE) (vs : List Nat) (σ : L2.St) (Q : VK) (H1 : Hp) : Prop := ∀ D, H1 D = none → ∃ W : Nat → Nat → Hp → Prop, (∃ m, W 0 m (upd H1 D (.lst []))) ∧ ∀ i m H, W i m H →
  (J.stop i H ∧ Q (.ref D) H) ∨ (J.go i H ∧ ∃ Nx : Hp → Prop, (∀ H', Nx H' → ∃ m', m' < m ∧ W (i + 1) m' H') ∧ ∀ x H', J.yld i H x H' → g x (wipe σ vs) H' fun σ2 H2 => wipe σ2 vs = wipe σ vs ∧ tt σ2 H2 fun b H3 =>
    if b = true then te σ2 H3 fun y H4 => ∃ acc, H4 D = some (.lst acc) ∧ acc.length < sizeLine ∧ Nx (upd H4 D (.lst (acc ++ [y]))) else Nx H3)
theorem lc_pick {α : Type} {J : It} {n : Nat} {G : Hp → Prop} {Y : Nat → Hp → V → Hp → Prop} (wk : Walk J n G Y) (l : List α) (hl : l.length = n) (hn : n ≤ 3000) (p : α → Bool) (v : α → V) {g : TG} {tt : TT} {te : TE} {vs : List Nat} {σ : L2.St} {H1 : Hp} {D : Addr} {Qd : Hp → Prop}
    (hD : H1 D = none) (hG : ∀ H, Same H1 H → G H)
    (hs : ∀ i x z H H' (Tk : V → Hp → Prop) (Nk : Hp → Prop), l[i]? = some z → Same H1 H → Y i H x H' → (∀ H4, p z = true → Same H H4 → Tk (v z) H4) → (∀ H4, p z = false → Same H H4 → Nk H4) →
      g x (wipe σ vs) H' fun σ2 H2 => wipe σ2 vs = wipe σ vs ∧ tt σ2 H2 fun b H3 => if b = true then te σ2 H3 Tk else Nk H3)
    (hd : ∀ H, Same H1 H → H D = some (.lst ((l.filter p).map v)) → Qd H) :
    ∃ W : Nat → Nat → Hp → Prop, (∃ m, W 0 m (upd H1 D (.lst []))) ∧ ∀ i m H, W i m H →
      (J.stop i H ∧ Qd H) ∨ (J.go i H ∧ ∃ Nx : Hp → Prop, (∀ H', Nx H' → ∃ m', m' < m ∧ W (i + 1) m' H') ∧ ∀ x H', J.yld i H x H' → g x (wipe σ vs) H' fun σ2 H2 => wipe σ2 vs = wipe σ vs ∧ tt σ2 H2 fun b H3 =>
        if b = true then te σ2 H3 fun y H4 => ∃ acc, H4 D = some (.lst acc) ∧ acc.length < sizeLine ∧ Nx (upd H4 D (.lst (acc ++ [y]))) else Nx H3) := by
  refine lc_it wk (fun i H' => Same H1 H' ∧ H' D = some (.lst (((l.take i).filter p).map v))) ⟨same_upd hD, upd_same⟩ (fun i H' _ q => hG H' q.1) ?_ ?_
  · rintro i x H H' hi ⟨s1, hD1⟩ y
    have hi' : i < l.length := by omega
    have ez : l[i]? = some l[i] := List.getElem?_eq_getElem hi'
    refine hs i x l[i] H H' _ _ ez s1 y (fun H4 hp s4 => ?_) (fun H4 hp s4 => ?_)
    · refine ⟨_, s4 _ _ hD1, ?_, fun b o e => ?_, ?_⟩
      · rw [List.length_map]
        have h1 := List.length_filter_le p (l.take i)
        rw [List.length_take] at h1
        have h2 : (3000 : Nat) < sizeLine := by decide
        omega
      · rw [upd_ne (ne_of_none e hD)]
        exact s4 _ _ (s1 b o e)
      · rw [upd_same, take_pick p v ez, if_pos hp]
    · refine ⟨s1.trans s4, ?_⟩
      rw [take_pick p v ez, if_neg (by rw [hp]; exact Bool.false_ne_true)]
      exact s4 _ _ hD1
  · rintro H ⟨s1, hD1⟩
    rw [← hl, List.take_length] at hD1
    exact hd H s1 hD1
/-! ### walks over the bars of a tuple -/
theorem walk_bars {K : PySem.W.Frag} {a : Addr} {α : Type} {l : List α} {f : α → V} : Walk (Itt K a) l.length (fun H => SqT K H a (l.map f)) (fun i H x H' => H' = H ∧ ∃ z, l[i]? = some z ∧ x = f z) := by
  have e : l.length = (l.map f).length := by rw [List.length_map]
  rw [e]
  refine (walk_tup (K := K) (a := a) (xs := l.map f)).mono (fun H h => h) fun i H x H' _ _ y => ⟨y.1, ?_⟩
  have h := y.2
  rw [List.getElem?_map] at h
  cases q : l[i]? with
  | none => rw [q] at h; cases h
  | some z => rw [q] at h; cases h; exact ⟨z, rfl, rfl⟩
theorem walk_lst {K : PySem.W.Frag} {a : Addr} {α : Type} {l : List α} {f : α → V} : Walk (Itl K a) l.length (fun H => SqL K H a (l.map f)) (fun i H x H' => H' = H ∧ ∃ z, l[i]? = some z ∧ x = f z) := by
  have e : l.length = (l.map f).length := by rw [List.length_map]
  rw [e]
  refine (walk_list (K := K) (a := a) (xs := l.map f)).mono (fun H h => h) fun i H x H' _ _ y => ⟨y.1, ?_⟩
  have h := y.2
  rw [List.getElem?_map] at h
  cases q : l[i]? with
  | none => rw [q] at h; cases h
  | some z => rw [q] at h; cases h; exact ⟨z, rfl, rfl⟩
end DL

set_option Elab.async false
set_option maxRecDepth 100000
namespace DL
open PySem L2 HT TL
structure CabOk (C : Addr) (H : Hp) (c : Addr) (n : Int) (bs : List Bar) : Prop where
  h : ∃ (t : Addr) (ks : List (Addr × Bar)), CabAt C H c n t ∧ BarsAt H t ks ∧ ks.map (·.2) = bs ∧ OkBars n bs ∧ 1 ≤ n ∧ n ≤ 7 ∧ bs.length ≤ 100
theorem tYes_of {σ : L2.St} {H : Hp} {Q : Bool → Hp → Prop} (h : Q true H) : tYes σ H Q := h
theorem CabOk.same {C : Addr} {H H' : Hp} {c : Addr} {n : Int} {bs : List Bar} (B : CabOk C H c n bs) (s : Same H H') : CabOk C H' c n bs := by
  obtain ⟨t, ks, ⟨dx, h1⟩, h2, h3⟩ := B.h
  exact ⟨⟨t, ks, ⟨dx, s _ _ h1⟩, h2.same s, h3⟩⟩
structure spGetD (C : Addr) (vs : List V) (H : Hp) (Q : VK) (_ : XK) : Prop where
  h : ∃ (c dx : Addr) (n : Int) (t : Addr), vs = [.ref c] ∧ H c = some (.ins C dx (cfl n t)) ∧ Q (.int n) H
structure spGetB (C : Addr) (vs : List V) (H : Hp) (Q : VK) (_ : XK) : Prop where
  h : ∃ (c dx : Addr) (n : Int) (t : Addr), vs = [.ref c] ∧ H c = some (.ins C dx (cfl n t)) ∧ Q (.ref t) H
/-- the two properties of the class -/
structure CabP (P : Program) (w : World) (K : PySem.W.Frag) (mg : Str → Option Value) (base : Heap) (C : Addr) : Prop where
  cl : Cls K C
  d : ∃ p g fd, PropOf K C "drawers" p g ∧ FnOk P w K mg base CX0 1 g fd ["self"] (spGetD C) ∧ Binds K fd ["self"] []
  b : ∃ p g fd, PropOf K C "bars" p g ∧ FnOk P w K mg base CX0 1 g fd ["self"] (spGetB C) ∧ Binds K fd ["self"] []
structure spGoes (C : Addr) (vs : List V) (H : Hp) (Q : VK) (_ : XK) : Prop where
  h : ∃ (c : Addr) (bs : List Bar) (st : List Bool) (d : Int), vs = [.ref c, .str (sstr st), .int d] ∧ CabOk C H c st.length bs ∧ 0 ≤ d ∧ d < st.length ∧ ∀ H', Same H H' → Q (.bl (goesB bs st d)) H'
structure spBarring (C : Addr) (vs : List V) (H : Hp) (Q : VK) (_ : XK) : Prop where
  h : ∃ (c t : Addr) (ks : List (Addr × Bar)) (st : List Bool) (d : Int), vs = [.ref c, .str (sstr st), .int d] ∧ CabAt C H c st.length t ∧ BarsAt H t ks ∧ OkBars st.length (ks.map (·.2)) ∧ st.length ≤ 7 ∧ ks.length ≤ 100 ∧ 0 ≤ d ∧ d < st.length ∧
    ∀ (p : Addr) (H' : Hp), H p = none → Same H H' → H' p = some (.lst ((ks.filter fun k => hind k.2 st d).map fun k => V.ref k.1)) → Q (.ref p) H'
structure spFreeDrawers (C : Addr) (vs : List V) (H : Hp) (Q : VK) (_ : XK) : Prop where
  h : ∃ (c : Addr) (bs : List Bar) (st : List Bool), vs = [.ref c, .str (sstr st)] ∧ CabOk C H c st.length bs ∧ ∀ (p : Addr) (H' : Hp), H p = none → Same H H' → H' p = some (.lst ((freeL bs st).map V.int)) → Q (.ref p) H'
theorem take_succ_map {α β : Type} (f : α → β) {l : List α} {i : Nat} {x : α} (h : l[i]? = some x) : (l.take i).map f ++ [f x] = (l.take (i + 1)).map f := by
  obtain ⟨hl, e⟩ := List.getElem?_eq_some_iff.mp h
  rw [List.take_succ_eq_append_getElem hl, List.map_append, ← e]
  rfl
theorem any_take {ks : List (Addr × Bar)} {bs : List Bar} (e : ks.map (·.2) = bs) (f : Bar → Bool) : ((ks.take (ks.map fun k => V.ref k.1).length).map fun k => f k.2).any id = bs.any f := by
  rw [List.length_map, List.take_length, ← e, List.any_map, List.any_map]
  rfl
section
variable {P : Program} {w : World} {K : PySem.W.Frag} {mg : Str → Option Value} {base : Heap}
theorem scDrawers : FnScope ["self"] ["self"] (defScope sDrawers) := ⟨rfl, rfl, rfl, by decide +kernel, rfl, by decide +kernel, by decide +kernel⟩
theorem ok_getD {f C : Addr} {fd : FuncData} (F : Fun K "drawers" "Cabinet.drawers" sDrawers f fd) (T : CabT K mg C) : FnOk P w K mg base CX0 1 f fd ["self"] (spGetD C) := by
  refine F.ok scDrawers (fun vs H Q E h => ?_) (fun cdv A outer s H vs Q E hr h => ?_)
  · obtain ⟨c, dx, n, t, rfl, _⟩ := h.h
    rfl
  · obtain ⟨c, dx, n, t, rfl, hc, k⟩ := h.h
    exact ⟨_, pss_one (ps_ret (pe_fld (pv 0) rfl)), ⟨_, rfl, c, C, dx, _, _, rfl, hc, T.cl, T.nD, cfl_d n t, k⟩⟩
theorem scBars : FnScope ["self"] ["self"] (defScope sBars) := ⟨rfl, rfl, rfl, by decide +kernel, rfl, by decide +kernel, by decide +kernel⟩
theorem ok_getB {f C : Addr} {fd : FuncData} (F : Fun K "bars" "Cabinet.bars" sBars f fd) (T : CabT K mg C) : FnOk P w K mg base CX0 1 f fd ["self"] (spGetB C) := by
  refine F.ok scBars (fun vs H Q E h => ?_) (fun cdv A outer s H vs Q E hr h => ?_)
  · obtain ⟨c, dx, n, t, rfl, _⟩ := h.h
    rfl
  · obtain ⟨c, dx, n, t, rfl, hc, k⟩ := h.h
    exact ⟨_, pss_one (ps_ret (pe_fld (pv 0) rfl)), ⟨_, rfl, c, C, dx, _, _, rfl, hc, T.cl, T.nB, cfl_b n t, k⟩⟩
abbrev nGoes : List Str := ["cabinet", "standing", "drawer", "bar"]
theorem scAg : FnScope nGoes ["cabinet", "standing", "drawer"] (defScope s_bars_against) := ⟨rfl, rfl, rfl, by decide +kernel, rfl, by decide +kernel, by decide +kernel⟩
theorem ok_against {f f1 C : Addr} {fd fd1 : FuncData} (F : Fun K "bars_against" "bars_against" s_bars_against f fd) (CP : CabP P w K mg base C) (G : FnOk P w K mg base CX0 1 f1 fd1 ["bar", "standing", "drawer"] (spHold K)) (g1 : mg "hinders" = some (.ref f1)) (k1 : PySem.W.keepIn K (.ref f1) = true) (b1 : Binds K fd1 ["bar", "standing", "drawer"] []) :
    FnOk P w K mg base CX0 4 f fd ["cabinet", "standing", "drawer"] (spBarring C) := by
  refine F.ok scAg (fun vs H Q E h => ?_) (fun cdv A outer s H vs Q E hr h => ?_)
  · obtain ⟨c, t, ks, st, d, rfl, _⟩ := h.h
    rfl
  · obtain ⟨c, t, ks, st, d, rfl, ⟨dx, hc⟩, B, O, n7, n100, d0, d1, k⟩ := h.h
    obtain ⟨pB, gB, fdB, hpB, GB, bB⟩ := CP.b
    refine ⟨_, pss_one (ps_ret (pe_lc (own := [("bar", 3)]) (g := gName 3) (by rfl) scAg.nd (pi_tup (pe_prop (pv 0) CP.cl hpB GB (hr.mono (by decide)) bB .nil pass0 rfl)) (blkOk_by (N := nGoes) (sc := defScope s_bars_against) (by decide +kernel)) (fun _ _ _ _ _ => pg_name (i := 3) scAg.nd rfl (Or.inl rfl))
        (fun _ _ _ _ _ => pts_one (pt_val (pe_call G (hr.mono (by decide)) rfl g1 k1 b1 .nil pass0 (pa_cons (pv 3) (pa_cons (pv 1) (pa_cons (pv 2) pa_nil)))))) (fun _ _ _ _ _ => pv 3))), ?_⟩
    refine ⟨_, rfl, c, dx, _, rfl, hc, ⟨⟨c, dx, _, t, rfl, hc, ?_⟩⟩⟩
    refine ⟨t, rfl, ⟨_, SqT.of' B.tu⟩, fun D hD => ?_⟩
    refine lc_pick (walk_bars (K := K) (a := t) (l := ks) (f := fun k => V.ref k.1)) ks rfl (by omega) (fun k => hind k.2 st d) (fun k => V.ref k.1) hD (fun H' s1 => SqT.of' (s1 _ _ B.tu)) ?_ (fun H' s1 hD1 => k D H' hD s1 hD1)
    rintro i x kk H1 H1' Tk Nk ek s1 ⟨rfl, z, ez, rfl⟩ kT kF
    rw [ek] at ez
    cases ez
    have hm : kk ∈ ks := List.mem_of_getElem? ek
    have hok : kk.2.ok st.length := O.ok _ (List.mem_map.mpr ⟨kk, hm, rfl⟩)
    refine ⟨rfl, ?_⟩
    refine ⟨_, rfl, _, rfl, _, rfl, ⟨⟨kk.1, kk.2, st, d, rfl, SqT.of' (s1 _ _ (B.el kk hm)), hok, by omega, d0, d1, _, rfl, ?_⟩⟩⟩
    cases e : hind kk.2 st d with
    | true => exact iteT ⟨_, rfl, kT _ e (Same.refl _)⟩
    | false => exact iteF (kF _ e (Same.refl _))
theorem goes_empty {ks : List (Addr × Bar)} {bs : List Bar} (e : ks.map (·.2) = bs) (st : List Bool) (d : Int) : ((ks.filter fun k => hind k.2 st d).map fun k => V.ref k.1).isEmpty = goesB bs st d := by
  subst e
  unfold goesB
  induction ks with
  | nil => rfl
  | cons k ks ih =>
    rw [List.map_cons, List.any_cons]
    by_cases q : hind k.2 st d = true
    · rw [List.filter_cons, if_pos q, q]
      rfl
    · rw [List.filter_cons, if_neg q]
      have q' : hind k.2 st d = false := by simpa using q
      rw [q', Bool.false_or]
      exact ih
theorem scGoes : FnScope ["cabinet", "standing", "drawer"] ["cabinet", "standing", "drawer"] (defScope s_goes) := ⟨rfl, rfl, rfl, by decide +kernel, rfl, by decide +kernel, by decide +kernel⟩
theorem ok_goes {f f1 C : Addr} {fd fd1 : FuncData} (F : Fun K "goes" "goes" s_goes f fd) (G : FnOk P w K mg base CX0 4 f1 fd1 ["cabinet", "standing", "drawer"] (spBarring C)) (g1 : mg "bars_against" = some (.ref f1)) (k1 : PySem.W.keepIn K (.ref f1) = true) (b1 : Binds K fd1 ["cabinet", "standing", "drawer"] []) :
    FnOk P w K mg base CX0 6 f fd ["cabinet", "standing", "drawer"] (spGoes C) := by
  refine F.ok scGoes (fun vs H Q E h => ?_) (fun cdv A outer s H vs Q E hr h => ?_)
  · obtain ⟨c, bs, st, d, rfl, _⟩ := h.h
    rfl
  · obtain ⟨c, bs, st, d, rfl, B, d0, d1, k⟩ := h.h
    obtain ⟨t, ks, hc, hB, ebs, O, n1, n7, n100⟩ := B.h
    refine ⟨_, pss_one (ps_ret (pe_notT (pe_call G (hr.mono (by decide)) rfl g1 k1 b1 .nil pass0 (pa_cons (pv 0) (pa_cons (pv 1) (pa_cons (pv 2) pa_nil)))))), ?_⟩
    refine ⟨_, rfl, _, rfl, _, rfl, ⟨⟨c, t, ks, st, d, rfl, hc, hB, by rw [ebs]; exact O, by omega, by rw [← ebs, List.length_map] at n100; exact n100, d0, d1, fun p H' hp s1 h1 => ?_⟩⟩⟩
    refine ⟨_, .inl ⟨_, SqL.of h1, rfl⟩, ?_⟩
    rw [Bool.not_not, goes_empty ebs]
    exact k H' s1
end
end DL

set_option Elab.async false
set_option maxRecDepth 100000
namespace DL
open PySem L2 HT TL
theorem drs_get {n i : Nat} (h : i < n) : (drs n)[i]? = some (i : Int) := by
  unfold drs
  rw [List.getElem?_map, List.getElem?_range h]
  rfl
theorem take_succ_filter {α : Type} (f : α → Bool) {l : List α} {i : Nat} {x : α} (h : l[i]? = some x) : (l.take (i + 1)).filter f = if f x = true then (l.take i).filter f ++ [x] else (l.take i).filter f := by
  obtain ⟨hl, e⟩ := List.getElem?_eq_some_iff.mp h
  rw [List.take_succ_eq_append_getElem hl, List.filter_append, e]
  by_cases q : f x = true
  · rw [if_pos q, List.filter_cons_of_pos q, List.filter_nil]
  · rw [if_neg q, List.filter_cons_of_neg q, List.filter_nil, List.append_nil]
theorem drs_len (n : Nat) : (drs n).length = n := by unfold drs; rw [List.length_map, List.length_range]
/-- a drawn cabinet's parts: the list at p -/
structure DrOk (H : Hp) (p : Addr) (n : Int) (bs : List Bar) : Prop where
  h : ∃ (t : Addr) (ks : List (Addr × Bar)) (zs : List V), H p = some (.lst (.int n :: .ref t :: zs)) ∧ BarsAt H t ks ∧ ks.map (·.2) = bs ∧ OkBars n bs ∧ 1 ≤ n ∧ n ≤ 7 ∧ bs.length ≤ 100
theorem DrOk.same {H H' : Hp} {p : Addr} {n : Int} {bs : List Bar} (B : DrOk H p n bs) (s : Same H H') : DrOk H' p n bs := by
  obtain ⟨t, ks, zs, h1, h2, h3⟩ := B.h
  exact ⟨⟨t, ks, zs, s _ _ h1, h2.same s, h3⟩⟩
structure spLawFree (vs : List V) (H : Hp) (Q : VK) (_ : XK) : Prop where
  h : ∃ (p : Addr) (bs : List Bar) (st : List Bool), vs = [.ref p, .str (sstr st)] ∧ DrOk H p st.length bs ∧ ∀ (q : Addr) (H' : Hp), H q = none → Same H H' → H' q = some (.lst ((freeL bs st).map V.int)) → Q (.ref q) H'
theorem occ_so (b : Bool) : Builtin.Str.occurrences ("so" : Str) ⟨#[sg b]⟩ 0 ("so" : Str).length 1 = [if b = true then 1 else 0] := by revert b; decide +kernel
theorem os_at (b : Bool) : atI ("os" : Str).cps.toList (((if b = true then 1 else 0 : Nat) : Int)) = some (sg (!b)) := by revert b; decide +kernel
theorem join_codes (cs : List Nat) : Txt.join "" (cs.map fun c => (⟨#[c]⟩ : Str)) = ⟨cs.toArray⟩ := by
  rw [join_eq]
  refine PyProof.Rows.ext_toList ?_
  show tl _ = cs
  rw [tl_join]
  have z : tl ("" : Str) = [] := by decide +kernel
  rw [z]
  have : ∀ l : List Nat, joinL [] ((l.map fun c => (⟨#[c]⟩ : Str)).map tl) = l := by
    intro l
    induction l with
    | nil => rfl
    | cons a l ih =>
      cases l with
      | nil => rfl
      | cons b l =>
        show [a] ++ ([] ++ joinL [] (((b :: l).map fun c => (⟨#[c]⟩ : Str)).map tl)) = _
        rw [ih]
        rfl
  exact this cs
theorem sum_ones (cs : List Nat) : ((cs.map fun c => (⟨#[c]⟩ : Str)).map (·.length)).sum = cs.length := by
  induction cs with
  | nil => rfl
  | cons a l ih =>
    rw [List.map_cons, List.map_cons, List.sum_cons, ih, List.length_cons]
    show 1 + l.length = _
    omega
theorem flip_sat {st : List Bool} {d : Int} {i : Nat} (h : i < st.length) (d0 : 0 ≤ d) : (flip st d)[i]? = some (if (i : Int) = d then !sat st d else sat st i) := by
  unfold flip sat
  rw [Int.toNat_natCast]
  by_cases q : (i : Int) = d
  · subst q
    rw [if_pos rfl, Int.toNat_natCast, List.getElem?_set_self h]
  · rw [if_neg q, List.getElem?_set_ne (by omega), List.getD_eq_getElem?_getD, List.getElem?_eq_getElem h]
    rfl
structure spPattern (K : PySem.W.Frag) (vs : List V) (H : Hp) (Q : VK) (_ : XK) : Prop where
  h : ∃ (r sc : Addr) (ns : List Int) (n : Int) (z : Str), vs = [.ref r, .int n, .str z] ∧ RowOk H r sc ∧ SqL K H sc (ns.map V.int) ∧ 1 ≤ n ∧ n ≤ 7 ∧ 1 ≤ z.length ∧ z.length ≤ 100 ∧
    ∀ (cs : List Nat) (H' : Hp), (cs.length : Int) = n → (∀ c ∈ cs, c ∈ z.cps.toList) → RowOk H' r sc → But r H H' → Q (.str ⟨cs.toArray⟩) H'
theorem os_codes {cs : List Nat} (h : ∀ c ∈ cs, c ∈ ("os" : Str).cps.toList) : ∃ st : List Bool, (⟨cs.toArray⟩ : Str) = sstr st ∧ st.length = cs.length := by
  refine ⟨cs.map fun c => decide (c = 111), ?_, by rw [List.length_map]⟩
  refine PyProof.Rows.ext_toList ?_
  rw [sstr_tl, List.map_map]
  show cs = _
  refine (List.map_congr_left (g := id) fun c hc => ?_).trans (List.map_id cs) |>.symm
  have := h c hc
  have e : ("os" : Str).cps.toList = [111, 115] := by decide +kernel
  rw [e] at this
  rcases List.mem_cons.mp this with rfl | this
  · rfl
  · rw [List.mem_singleton.mp this]; rfl
section
variable {P : Program} {w : World} {K : PySem.W.Frag} {mg : Str → Option Value} {base : Heap}
abbrev nFD : List Str := ["cabinet", "standing", "drawer"]
theorem scFD : FnScope nFD ["cabinet", "standing"] (defScope s_free_drawers) := ⟨rfl, rfl, rfl, by decide +kernel, rfl, by decide +kernel, by decide +kernel⟩
theorem ok_freeDrawers {f f1 C : Addr} {fd fd1 : FuncData} (F : Fun K "free_drawers" "free_drawers" s_free_drawers f fd) (T : Bt mg) (CP : CabP P w K mg base C) (G : FnOk P w K mg base CX0 6 f1 fd1 ["cabinet", "standing", "drawer"] (spGoes C)) (g1 : mg "goes" = some (.ref f1)) (k1 : PySem.W.keepIn K (.ref f1) = true) (b1 : Binds K fd1 ["cabinet", "standing", "drawer"] []) :
    FnOk P w K mg base CX0 8 f fd ["cabinet", "standing"] (spFreeDrawers C) := by
  refine F.ok scFD (fun vs H Q E h => ?_) (fun cdv A outer s H vs Q E hr h => ?_)
  · obtain ⟨c, bs, st, rfl, _⟩ := h.h
    rfl
  · obtain ⟨c, bs, st, rfl, B, k⟩ := h.h
    obtain ⟨t, ks, ⟨dx, hc⟩, hB, ebs, O, n1, n7, n100⟩ := id B.h
    obtain ⟨pD, gD, fdD, hpD, GD, bD⟩ := CP.d
    refine ⟨_, pss_one (ps_ret
      (pe_lc (own := [("drawer", 2)]) (g := gName 2) (by rfl) scFD.nd (pi_range1 (by rfl) T.range (pa_cons (pe_prop (pv 0) CP.cl hpD GD (hr.mono (by decide)) bD .nil pass0 rfl) pa_nil)) (blkOk_by (N := nFD) (sc := defScope s_free_drawers) (by decide +kernel)) (fun _ _ _ _ _ => pg_name (i := 2) scFD.nd rfl (by first | exact Or.inl rfl | exact Or.inr rfl))
        (fun _ _ _ _ _ => pts_one (pt_val (pe_call G (hr.mono (by decide)) rfl g1 k1 b1 .nil pass0 (pa_cons (pv 0) (pa_cons (pv 1) (pa_cons (pv 2) pa_nil)))))) (fun _ _ _ _ _ => pv 2))), ?_⟩
    refine ⟨_, rfl, c, dx, _, rfl, hc, ⟨⟨c, dx, _, t, rfl, hc, ?_⟩⟩⟩
    refine ⟨_, rfl, by omega, by omega, fun D hD => ?_⟩
    refine lc_range (lo := 0) (n := st.length) (fun i H' => Same H H' ∧ H' D = some (.lst ((((drs st.length).take i).filter fun d => goesB bs st d).map V.int))) ⟨same_upd hD, upd_same⟩ ?_ ?_
    · rintro i H' hi ⟨s1, hD1⟩
      refine ⟨rfl, ?_⟩
      have ei : (0 : Int) + (i : Nat) = (i : Int) := by omega
      refine ⟨_, rfl, _, rfl, _, rfl, ⟨⟨c, bs, st, (0 : Int) + (i : Nat), rfl, B.same s1, by omega, by omega, fun H2 s2 => ⟨_, rfl, ?_⟩⟩⟩⟩
      rw [take_succ_filter (fun d => goesB bs st d) (drs_get hi), ei]
      cases e : goesB bs st i with
      | true =>
        refine iteT ⟨_, rfl, _, s2 _ _ hD1, ?_, fun b o eb => ?_, ?_⟩
        · rw [List.length_map]
          have := List.length_filter_le (fun d => goesB bs st d) ((drs st.length).take i)
          rw [List.length_take, drs_len] at this
          exact small1000 (by omega)
        · rw [upd_ne (ne_of_none eb hD)]
          exact s2 _ _ (s1 _ _ eb)
        · rw [upd_same, if_pos rfl, List.map_append]
          rfl
      | false =>
        refine iteF ⟨fun b o eb => s2 _ _ (s1 _ _ eb), ?_⟩
        rw [if_neg Bool.false_ne_true]
        exact s2 _ _ hD1
    · rintro H' ⟨s1, hD1⟩
      refine k D H' hD s1 ?_
      rw [List.take_of_length_le (by rw [drs_len]; exact Nat.le_refl _)] at hD1
      exact hD1
theorem scLHold : FnScope ["_law_bar", "_law_standing", "_law_drawer"] ["_law_bar", "_law_standing", "_law_drawer"] (defScope s__law_hold) := ⟨rfl, rfl, rfl, by decide +kernel, rfl, by decide +kernel, by decide +kernel⟩
theorem ok_lawHold {f : Addr} {fd : FuncData} (F : Fun K "_law_hold" "_law_hold" s__law_hold f fd) : FnOk P w K mg base CX0 1 f fd ["_law_bar", "_law_standing", "_law_drawer"] (spHold K) := by
  refine F.ok scLHold (fun vs H Q E h => ?_) (fun cdv A outer s H vs Q E hr h => ?_)
  · obtain ⟨a, b, st, d, rfl, _⟩ := h.h
    rfl
  · obtain ⟨a, b, st, d, rfl, hq, hb, h7, d0, d1, k⟩ := h.h
    obtain ⟨b1, b2, b3, b4, b5⟩ := hb
    refine ⟨_, pss_cons (ps_if (PW.pt (pw_or (pt_cmpR op_ne (pe_ix ix_tup (pv 0) pe_int (fun _ _ => rfl)) (pv 2) (nomark _)) (pw_or1 (pt_cmpR op_ne (pe_ix ix_tup (pv 0) pe_int (fun _ _ => rfl)) (pe_ifExp (pt_cmpR op_eq (pe_ix ix_str (pv 1) (pv 2) (fun _ _ => rfl)) pe_str (nomark _)) pe_str pe_str) (nomark _))))) (pss_one (ps_ret pe_bl)) pss_nil)
      (pss_one (ps_ret (pe_cmpR op_ne (pe_ix ix_tup (pv 0) pe_int (fun _ _ => rfl)) (pe_ifExp (pt_cmpR op_eq (pe_ix ix_str (pv 1) (pe_ix ix_tup (pv 0) pe_int (fun _ _ => rfl)) (fun _ _ => rfl)) pe_str (nomark _)) pe_str pe_str) (nomark _)))), ?_⟩
    refine ⟨_, rfl, a, _, 0, .int b.d, rfl, rfl, hq, atI_nat (j := 0) rfl, _, rfl, rfl, _, rfl, ?_⟩
    have e0 : decide ((V.int b.d) = V.int d) = decide (b.d = d) := decide_eq_decide.mpr ⟨fun z => by injection z, fun z => by rw [z]⟩
    show if (!decide ((V.int b.d) = V.int d)) = true then _ else _
    rw [e0]
    unfold hind at k
    by_cases q : b.d = d
    · rw [decide_eq_true q] at k ⊢
      refine iteF ?_
      refine ⟨_, rfl, a, _, 1, .str (wd b.w), rfl, rfl, hq, atI_nat (j := 1) rfl, ?_⟩
      refine ⟨_, rfl, _, rfl, _, d, _, rfl, rfl, str_small h7, sstr_at d0 d1, rfl, _, rfl, ?_⟩
      show if decide ((V.str ⟨#[sg (sat st d)]⟩) = V.str "s") = true then _ else _
      rw [sgs_s]
      have second : ∀ H0 : Hp, H0 = H → (sat st d == b.w) = true → (tRet (tOp rNe (tOp (rIxT K) (tVar 0) (tC (.int 3))) (tIf (tTest (tOp rEq (tOp rIxS (tVar 1) (tOp (rIxT K) (tVar 0) (tC (.int 2)))) (tC (.str "o")))) (tC (.str "open")) (tC (.str "shut"))))
          { nx := fun _ H' => Q .non H', rt := Q } (L2.start ["_law_bar", "_law_standing", "_law_drawer"] [.ref a, .str (sstr st), .int d]) H0) := by
        intro H0 e0 e1
        subst e0
        rw [e1] at k
        refine ⟨_, rfl, a, _, 3, .str (wd b.t), rfl, rfl, hq, atI_nat (j := 3) rfl, ?_⟩
        refine ⟨_, rfl, _, rfl, a, _, 2, .int b.o, rfl, rfl, hq, atI_nat (j := 2) rfl, _, b.o, _, rfl, rfl, str_small h7, sstr_at b3 b4, rfl, _, rfl, ?_⟩
        show if decide ((V.str ⟨#[sg (sat st b.o)]⟩) = V.str "o") = true then _ else _
        rw [sgs_o]
        cases e : sat st b.o with
        | true =>
          rw [e] at k
          refine iteT ⟨rfl, ?_⟩
          show Q (.bl (!decide ((V.str (wd b.t)) = V.str (wd false)))) H0
          rw [wd_ne]
          revert k; cases b.t <;> exact id
        | false =>
          rw [e] at k
          refine iteF ⟨rfl, ?_⟩
          show Q (.bl (!decide ((V.str (wd b.t)) = V.str (wd true)))) H0
          rw [wd_ne]
          revert k; cases b.t <;> exact id
      cases e : sat st d with
      | false =>
        refine iteT ⟨rfl, _, rfl, ?_⟩
        show if (!decide ((V.str (wd b.w)) = V.str (wd false))) = true then _ else _
        rw [wd_ne]
        cases ew : b.w with
        | false => exact iteF (second H rfl (by rw [e, ew]; rfl))
        | true =>
          rw [e, ew] at k
          exact iteT k
      | true =>
        refine iteF ⟨rfl, _, rfl, ?_⟩
        show if (!decide ((V.str (wd b.w)) = V.str (wd true))) = true then _ else _
        rw [wd_ne]
        cases ew : b.w with
        | true => exact iteF (second H rfl (by rw [e, ew]; rfl))
        | false =>
          rw [e, ew] at k
          exact iteT k
    · rw [decide_eq_false q] at k ⊢
      exact iteT k
end
end DL

set_option Elab.async false
set_option maxRecDepth 100000
namespace DL
open PySem L2 HT TL
section
variable {P : Program} {w : World} {K : PySem.W.Frag} {mg : Str → Option Value} {base : Heap}
abbrev nLF : List Str := ["_law_d", "_law_standing", "_law_drawer", "_law_bar"]
theorem scLF : FnScope nLF ["_law_d", "_law_standing"] (defScope s__law_free) := ⟨rfl, rfl, rfl, by decide +kernel, rfl, by decide +kernel, by decide +kernel⟩
theorem ok_lawFree {f f1 : Addr} {fd fd1 : FuncData} (F : Fun K "_law_free" "_law_free" s__law_free f fd) (T : Bt mg) (G : FnOk P w K mg base CX0 1 f1 fd1 ["_law_bar", "_law_standing", "_law_drawer"] (spHold K)) (g1 : mg "_law_hold" = some (.ref f1)) (k1 : PySem.W.keepIn K (.ref f1) = true)
    (b1 : Binds K fd1 ["_law_bar", "_law_standing", "_law_drawer"] []) (zA : mg "any" = none) : FnOk P w K mg base CX0 2 f fd ["_law_d", "_law_standing"] spLawFree := by
  refine F.ok scLF (fun vs H Q E h => ?_) (fun cdv A outer s H vs Q E hr h => ?_)
  · obtain ⟨p, bs, st, rfl, _⟩ := h.h
    rfl
  · obtain ⟨p, bs, st, rfl, B, k⟩ := h.h
    obtain ⟨t, ks, zs, hp, hB, ebs, O, n1, n7, n100⟩ := id B.h
    refine ⟨_, pss_one (ps_ret
      (pe_lc (own := [("_law_drawer", 2)]) (g := gName 2) (by rfl) scLF.nd (pi_range1 (by rfl) T.range (pa_cons (pe_ix ix_list (pv 0) pe_int (fun _ _ => rfl)) pa_nil)) (blkOk_by (N := nLF) (sc := defScope s__law_free) (by decide +kernel)) (fun _ _ _ _ _ => pg_name (i := 2) scLF.nd rfl (by first | exact Or.inl rfl | exact Or.inr rfl))
        (fun _ _ _ _ _ => pts_one (pt_not (pt_val (pe_callB (cr_anyK (K := K) rfl rfl) (by rfl) zA boot_any_ (pa_cons
          (by exact (pe_lc (own := [("_law_bar", 3)]) (g := gName 3) (tt := tYes) (by rfl) scLF.nd (pi_tupK (K := K) rfl (pe_ix (ix_listK (K := K) rfl) (pv 0) pe_int (fun _ _ => rfl))) (blkOk_by (N := nLF) (by rfl)) (fun _ _ _ _ _ => pg_name (i := 3) scLF.nd rfl (Or.inl rfl)) (fun _ _ _ _ _ => pts_nil)
            (fun _ _ _ _ _ => pe_call G (hr.mono (by decide)) rfl g1 k1 b1 .nil pass0 (pa_cons (pv 3) (pa_cons (pv 1) (pa_cons (pv 2) pa_nil)))))) pa_nil))))) (fun _ _ _ _ _ => pv 2))), ?_⟩
    refine ⟨_, rfl, p, _, 0, .int _, rfl, rfl, SqL.of hp, atI_nat (j := 0) rfl, _, rfl, by omega, by omega, fun D hD => ?_⟩
    refine lc_range (lo := 0) (n := st.length) (fun i H' => Same H H' ∧ H' D = some (.lst ((((drs st.length).take i).filter fun d => goesB bs st d).map V.int))) ⟨same_upd hD, upd_same⟩ ?_ ?_
    · rintro i H' hi ⟨s1, hD1⟩
      refine ⟨rfl, ?_⟩
      have ei : (0 : Int) + (i : Nat) = (i : Int) := by omega
      refine ⟨_, rfl, p, _, 1, .ref t, rfl, rfl, SqL.of (s1 _ _ hp), atI_nat (j := 1) rfl, t, rfl, ⟨_, SqT.of' (s1 _ _ hB.tu)⟩, fun D2 hD2 => ?_⟩
      refine lc_tup (K := K) (a := t) (xs := ks.map fun k => V.ref k.1) (fun j H2 => Same H' H2 ∧ H2 D2 = some (.lst (((ks.take j).map fun k => hind k.2 st i).map V.bl))) ⟨same_upd hD2, upd_same⟩ (fun j H2 _ q => SqT.of' (q.1 _ _ (s1 _ _ hB.tu))) ?_ ?_
      · rintro j x H2 hj ⟨s2, hD3⟩
        rw [List.getElem?_map] at hj
        cases ek : ks[j]? with
        | none => rw [ek] at hj; cases hj
        | some kk =>
          rw [ek] at hj
          cases hj
          have hm : kk ∈ ks := List.mem_of_getElem? ek
          have hok : kk.2.ok st.length := O.ok _ (by rw [← ebs]; exact List.mem_map.mpr ⟨kk, hm, rfl⟩)
          refine ⟨rfl, tYes_of (iteT ?_)⟩
          refine ⟨_, rfl, _, rfl, _, rfl, ⟨⟨kk.1, kk.2, st, (0 : Int) + (i : Nat), rfl, SqT.of' (s2 _ _ (s1 _ _ (hB.el kk hm))), hok, by omega, by omega, by omega, ?_⟩⟩⟩
          refine ⟨_, hD3, ?_, fun b o e => ?_, ?_⟩
          · rw [List.length_map, List.length_map, List.length_take]
            have h2 : ks.length ≤ 100 := by rw [← ebs, List.length_map] at n100; exact n100
            exact small1000 (by omega)
          · rw [upd_ne (ne_of_none e hD2)]
            exact s2 b o e
          · rw [upd_same, ei]
            congr 2
            rw [List.map_map, List.map_map]
            exact take_succ_map (V.bl ∘ fun k => hind k.2 st i) ek
      · rintro H2 ⟨s2, hD3⟩
        refine ⟨D2, _, rfl, SqL.of hD3, _, rfl, ?_⟩
        rw [any_take ebs fun b => hind b st i]
        rw [take_succ_filter (fun d => goesB bs st d) (drs_get hi)]
        show if (goesB bs st i) = true then _ else _
        cases e : goesB bs st i with
        | true =>
          refine iteT ⟨_, rfl, _, s2 _ _ hD1, ?_, fun b o eb => ?_, ?_⟩
          · rw [List.length_map]
            have := List.length_filter_le (fun d => goesB bs st d) ((drs st.length).take i)
            rw [List.length_take, drs_len] at this
            exact small1000 (by omega)
          · rw [upd_ne (ne_of_none eb hD)]
            exact s2 _ _ (s1 _ _ eb)
          · rw [upd_same, if_pos rfl, List.map_append, ei]
            rfl
        | false =>
          refine iteF ⟨fun b o eb => s2 _ _ (s1 _ _ eb), ?_⟩
          rw [if_neg Bool.false_ne_true]
          exact s2 _ _ hD1
    · rintro H' ⟨s1, hD1⟩
      refine k D H' hD s1 ?_
      rw [List.take_of_length_le (by rw [drs_len]; exact Nat.le_refl _)] at hD1
      exact hD1
abbrev nLM : List Str := ["_law_standing", "_law_drawer", "_law_at"]
theorem scLM : FnScope nLM ["_law_standing", "_law_drawer"] (defScope s__law_moved) := ⟨rfl, rfl, rfl, by decide +kernel, rfl, by decide +kernel, by decide +kernel⟩
theorem ok_lawMoved {f : Addr} {fd : FuncData} (F : Fun K "_law_moved" "_law_moved" s__law_moved f fd) (T : Bt mg) : FnOk P w K mg base CX0 1 f fd ["_law_standing", "_law_drawer"] spMoved := by
  refine F.ok scLM (fun vs H Q E h => ?_) (fun cdv A outer s H vs Q E hr h => ?_)
  · obtain ⟨st, d, rfl, _⟩ := h.h
    rfl
  · obtain ⟨st, d, rfl, h7, d0, d1, k⟩ := h.h
    refine ⟨_, pss_one (ps_ret (pe_join pe_str
      (pe_lc (own := [("_law_at", 2)]) (g := gName 2) (tt := tYes) (by rfl) scLM.nd (pi_range1 (by rfl) T.range (pa_cons (pe_callB call_len_str (by rfl) T.len PySem.boot_len (pa_cons (pv 0) pa_nil)) pa_nil)) (blkOk_by (N := nLM) (sc := defScope s__law_moved) (by decide +kernel)) (fun _ _ _ _ _ => pg_name (i := 2) scLM.nd rfl (by first | exact Or.inl rfl | exact Or.inr rfl)) (fun _ _ _ _ _ => pts_nil)
        (fun _ _ _ _ _ => pe_ifExp (pt_cmpR op_ne (pv 2) (pv 1) (nomark _)) (pe_ix ix_str (pv 0) (pv 2) (fun _ _ => rfl)) (pe_ix ix_str pe_str (pe_bmK (K := K) rfl PySem.F.plainAttrs_str PySem.F.slot_str_index PySem.F.type_str_index mt_sindex pe_str (pa_cons (pe_ix ix_str (pv 0) (pv 2) (fun _ _ => rfl)) pa_nil)) (fun _ _ => rfl)))))), ?_⟩
    refine ⟨⟨_, rfl⟩, ?_⟩
    refine ⟨_, rfl, _, rfl, str_small h7, _, rfl, ?_⟩
    rw [sstr_len]
    refine ⟨by omega, by omega, fun D hD => ?_⟩
    refine lc_range (lo := 0) (n := st.length) (fun i H' => Same H H' ∧ H' D = some (.lst ((((flip st d).take i).map fun b => sgs b).map V.str))) ⟨same_upd hD, upd_same⟩ ?_ ?_
    · rintro i H' hi ⟨s1, hD1⟩
      refine ⟨rfl, tYes_of (iteT ?_)⟩
      have ei : (0 : Int) + (i : Nat) = (i : Int) := by omega
      have small : ((((flip st d).take i).map fun b => sgs b).map V.str).length < sizeLine := by
        rw [List.length_map, List.length_map, List.length_take, flip_len]
        exact small1000 (by omega)
      have fin : ∀ b : Bool, (flip st d)[i]? = some b → ∃ acc, H' D = some (.lst acc) ∧ acc.length < sizeLine ∧ Same H (upd H' D (.lst (acc ++ [.str ⟨#[sg b]⟩]))) ∧ (upd H' D (.lst (acc ++ [.str ⟨#[sg b]⟩]))) D = some (.lst ((((flip st d).take (i + 1)).map fun b => sgs b).map V.str)) := by
        intro b hb
        refine ⟨_, hD1, small, fun c o e => ?_, ?_⟩
        · rw [upd_ne (ne_of_none e hD)]
          exact s1 c o e
        · rw [upd_same, List.map_map, List.map_map, ← take_succ_map (V.str ∘ fun b => sgs b) hb]
          rfl
      refine ⟨_, rfl, _, rfl, rfl, _, rfl, ?_⟩
      have e0 : decide ((V.int ((0 : Int) + (i : Nat))) = V.int d) = decide ((i : Int) = d) := decide_eq_decide.mpr ⟨fun z => by injection z with z; omega, fun z => by rw [ei, z]⟩
      show if (!decide ((V.int ((0 : Int) + (i : Nat))) = V.int d)) = true then _ else _
      rw [e0]
      have fs := flip_sat (st := st) (d := d) hi d0
      by_cases q : (i : Int) = d
      · rw [decide_eq_true q]
        rw [if_pos q] at fs
        refine iteF ⟨rfl, ?_⟩
        refine ⟨_, rfl, _, rfl, _, (0 : Int) + (i : Nat), _, rfl, rfl, str_small h7, sstr_at (by omega) (by omega), ?_⟩
        refine ⟨_, _, _, [], rfl, rfl, occ_so _, _, _, _, rfl, rfl, (by decide +kernel), os_at _, ?_⟩
        rw [ei, q]
        exact fin _ fs
      · rw [decide_eq_false q]
        rw [if_neg q] at fs
        refine iteT ?_
        refine ⟨_, rfl, _, rfl, _, (0 : Int) + (i : Nat), _, rfl, rfl, str_small h7, sstr_at (by omega) (by omega), ?_⟩
        rw [ei]
        exact fin _ fs
    · rintro H' ⟨s1, hD1⟩
      rw [List.take_of_length_le (by rw [flip_len]; exact Nat.le_refl _)] at hD1
      have em : ((flip st d).map fun b => sgs b) = ((flip st d).map sg).map fun c => (⟨#[c]⟩ : Str) := by rw [List.map_map]; rfl
      rw [em] at hD1
      refine ⟨_, D, _, rfl, rfl, .inl (SqL.of hD1), ?_, ?_⟩
      · rw [sum_ones, List.length_map, List.length_map, flip_len]
        have z : ("" : Str).length = 0 := by decide +kernel
        rw [z]
        omega
      · rw [join_codes]
        exact k H' s1
abbrev nLP : List Str := ["_law_row", "_law_many", "_law_signs", "_law_at"]
theorem scLP : FnScope nLP ["_law_row", "_law_many", "_law_signs"] (defScope s__law_pattern) := ⟨rfl, rfl, rfl, by decide +kernel, rfl, by decide +kernel, by decide +kernel⟩
theorem ok_lawPattern {f f1 : Addr} {fd fd1 : FuncData} (F : Fun K "_law_pattern" "_law_pattern" s__law_pattern f fd) (T : Bt mg) (G : FnOk P w K mg base CX0 1 f1 fd1 ["_law_row", "_law_many"] (spTaken K)) (g1 : mg "_law_taken" = some (.ref f1)) (k1 : PySem.W.keepIn K (.ref f1) = true) (b1 : Binds K fd1 ["_law_row", "_law_many"] []) :
    FnOk P w K mg base CX0 2 f fd ["_law_row", "_law_many", "_law_signs"] (spPattern K) := by
  refine F.ok scLP (fun vs H Q E h => ?_) (fun cdv A outer s H vs Q E hr h => ?_)
  · obtain ⟨r, sc, ns, n, z, rfl, _⟩ := h.h
    rfl
  · obtain ⟨r, sc, ns, n, z, rfl, R, S, n1, n7, z1, z100, k⟩ := h.h
    refine ⟨_, pss_one (ps_ret (pe_join pe_str
      (pe_lc (own := [("_law_at", 3)]) (g := gName 3) (tt := tYes) (by rfl) scLP.nd (pi_range1 (by rfl) T.range (pa_cons (pv 1) pa_nil)) (blkOk_by (N := nLP) (sc := defScope s__law_pattern) (by decide +kernel)) (fun _ _ _ _ _ => pg_name (i := 3) scLP.nd rfl (by first | exact Or.inl rfl | exact Or.inr rfl)) (fun _ _ _ _ _ => pts_nil)
        (fun _ _ _ _ _ => pe_ix ix_str (pv 2) (pe_call G (hr.mono (by decide)) rfl g1 k1 b1 .nil pass0 (pa_cons (pv 0) (pa_cons (pe_callB call_len_str (by rfl) T.len PySem.boot_len (pa_cons (pv 2) pa_nil)) pa_nil))) (fun _ _ => rfl))))), ?_⟩
    have zs : z.length ≤ sizeLine := Nat.le_of_lt (small1000 (by omega))
    refine ⟨⟨_, rfl⟩, ?_⟩
    refine ⟨_, rfl, _, rfl, by omega, by omega, fun D hD => ?_⟩
    obtain ⟨i0, m0, e0, hR0, _⟩ := id R.h
    have nDr : D ≠ r := (ne_of_none hR0 hD).symm
    refine lc_range (lo := 0) (n := n.toNat) (fun i H' => RowOk H' r sc ∧ But r H H' ∧ ∃ cs : List Nat, cs.length = i ∧ (∀ c ∈ cs, c ∈ z.cps.toList) ∧ H' D = some (.lst ((cs.map fun c => (⟨#[c]⟩ : Str)).map V.str)))
      ⟨R.same (same_upd hD), sbut (same_upd hD), [], rfl, fun c hc => by simp at hc, upd_same⟩ ?_ ?_
    · rintro i H' hi ⟨R1, B1, cs, hl, hc, hD1⟩
      refine ⟨rfl, tYes_of (iteT ?_)⟩
      refine ⟨_, rfl, _, rfl, _, rfl, _, rfl, zs, ⟨⟨r, sc, ns, _, rfl, R1, B1.seqR R S, by omega, by omega, fun v H2 v0 v1 R2 B2 => ?_⟩⟩⟩
      have hlt : v.toNat < z.cps.toList.length := by
        have : z.length = z.cps.toList.length := by simp [Str.length]
        omega
      have hat : atI z.cps.toList v = some (z.cps.toList[v.toNat]) := by
        have e := atI_nat (List.getElem?_eq_getElem hlt)
        rw [Int.toNat_of_nonneg v0] at e
        exact e
      refine ⟨_, _, _, rfl, rfl, zs, hat, _, B2 _ _ nDr hD1, ?_, ?_, ?_, cs ++ [z.cps.toList[v.toNat]], ?_, fun c hm => ?_, ?_⟩
      · rw [List.length_map, List.length_map, hl]
        exact small1000 (by omega)
      · obtain ⟨i', m', e', q1, q2⟩ := R2.h
        exact ⟨⟨i', m', e', by rw [upd_ne (Ne.symm nDr)]; exact q1, q2⟩⟩
      · intro c o hcr hH
        rw [upd_ne (ne_of_none hH hD)]
        exact B2 _ _ hcr (B1 _ _ hcr hH)
      · rw [List.length_append, hl]; rfl
      · rcases List.mem_append.mp hm with hm | hm
        · exact hc c hm
        · rw [List.mem_singleton.mp hm]; exact List.getElem_mem _
      · rw [upd_same, List.map_append, List.map_append]
        rfl
    · rintro H' ⟨R1, B1, cs, hl, hc, hD1⟩
      refine ⟨_, D, _, rfl, rfl, .inl (SqL.of hD1), ?_, ?_⟩
      · rw [sum_ones, List.length_map]
        have z : ("" : Str).length = 0 := by decide +kernel
        rw [z]
        omega
      · rw [join_codes]
        exact k cs H' (by omega) hc R1 B1
end
end DL

set_option Elab.async false
set_option maxRecDepth 100000
namespace DL
open PySem L2 HT TL
/-! ### plain data: what == sees -/
/-- data of so many levels at most, whose texts are texts -/
def dok (k : Nat) (d : PyData) : Prop := d.canLay0 = true ∧ d.depth ≤ k
theorem dok_shaped {k : Nat} {d : PyData} (h : dok k d) (hk : k ≤ 64) : SeqAt.shaped d = true := by
  unfold SeqAt.shaped
  rw [h.1, decide_eq_true (Nat.le_trans h.2 hk)]
  rfl
theorem dok_all {k : Nat} : ∀ {ds : List PyData}, (∀ d ∈ ds, dok k d) → PyData.canLayAll0 ds = true ∧ PyData.depthAll ds ≤ k
  | [], _ => ⟨by simp [PyData.canLayAll0], by simp [PyData.depthAll]⟩
  | d :: ds, h => by
    obtain ⟨h1, h2⟩ := dok_all (ds := ds) fun e he => h e (List.mem_cons_of_mem _ he)
    obtain ⟨h3, h4⟩ := h d List.mem_cons_self
    refine ⟨by simp [PyData.canLayAll0, h1, h3], ?_⟩
    simp only [PyData.depthAll]
    omega
theorem dok_list {k : Nat} {ds : List PyData} (h : ∀ d ∈ ds, dok k d) : dok (k + 1) (.list ds) := by
  obtain ⟨h1, h2⟩ := dok_all h
  exact ⟨by simpa [PyData.canLay0] using h1, by simp only [PyData.depth]; omega⟩
end DL
namespace DL
open PySem L2 HT TL
theorem dok_str {z : Str} (h : PyData.strOk z = true) : dok 1 (.str z) := ⟨by simpa [PyData.canLay0] using h, by simp [PyData.depth]⟩
theorem eqv_self {k : Nat} {d : PyData} (h : dok k d) : PyData.eqv d d = true := SeqAt.eqv_refl d h.1
end DL

set_option Elab.async false
set_option maxRecDepth 100000
namespace DL
open PySem L2 HT TL
/-! ### the checks -/
/-- isinstance of a cabinet -/
structure CabI (K : PySem.W.Frag) (mg : Str → Option Value) (C : Addr) : Prop where
  cl : Cls K C
  mgC : mg "Cabinet" = some (.ref C)
  ha : PySem.W.findIn K (.ref C) "__class__" = some (some (.builtin "object.__class__"))
  hn : PySem.W.specialIn K (.builtin "object.__class__") "__get__" = some (some (.builtin "getset_descriptor.__get__"))
  htk : PySem.W.takesIn K (.builtin "object.__class__") = some true
  hm : PySem.W.mroIn K C (.type "object") = some true
  kk : PySem.W.kitOne K (.ref C) (.ref C) = some true
structure spCkCab (C : Addr) (vs : List V) (H : Hp) (Q : VK) (_ : XK) : Prop where
  h : ∃ (c : Addr) (n : Int) (t : Addr), vs = [.ref c] ∧ CabAt C H c n t ∧ Q .non H
theorem sstr_codes {st : List Bool} : ∀ c ∈ (sstr st).cps.toList, c ∈ ("os" : Str).cps.toList := fun c hc => by
  rw [sstr_tl] at hc
  obtain ⟨b, _, rfl⟩ := List.mem_map.mp hc
  have z : ∀ b : Bool, sg b ∈ ("os" : Str).cps.toList := by decide +kernel
  exact z b
theorem CabOk.cab {C : Addr} {H : Hp} {c : Addr} {n : Int} {bs : List Bar} (B : CabOk C H c n bs) : ∃ t, CabAt C H c n t ∧ n ≤ 7 := by
  obtain ⟨t, ks, h1, h2, h3, h4, h5, h6, h7⟩ := B.h
  exact ⟨t, h1, h6⟩
section
variable {P : Program} {w : World} {K : PySem.W.Frag} {mg : Str → Option Value} {base : Heap}
abbrev nHS : List Str := ["drawers", "value", "signs", "sign"]
theorem scHS : FnScope nHS ["drawers", "value", "signs"] (defScope s_has_signs) := ⟨rfl, rfl, rfl, by decide +kernel, rfl, by decide +kernel, by decide +kernel⟩
theorem scCkCab : FnScope ["cabinet"] ["cabinet"] (defScope s_check_cabinet) := ⟨rfl, rfl, rfl, by decide +kernel, rfl, by decide +kernel, by decide +kernel⟩
theorem ok_ckCab {f C : Addr} {fd : FuncData} (F : Fun K "check_cabinet" "check_cabinet" s_check_cabinet f fd) (T : Bt mg) (I : CabI K mg C) : FnOk P w K mg base CX0 1 f fd ["cabinet"] (spCkCab C) := by
  refine F.ok scCkCab (fun vs H Q E h => ?_) (fun cdv A outer s H vs Q E hr h => ?_)
  · obtain ⟨c, n, t, rfl, _⟩ := h.h
    rfl
  · obtain ⟨c, n, t, rfl, ⟨dx, hc⟩, k⟩ := h.h
    refine ⟨_, pss_one (ps_if (pt_not (pt_val (pe_callB call_isi (by rfl) T.isinstance (by decide +kernel) (pa_cons (pv 0) (pa_cons (pe_glob (v := .ref C) rfl I.mgC rfl) pa_nil))))) (pss_one ps_never) pss_nil), ?_⟩
    exact ⟨_, rfl, _, _, _, _, true, rfl, .own C, .base (.ins hc I.cl I.ha I.hn I.htk I.hm), I.kk, _, rfl, iteF k⟩
end
end DL

set_option Elab.async false
set_option maxRecDepth 100000
namespace DL
open PySem PySem.Spec PyProof.Rows L2
/-! ### text * number -/
theorem op_mul_str {X : Cx} : OpR X (binaryOp .Mult) (fun x y H Q => ∃ (z : Str) (n : Int), x = .str z ∧ y = .int n ∧ MulOk z n ∧ Q (.str (Txt.mul z n)) H) := by
  intro pins s σ H x y v u Q I rx ry h
  obtain ⟨z, n, rfl, rfl, ok, q⟩ := h
  obtain ⟨t, rfl⟩ := rx
  obtain ⟨t', rfl⟩ := ry
  exact SB.mul ok fun t2 k => ⟨.str _, H, I.tok k, ⟨_, rfl⟩, q⟩
theorem mulOk_one {z : Str} {n : Int} (hz : z.length = 1) (h1 : 1 ≤ n) (h7 : n ≤ 7) : MulOk z n := by
  refine ⟨?_, fun _ _ => ?_, fun _ _ => ?_⟩
  · rw [decide_eq_false (by omega), decide_eq_false (by omega)]; rfl
  · rw [hz]
    have : n = 1 ∨ n = 2 ∨ n = 3 ∨ n = 4 ∨ n = 5 ∨ n = 6 ∨ n = 7 := by omega
    rcases this with rfl | rfl | rfl | rfl | rfl | rfl | rfl <;> decide
  · rw [hz]
    have : n = 1 ∨ n = 2 ∨ n = 3 ∨ n = 4 ∨ n = 5 ∨ n = 6 ∨ n = 7 := by omega
    rcases this with rfl | rfl | rfl | rfl | rfl | rfl | rfl <;> decide +kernel
/-! ### for a, b in zip(x, y), two texts -/
def ItzS (x y : Str) : It :=
  ⟨fun i _ => i < x.cps.size ∧ i < y.cps.size, fun i H v H' => ∃ T c d, v = .ref T ∧ H T = none ∧ H' = upd H T (.tup [.str ⟨#[c]⟩, .str ⟨#[d]⟩]) ∧ x.cps[i]? = some c ∧ y.cps[i]? = some d,
    fun i _ => i ≤ x.cps.size ∧ i ≤ y.cps.size ∧ (i = x.cps.size ∨ i = y.cps.size)⟩
theorem turn_zipS {P : Program} {w : World} {K : PySem.W.Frag} {elts : List Expr} {kk : Nat} {tpos : Pos} {x y : Str} {tx ty : Tok} {z TI TO i1 i2 : Addr} (S : ZipSep2 z TI TO i1 i2 [i1] [i2]) :
    Turn P w K (.Tuple elts kk tpos) (ItzS x y) [z, TI, TO, i1, i2] z (fun i h => IsZip h z TI TO .none ∧ IsTupOf2 h TI (.ref i1) (.ref i2) ∧ (∃ a b, IsTupOf2 h TO a b) ∧ h.IsStrIter i1 (strIterType x) x tx i ∧ h.IsStrIter i2 (strIterType y) y ty i) where
  mem := by simp
  obj := fun i h st c hc => by
    obtain ⟨hz, hTI, ⟨a, b, hTO⟩, ⟨o1, e1, _, d1⟩, ⟨o2, e2, _, d2⟩⟩ := st
    have e' : c = z ∨ c = TI ∨ c = TO ∨ c = i1 ∨ c = i2 := by simpa using hc
    rcases e' with q | q | q | q | q
    · rw [q]; exact ⟨_, hz, fun v q => nomatch q⟩
    · rw [q]; exact ⟨_, hTI, fun v q => nomatch q⟩
    · rw [q]; exact ⟨_, hTO, fun v q => nomatch q⟩
    · rw [q]; exact ⟨o1, e1, fun v q => by rw [d1] at q; cases q⟩
    · rw [q]; exact ⟨o2, e2, fun v q => by rw [d2] at q; cases q⟩
  keep := fun i h h' st k => by
    obtain ⟨hz, hTI, ⟨a, b, hTO⟩, ⟨o1, e1, r1⟩, ⟨o2, e2, r2⟩⟩ := st
    exact ⟨k z (by simp) _ hz, k TI (by simp) _ hTI, ⟨a, b, k TO (by simp) _ hTO⟩, ⟨o1, k i1 (by simp) _ e1, r1⟩, ⟨o2, k i2 (by simp) _ e2, r2⟩⟩
  item := by
    intro X hP hw hK hc i pins s σ H E I hf st hg
    subst hP hw hK
    obtain ⟨hz, hTI, ⟨a0, b0, hTO⟩, h1, h2⟩ := st
    have hzl : z < s.heap.objs.size := Heap.lt_size hz
    have D1 := Draws.text (prog := X.prog) (w := X.w) (A := X.A.in1) (I.ok.hd hc) i1 x tx
    have D2 := Draws.text (prog := X.prog) (w := X.w) (A := X.A.in1) (I.ok.hd hc) i2 y ty
    refine wpAny_pyNext_zipD2_item S D1 D2 hz hTI hTO h1 h2 hg.1 hg.2 fun x1 x2 h' tk p1 p2 z' TO' h1' h2' hT hsz hk => ?_
    obtain ⟨c, t1, hc1, rfl⟩ := p1
    obtain ⟨d, t2, hd1, rfl⟩ := p2
    refine ⟨_, rfl, wpAny_letOwnedTupleGo_zip (s := { s with heap := h', toks := tk }) z' fun h'' z'' sb => ?_⟩
    have hT2 : h''.get? s.heap.objs.size = some { cls := .type "tuple", data := .seq #[.str ⟨#[c]⟩ t1, .str ⟨#[d]⟩ t2] } := (sb.2 _ (Nat.ne_of_gt hzl)).trans hT
    have new : ObjOk X.prog X.w (upd H s.heap.objs.size (.tup [.str ⟨#[c]⟩, .str ⟨#[d]⟩])) h'' s.heap.objs.size (.tup [.str ⟨#[c]⟩, .str ⟨#[d]⟩]) :=
      ⟨by show 2 ≤ sizeLine; decide, [.str ⟨#[c]⟩ t1, .str ⟨#[d]⟩ t2], .cons ⟨_, rfl⟩ (.cons ⟨_, rfl⟩ .nil), ⟨_, hT2, rfl, _, rfl⟩⟩
    have I1 : Inv X pins σ (upd H s.heap.objs.size (.tup [.str ⟨#[c]⟩, .str ⟨#[d]⟩])) { s with heap := h'', toks := tk } :=
      I.turnedNew (t' := tk) (ch := [z, TI, TO, i1, i2]) (fun c o hb q => (sb.2 c (fun q' => hb (by simp [q']))).trans (hk c o (fun q' => hb (by simp [q'])) (fun q' => hb (by simp [q'])) (fun q' => hb (by simp [q'])) (fun q' => hb (by simp [q'])) q)) hf (Nat.le_refl _) new
    have sep : ∀ b, b ≠ z → ∀ o, h'.get? b = some o → h''.get? b = some o := fun b hb o q => (sb.2 b hb).trans q
    refine ⟨.ref s.heap.objs.size, _, I1, rfl, ⟨_, c, d, rfl, I.hok.fresh (Nat.le_refl _), rfl, hc1, hd1⟩, ⟨z'', ?_, ⟨.str ⟨#[c]⟩ t1, .str ⟨#[d]⟩ t2, ?_⟩, ?_, ?_⟩, fun b hcm => ?_⟩
    · exact sep _ S.TIz _ (hk _ _ S.TIz S.TITO S.TIi1 S.TIi2 hTI)
    · exact sep _ S.TOz _ TO'
    · obtain ⟨o, q, r⟩ := h1'
      exact ⟨o, sep _ S.zi1.symm _ q, r⟩
    · obtain ⟨o, q, r⟩ := h2'
      exact ⟨o, sep _ S.zi2.symm _ q, r⟩
    · have hlt : b < s.heap.objs.size := by
        have e' : b = z ∨ b = TI ∨ b = TO ∨ b = i1 ∨ b = i2 := by simpa using hcm
        rcases e' with q | q | q | q | q
        · rw [q]; exact hzl
        · rw [q]; exact Heap.lt_size hTI
        · rw [q]; exact Heap.lt_size hTO
        · rw [q]; obtain ⟨_, e1, _⟩ := h1; exact Heap.lt_size e1
        · rw [q]; obtain ⟨_, e2, _⟩ := h2; exact Heap.lt_size e2
      rw [upd_ne (Nat.ne_of_lt hlt)]
      exact (hf b hcm).1
  done := by
    intro X hP hw hK hc i pins s σ H E I hf st hg
    subst hP hw hK
    obtain ⟨hz, hTI, ⟨a0, b0, hTO⟩, h1, h2⟩ := st
    have D1 := Draws.text (prog := X.prog) (w := X.w) (A := X.A.in1) (I.ok.hd hc) i1 x tx
    have D2 := Draws.text (prog := X.prog) (w := X.w) (A := X.A.in1) (I.ok.hd hc) i2 y ty
    exact wpAny_pyNext_zipD2_end S D1 D2 hz hTI hTO h1 h2 hg.1 hg.2.1 hg.2.2 fun h' tk hk => ⟨rfl, I.turnedL (t' := tk) (ch := [z, TI, TO, i1, i2]) (fun c o hb q =>
      hk c o (fun q' => hb (by simp [q'])) (fun q' => hb (by simp [q'])) (fun q' => hb (by simp [q'])) (fun q' => hb (by simp [q'])) q) hf⟩
  self := fun A i s Q E st h => wpAny_pyIter_zip st.1 h
def iZipS (ta : TA) : TI := fun σ H R => ta σ H fun vs H1 => ∃ x y, vs = [.str x, .str y] ∧ R (ItzS x y) H1
theorem pi_zipS {X : Cx} {e e2 : Expr} {ta : TA} {p pos tpos : Pos} {elts : List Expr} {kk : Nat} (hg : Gl X "zip") (hm : X.mg "zip" = none) (ha : PA X [e, e2] ta)
    (hs : starEach [e, e2] X.env = (false, eval e X.env) :: starEach [e2] X.env := by rfl) (hpl : (backTo pos (starEach [e2] X.env)).any (·.1) = false := by rfl) :
    PI X (.Tuple elts kk tpos) (.Call (.Name "zip" p) [e, e2] [] pos) (iZipS ta) := by
  refine ⟨fun pins s σ H R I h => ?_⟩
  refine Call_ (ld_blt I hg hm PyProof.Rows.boot_zip (PyProof.Rows.callWith_type1 (thn (ha.run pos pins s σ H _ I h) fun us s1 ⟨vs, H1, I1, r1, q1⟩ => ?_) hs hpl))
  obtain ⟨x, y, ex, q⟩ := q1
  subst ex
  cases r1 with
  | cons r rr =>
    cases rr with
    | cons r' rr =>
      cases rr
      obtain ⟨t1, rfl⟩ := r
      obtain ⟨t2, rfl⟩ := r'
      refine zip_begins2 (begins_text x t1) (begins_text y t2) trivial trivial fun h' hz hTI hTO h1 h2 hsz hk => wpAny_pyIter_zip hz ?_
      have I2 : Inv X pins σ H1 { s1 with heap := h' } := I1.kept (t' := s1.toks) hk
      have sep : ZipSep2 (s1.heap.objs.size + 4) (s1.heap.objs.size + 2) (s1.heap.objs.size + 3) s1.heap.objs.size (s1.heap.objs.size + 1) [s1.heap.objs.size] [s1.heap.objs.size + 1] := zip_sep2 (fp1 := []) (fp2 := []) (fun b hb => by simp at hb) fun b hb => by simp at hb
      refine ⟨s1.heap.objs.size + 4, [s1.heap.objs.size + 4, s1.heap.objs.size + 2, s1.heap.objs.size + 3, s1.heap.objs.size, s1.heap.objs.size + 1], _, _, H1, rfl, I2, turn_zipS sep, ⟨hz, hTI, ⟨_, _, hTO⟩, ⟨_, h1, rfl, rfl⟩, ⟨_, h2, rfl, rfl⟩⟩, fun c hcm => ?_, q⟩
      have e' : c = s1.heap.objs.size + 4 ∨ c = s1.heap.objs.size + 2 ∨ c = s1.heap.objs.size + 3 ∨ c = s1.heap.objs.size ∨ c = s1.heap.objs.size + 1 := by simpa using hcm
      have hle : s1.heap.objs.size ≤ c := by
        rcases e' with z | z | z | z | z
        · rw [z]; exact Nat.le_add_right _ _
        · rw [z]; exact Nat.le_add_right _ _
        · rw [z]; exact Nat.le_add_right _ _
        · rw [z]; exact Nat.le_refl _
        · rw [z]; exact Nat.le_add_right _ _
      exact I1.fpOk hle (I1.hok.fresh hle)
theorem walk_zipS {x y : Str} (hl : x.cps.size = y.cps.size) : Walk (ItzS x y) x.cps.size (fun _ => True) (fun i H v H' => ∃ T c d, v = .ref T ∧ H T = none ∧ H' = upd H T (.tup [.str ⟨#[c]⟩, .str ⟨#[d]⟩]) ∧ x.cps[i]? = some c ∧ y.cps[i]? = some d) :=
  ⟨fun i _ hi _ => ⟨hi, by omega⟩, fun _ _ => ⟨Nat.le_refl _, by omega, .inl rfl⟩, fun _ _ _ _ _ _ y => y⟩
end DL

set_option Elab.async false
set_option maxRecDepth 100000
namespace DL
open PySem L2 HT TL
/-! ### patterns and rows -/
theorem pg_tupK {X : Cx} {K : PySem.W.Frag} {pos : Pos} {es : List Expr} {k : Nat} {t : TGs} {n : Nat} (hK : X.K = K) (hc : X.calm = true) (h : PGs X es t) (h1 : (assignEach es X.env).length = n := by rfl) (h2 : List.findIdx? (fun x => x.1) (assignEach es X.env) = none := by rfl) :
    PG X (.Tuple es k pos) (gTup K n t) := by subst hK; exact pg_tup hc h h1 h2
theorem SqT.same {K : PySem.W.Frag} {H H' : Hp} {a : Addr} {xs : List V} (s : Same H H') (h : SqT K H a xs) : SqT K H' a xs := by
  rcases h with (h | ⟨o, h⟩) | h
  · exact .inl (.inl (s _ _ h))
  · exact .inl (.inr ⟨o, s _ _ h⟩)
  · exact .inr h
def pstr (cs : List Nat) : Str := ⟨cs.toArray⟩
theorem pstr_tl (cs : List Nat) : (pstr cs).cps.toList = cs := rfl
theorem pstr_len (cs : List Nat) : (pstr cs).length = cs.length := by
  show (pstr cs).cps.size = cs.length
  rw [← Array.length_toList, pstr_tl]
def fitAt (st : List Bool) (cs : List Nat) (i : Nat) : Bool := decide (cs.getD i 0 = 63) || decide (cs.getD i 0 = sg (st.getD i false))
def fitB (st : List Bool) (cs : List Nat) : Bool := ((List.range st.length).map (fitAt st cs)).all id
theorem str1 {c d : Nat} : ((⟨#[c]⟩ : Str) == ⟨#[d]⟩) = decide (d = c) := by
  rw [beq_dec]
  refine decide_eq_decide.mpr ⟨fun h => ?_, fun h => by rw [h]⟩
  injection h with h
  injection h with h
  injection h with h
  exact h.symm
theorem in_two (c d : Nat) : inV (.str ⟨#[d]⟩) [.str "?", .str ⟨#[c]⟩] = (decide (d = 63) || decide (d = c)) := by
  have e : ("?" : Str) = ⟨#[63]⟩ := by decide +kernel
  rw [e]
  show ((⟨#[63]⟩ : Str) == ⟨#[d]⟩ || ((⟨#[c]⟩ : Str) == ⟨#[d]⟩ || false)) = _
  rw [str1, str1, Bool.or_false]
def runB (bs : List Bar) (st : List Bool) : List Int → Option (List Bool)
  | [] => some st
  | d :: ds => if goesB bs st d = true then runB bs (flip st d) ds else none
theorem runB_cons (bs : List Bar) (st : List Bool) (d : Int) (ds : List Int) : runB bs st (d :: ds) = if goesB bs st d = true then runB bs (flip st d) ds else none := rfl
def shutS (n : Nat) : List Bool := List.replicate n false
def intOf : V → Int
  | .int i => i
  | _ => 0
theorem ints_of {n : Int} : ∀ {xs : List V}, xs.all (isD n) = true → xs = (xs.map intOf).map V.int ∧ ∀ d ∈ xs.map intOf, 0 ≤ d ∧ d < n
  | [], _ => ⟨rfl, fun d hd => by simp at hd⟩
  | x :: xs, h => by
    rw [List.all_cons, Bool.and_eq_true] at h
    obtain ⟨h1, h2⟩ := ints_of h.2
    cases x with
    | int i =>
      have hi : (decide (0 ≤ i) && decide (i < n)) = true := h.1
      rw [Bool.and_eq_true] at hi
      refine ⟨?_, fun d hd => ?_⟩
      · show V.int i :: xs = V.int i :: (xs.map intOf).map V.int
        rw [← h1]
      · rcases List.mem_cons.mp hd with rfl | hd
        · exact ⟨of_decide_eq_true hi.1, of_decide_eq_true hi.2⟩
        · exact h2 d hd
    | _ => exact absurd h.1 (by intro z; cases z)
structure spFits (vs : List V) (H : Hp) (Q : VK) (_ : XK) : Prop where
  h : ∃ (st : List Bool) (cs : List Nat), vs = [.str (sstr st), .str (pstr cs)] ∧ st.length = cs.length ∧ st.length ≤ 7 ∧ ∀ H', Same H H' → Q (.bl (fitB st cs)) H'
structure spFirst (vs : List V) (H : Hp) (Q : VK) (_ : XK) : Prop where
  h : ∃ n : Nat, vs = [.int n] ∧ 1 ≤ n ∧ n ≤ 7 ∧ Q (.str (sstr (shutS n))) H
theorem mul_shut {n : Nat} (h1 : 1 ≤ n) (h7 : n ≤ 7) : Txt.mul "s" (n : Int) = sstr (shutS n) := by
  have : n = 1 ∨ n = 2 ∨ n = 3 ∨ n = 4 ∨ n = 5 ∨ n = 6 ∨ n = 7 := by omega
  rcases this with rfl | rfl | rfl | rfl | rfl | rfl | rfl <;> decide +kernel
section
variable {P : Program} {w : World} {K : PySem.W.Frag} {mg : Str → Option Value} {base : Heap}
theorem scFirst : FnScope ["drawers"] ["drawers"] (defScope s_first_standing) := ⟨rfl, rfl, rfl, by decide +kernel, rfl, by decide +kernel, by decide +kernel⟩
theorem ok_first {f aS : Addr} {fd : FuncData} (F : Fun K "first_standing" "first_standing" s_first_standing f fd) (T : SgT K w mg aS) : FnOk P w K mg base CX0 1 f fd ["drawers"] spFirst := by
  refine F.ok scFirst (fun vs H Q E h => ?_) (fun cdv A outer s H vs Q E hr h => ?_)
  · obtain ⟨n, rfl, _⟩ := h.h
    rfl
  · obtain ⟨n, rfl, h1, h7, k⟩ := h.h
    refine ⟨_, pss_one (ps_ret (pe_op op_mul_str (pe_ix ix_kdict (pe_glob (v := .ref aS) rfl T.g rfl) pe_str (fun _ _ => rfl)) (pv 0))), ?_⟩
    refine ⟨aS, _, _, rfl, rfl, T.s, _, rfl, "s", (n : Int), rfl, rfl, mulOk_one (by decide +kernel) (by omega) (by omega), ?_⟩
    rw [mul_shut h1 h7]
    exact k
abbrev nFi : List Str := ["standing", "pattern", "sign", "wanted"]
theorem scFi : FnScope nFi ["standing", "pattern"] (defScope s_fits) := ⟨rfl, rfl, rfl, by decide +kernel, rfl, by decide +kernel, by decide +kernel⟩
theorem ok_fits {f : Addr} {fd : FuncData} (F : Fun K "fits" "fits" s_fits f fd) (zZ : mg "zip" = none) (zA : mg "all" = none) : FnOk P w K mg base CX0 1 f fd ["standing", "pattern"] spFits := by
  refine F.ok scFi (fun vs H Q E h => ?_) (fun cdv A outer s H vs Q E hr h => ?_)
  · obtain ⟨st, cs, rfl, _⟩ := h.h
    rfl
  · obtain ⟨st, cs, rfl, hl, h7, k⟩ := h.h
    refine ⟨_, pss_one (ps_ret (pe_callB (cr_all rfl) (by rfl) zA boot_all_ (pa_cons
        (pe_lc (own := [("sign", 2), ("wanted", 3)]) (g := gTup K 2 (gCons (gName 2) (gCons (gName 3) gNil))) (tt := tYes) (by rfl) scFi.nd (pi_zipS (by rfl) zZ (pa_cons (pv 0) (pa_cons (pv 1) pa_nil))) (blkOk_by (N := nFi) (sc := defScope s_fits) (by decide +kernel))
          (fun _ _ _ _ _ => pg_tupK (K := K) rfl rfl (pgs_cons (pg_name (i := 2) scFi.nd rfl (Or.inl rfl)) (pgs_cons (pg_name (i := 3) scFi.nd rfl (Or.inl rfl)) pgs_nil))) (fun _ _ _ _ _ => pts_nil)
          (fun _ _ _ _ _ => pe_cmpR (op_in_seqK (K := K) rfl) (pv 3) (pe_tup (pa_cons pe_str (pa_cons (pv 2) pa_nil))) (by rfl))) pa_nil))), ?_⟩
    refine ⟨_, rfl, _, rfl, _, _, rfl, fun D hD => ?_⟩
    have hsz : (sstr st).cps.size = (pstr cs).cps.size := by
      have e1 : (sstr st).cps.size = st.length := sstr_len st
      have e2 : (pstr cs).cps.size = cs.length := pstr_len cs
      omega
    refine lc_it (walk_zipS hsz) (fun i H' => Same H H' ∧ H' D = some (.lst ((((List.range st.length).take i).map (fitAt st cs)).map V.bl))) ⟨same_upd hD, upd_same⟩ (fun _ _ _ _ => trivial) ?_ ?_
    · rintro i x H1 H2 hi ⟨s1, hD1⟩ ⟨T, c, d, rfl, hT, rfl, ec, ed⟩
      have hi' : i < st.length := by
        have e1 : (sstr st).cps.size = st.length := sstr_len st
        omega
      refine ⟨T, _, rfl, SqT.of' upd_same, rfl, _, _, rfl, _, _, rfl, rfl, rfl, tYes_of (iteT ?_)⟩
      refine ⟨_, rfl, _, rfl, (by show 2 ≤ sizeLine; decide), fun q hq => ?_⟩
      refine ⟨q, _, rfl, .inr (SqT.of' upd_same), rfl, rfl, ?_⟩
      rw [if_neg Bool.false_ne_true, in_two]
      have s2 := (s1.trans (same_upd (o := .tup [.str ⟨#[c]⟩, .str ⟨#[d]⟩]) hT)).trans (same_upd (o := .tup [.str "?", .str ⟨#[c]⟩]) hq)
      have hDq : D ≠ q := ne_of_none (by rw [upd_ne (ne_of_none hD1 hT)]; exact hD1) hq
      refine ⟨_, by rw [upd_ne hDq, upd_ne (ne_of_none hD1 hT)]; exact hD1, ?_, fun b o e => ?_, ?_⟩
      · rw [List.length_map, List.length_map, List.length_take, List.length_range]
        exact small1000 (by omega)
      · rw [upd_ne (ne_of_none e hD)]
        exact s2 b o e
      · rw [upd_same, ← take_succ_map (fitAt st cs) (List.getElem?_range hi'), List.map_append]
        congr 3
        show [V.bl (decide (d = 63) || decide (d = c))] = [V.bl (fitAt st cs i)]
        unfold fitAt
        have e1 : c = sg (st.getD i false) := by
          rw [← Array.getElem?_toList, sstr_tl, List.getElem?_map] at ec
          rw [List.getD_eq_getElem?_getD]
          cases q : st[i]? with
          | none => rw [q] at ec; cases ec
          | some b => rw [q] at ec; exact (Option.some.inj ec).symm
        have e2 : d = cs.getD i 0 := by
          rw [← Array.getElem?_toList, pstr_tl] at ed
          rw [List.getD_eq_getElem?_getD, ed]
          rfl
        rw [e1, e2]
    · rintro H' ⟨s1, hD1⟩
      refine ⟨D, _, rfl, SqL.of hD1, ?_⟩
      have e1 : (sstr st).cps.size = st.length := sstr_len st
      rw [e1, List.take_of_length_le (by rw [List.length_range]; exact Nat.le_refl _)]
      exact k H' s1
end
end DL

set_option Elab.async false
set_option maxRecDepth 100000
namespace DL
open PySem L2 HT TL
theorem inV_ints (i : Int) (l : List Int) : inV (.int i) (l.map V.int) = decide (i ∈ l) := by
  unfold inV
  induction l with
  | nil => rfl
  | cons a l ih =>
    rw [List.map_cons, List.any_cons, ih]
    show ((a == i) || decide (i ∈ l)) = decide (i ∈ a :: l)
    by_cases q : i = a
    · subst q
      simp
    · have q' : ¬ a = i := fun z => q z.symm
      simp [q, q']
theorem flat_ints (l : List Int) : (l.map V.int).all flatV = true := by
  rw [List.all_eq_true]
  intro x hx
  obtain ⟨i, _, rfl⟩ := List.mem_map.mp hx
  rfl
end DL

set_option Elab.async false
set_option maxRecDepth 100000
namespace DL
open PySem L2 HT TL
/-! ### a drawn cabinet: its parts at p, itself at c; the row of draws at r -/
structure Lay (C r p c : Addr) (H : Hp) (n : Int) (bs : List Bar) : Prop where
  h : ∃ (t : Addr) (ks : List (Addr × Bar)) (zs : List V), H p = some (.lst (.int n :: .ref t :: zs)) ∧ CabAt C H c n t ∧ BarsAt H t ks ∧ ks.map (·.2) = bs ∧ OkBars n bs ∧ 1 ≤ n ∧ n ≤ 7 ∧ bs.length ≤ 100 ∧ p ≠ r
theorem Lay.dr {C r p c : Addr} {H : Hp} {n : Int} {bs : List Bar} (L : Lay C r p c H n bs) : DrOk H p n bs := by
  obtain ⟨t, ks, zs, h1, h2, h3, h4, h5, h6, h7, h8, _⟩ := L.h
  exact ⟨⟨t, ks, zs, h1, h3, h4, h5, h6, h7, h8⟩⟩
theorem Lay.cab {C r p c : Addr} {H : Hp} {n : Int} {bs : List Bar} (L : Lay C r p c H n bs) : CabOk C H c n bs := by
  obtain ⟨t, ks, zs, h1, h2, h3, h4, h5, h6, h7, h8, _⟩ := L.h
  exact ⟨⟨t, ks, h2, h3, h4, h5, h6, h7, h8⟩⟩
theorem Lay.but {C r sc p c : Addr} {H H' : Hp} {n : Int} {bs : List Bar} (L : Lay C r p c H n bs) (R : RowOk H r sc) (B : But r H H') : Lay C r p c H' n bs := by
  obtain ⟨t, ks, zs, h1, ⟨dx, h2⟩, h3, h4, h5, h6, h7, h8, h9⟩ := L.h
  obtain ⟨i, m, e, hR, _⟩ := R.h
  exact ⟨⟨t, ks, zs, B _ _ h9 h1, ⟨dx, B _ _ (ne_of h2 hR (by intro z; cases z)) h2⟩, ⟨B.tup hR h3.tu, fun k hk => B.tup hR (h3.el k hk)⟩, h4, h5, h6, h7, h8, h9⟩⟩
theorem Lay.same {C r p c : Addr} {H H' : Hp} {n : Int} {bs : List Bar} (L : Lay C r p c H n bs) (s : Same H H') : Lay C r p c H' n bs := by
  obtain ⟨t, ks, zs, h1, ⟨dx, h2⟩, h3, h4⟩ := L.h
  exact ⟨⟨t, ks, zs, s _ _ h1, ⟨dx, s _ _ h2⟩, h3.same s, h4⟩⟩
theorem Lay.n1 {C r p c : Addr} {H : Hp} {n : Int} {bs : List Bar} (L : Lay C r p c H n bs) : 1 ≤ n ∧ n ≤ 7 := by
  obtain ⟨t, ks, zs, h1, h2, h3, h4, h5, h6, h7, h8⟩ := L.h
  exact ⟨h6, h7⟩
/-- the first part, the number of drawers -/
theorem Lay.at0 {C r p c : Addr} {H : Hp} {n : Int} {bs : List Bar} (L : Lay C r p c H n bs) (K : PySem.W.Frag) : ∃ xs, SqL K H p xs ∧ atI xs 0 = some (.int n) := by
  obtain ⟨t, ks, zs, h1, _⟩ := L.h
  exact ⟨_, SqL.of h1, atI_nat (j := 0) rfl⟩
/-- as the parts were drawn, the cabinet made -/
theorem Lay.mk' {C r p c t sc : Addr} {H1 H2 H3 : Hp} {n : Int} {ks : List (Addr × Bar)} (R1 : RowOk H1 r sc) (hp0 : H1 p = none) (hp : H3 p = some (.lst [.int n, .ref t])) (hcab : CabAt C H3 c n t) (hB : BarsAt H2 t ks) (s : Same H2 H3) (O : OkBars n (ks.map (·.2))) (n1 : 1 ≤ n) (n7 : n ≤ 7) (h13 : ks.length ≤ 13) :
    Lay C r p c H3 n (ks.map (·.2)) := by
  obtain ⟨i1, m1, e1, q1, _⟩ := id R1.h
  exact ⟨⟨t, ks, [], hp, hcab, hB.same s, rfl, O, n1, n7, by rw [List.length_map]; omega, (ne_of_none q1 hp0).symm⟩⟩
theorem free_in {bs : List Bar} {st : List Bool} {d : Int} (h : d ∈ freeL bs st) : 0 ≤ d ∧ d < st.length := by
  have hm := (List.mem_filter.mp h).1
  unfold drs at hm
  obtain ⟨i, hi, rfl⟩ := List.mem_map.mp hm
  have := List.mem_range.mp hi
  omega
end DL

set_option Elab.async false
set_option maxRecDepth 100000
set_option maxHeartbeats 1000000

set_option Elab.async false
set_option maxRecDepth 100000
set_option maxHeartbeats 1000000

set_option Elab.async false
set_option maxRecDepth 100000
set_option maxHeartbeats 1000000
namespace DL
open PySem L2
/-! ### the checks with what they raise -/
/-- what is_bar says False of -/
def NoBar (K : PySem.W.Frag) (H : Hp) (n : Int) (v : V) : Prop := (∃ t : Value, TyX K H v t ∧ PySem.W.kitOne K t (.type "tuple") = some false) ∨
  (∃ (a : Addr) (xs : List V), v = .ref a ∧ SqT K H a xs ∧ xs.length ≠ 4) ∨
  ∃ (a : Addr) (x0 x1 x2 x3 : V), v = .ref a ∧ SqT K H a [x0, x1, x2, x3] ∧ scV x0 = true ∧ scV x1 = true ∧ scV x2 = true ∧ scV x3 = true ∧ barB n x0 x1 x2 x3 = false
theorem NoBar.sp {K : PySem.W.Frag} {H : Hp} {n : Int} {v : V} {Q : VK} {E : XK} (h : NoBar K H n v) (k : Q (.bl false) H) : spIsBar K [.int n, v] H Q E := by
  rcases h with ⟨t, h1, h2⟩ | ⟨a, xs, rfl, h1, h2⟩ | ⟨a, x0, x1, x2, x3, rfl, h1, c0, c1, c2, c3, h2⟩
  · exact ⟨⟨n, .inl ⟨v, t, rfl, h1, h2, k⟩⟩⟩
  · exact ⟨⟨n, .inr (.inl ⟨a, xs, rfl, h1, h2, k⟩)⟩⟩
  · exact ⟨⟨n, .inr (.inr ⟨a, x0, x1, x2, x3, rfl, h1, c0, c1, c2, c3, by rw [h2]; exact k⟩)⟩⟩
end DL

set_option Elab.async false
set_option maxRecDepth 100000
namespace DL
open PySem L2 HT TL RZ
/-! ### sets of drawers -/
def ascB (ns : List Int) : Bool := (ns.zip (ns.drop 1)).all fun p => decide (p.1 < p.2)
def setB (n : Int) (xs : List V) : Bool := xs.all (isD n) && ascB (xs.map intOf)
structure spIsSet (K : PySem.W.Frag) (vs : List V) (H : Hp) (Q : VK) (_ : XK) : Prop where
  h : ∃ (n : Int) (v : V), vs = [.int n, v] ∧ ((∃ t : Value, TyX K H v t ∧ PySem.W.kitOne K t (.type "tuple") = some false ∧ Q (.bl false) H) ∨
    ∃ (a : Addr) (xs : List V), v = .ref a ∧ SqT K H a xs ∧ xs.length ≤ 1000 ∧ (∀ x ∈ xs, scV x = true) ∧ ∀ H', Same H H' → Q (.bl (setB n xs)) H')
theorem walk_zipT {K : PySem.W.Frag} {a b : Addr} {xs ys : List V} {n : Nat} (hn : n = min xs.length ys.length) : Walk (ItzT K a b) n (fun H => SqT K H a xs ∧ SqT K H b ys) (YPair (fun i => xs[i]?) (fun i => ys[i]?)) := by
  subst hn
  refine ⟨fun i _ hi q => ?_, fun _ q => ⟨xs, ys, q.1, q.2, by omega⟩, fun i H v H' _ q y => ?_⟩
  · have l1 : i < xs.length := by omega
    have l2 : i < ys.length := by omega
    exact ⟨xs, ys, xs[i], ys[i], q.1, q.2, List.getElem?_eq_getElem l1, List.getElem?_eq_getElem l2⟩
  · obtain ⟨T, x, z, e1, e2, e3, e4, e5⟩ := y
    exact ⟨T, x, z, e1, e2, e3, e4 xs q.1, e5 ys q.2⟩
theorem cut1_empty {xs : List V} : (HT.sIx xs.length 0 (some 1) = 0 ∧ HT.sIx xs.length xs.length none = xs.length) ↔ xs = [] := by
  rw [show (some (1 : Int)) = some ((1 : Nat) : Int) from rfl, HT.sIx_nat, HT.sIx_none]
  cases xs with
  | nil => simp
  | cons x xs => simp
theorem cut1 {xs : List V} : cutV xs (some 1) none = xs.drop 1 := by
  unfold cutV
  rw [show (some (1 : Int)) = some ((1 : Nat) : Int) from rfl, HT.sIx_nat, HT.sIx_none]
  cases xs with
  | nil => rfl
  | cons x xs => simp
theorem zip_pairs {ns : List Int} {i : Nat} {p : Int × Int} (h : (ns.zip (ns.drop 1))[i]? = some p) : (ns.map V.int)[i]? = some (.int p.1) ∧ ((ns.map V.int).drop 1)[i]? = some (.int p.2) := by
  rw [List.getElem?_zip_eq_some] at h
  rw [← List.map_drop, List.getElem?_map, List.getElem?_map, h.1, h.2]
  exact ⟨rfl, rfl⟩
theorem bl_all {α : Type} (l : List α) (f : α → Bool) : (l.map f).all id = l.all f := by rw [List.all_map]; rfl
section
variable {P : Program} {w : World} {K : PySem.W.Frag} {mg : Str → Option Value} {base : Heap}
abbrev nIS : List Str := ["drawers", "value", "drawer", "one", "other"]
theorem scIS : FnScope nIS ["drawers", "value"] (defScope s_is_set) := ⟨rfl, rfl, rfl, by decide +kernel, rfl, by decide +kernel, by decide +kernel⟩
theorem ok_isSet {f f1 : Addr} {fd fd1 : FuncData} (F : Fun K "is_set" "is_set" s_is_set f fd) (T : Bt mg) (zA : mg "all" = none) (zZ : mg "zip" = none) (G : FnOk P w K mg base CX0 2 f1 fd1 ["drawers", "value"] (spIsDrawer K)) (g1 : mg "is_drawer" = some (.ref f1)) (k1 : PySem.W.keepIn K (.ref f1) = true) (b1 : Binds K fd1 ["drawers", "value"] []) :
    FnOk P w K mg base CX0 4 f fd ["drawers", "value"] (spIsSet K) := by
  refine F.ok scIS (fun vs H Q E h => ?_) (fun cdv A outer s H vs Q E hr h => ?_)
  · obtain ⟨n, v, rfl, _⟩ := h.h
    rfl
  · obtain ⟨n, v, rfl, hv⟩ := h.h
    refine ⟨_, pss_cons (ps_if (PW.pt (pw_or (pt_not (pt_val (pe_callB call_isi (by rfl) T.isinstance (by decide +kernel) (pa_cons (pv 1) (pa_cons (pe_bltn (v := .ty "tuple") (by rfl) T.tuple (by decide +kernel) rfl) pa_nil)))))
        (pw_or1 (pt_not (pt_val (pe_callB (cr_all rfl) (by rfl) zA boot_all_ (pa_cons
          (pe_lc (own := [("drawer", 2)]) (g := gName 2) (tt := tYes) (by rfl) scIS.nd (pi_tup (pv 1)) (blkOk_by (N := nIS) (sc := defScope s_is_set) (by decide +kernel)) (fun _ _ _ _ _ => pg_name (i := 2) scIS.nd rfl (Or.inl rfl)) (fun _ _ _ _ _ => pts_nil)
            (fun _ _ _ _ _ => pe_call G (hr.mono (by decide)) rfl g1 k1 b1 .nil pass0 (pa_cons (pv 0) (pa_cons (pv 2) pa_nil)))) pa_nil))))))) (pss_one (ps_ret pe_bl)) pss_nil)
      (pss_one (ps_ret (pe_callB (cr_all rfl) (by rfl) zA boot_all_ (pa_cons
          (pe_lc (own := [("one", 3), ("other", 4)]) (g := gTup K 2 (gCons (gName 3) (gCons (gName 4) gNil))) (tt := tYes) (by rfl) scIS.nd (pi_zipA (by rfl) zZ (pa_cons (pv 1) (pa_cons (pe_slice sl_tupA (pv 1) (po_some pe_int) po_none) pa_nil))) (blkOk_by (N := nIS) (sc := defScope s_is_set) (by decide +kernel))
            (fun _ _ _ _ _ => pg_tupK (K := K) rfl rfl (pgs_cons (pg_name (i := 3) scIS.nd rfl (Or.inl rfl)) (pgs_cons (pg_name (i := 4) scIS.nd rfl (Or.inl rfl)) pgs_nil))) (fun _ _ _ _ _ => pts_nil)
            (fun _ _ _ _ _ => pe_cmpR op_lt (pv 3) (pv 4) (nomark _))) pa_nil)))), ?_⟩
    rcases hv with ⟨t, hty, hk, k⟩ | ⟨a, xs, rfl, S, hlen, hsc, k⟩
    · exact ⟨_, rfl, _, _, t, _, false, rfl, .ty "tuple", hty, hk, _, rfl, iteT k⟩
    · refine ⟨_, rfl, _, _, _, _, true, rfl, .ty "tuple", tyT S, kit_ty (by decide +kernel), _, rfl, iteF ?_⟩
      refine ⟨_, rfl, a, rfl, ⟨_, S⟩, fun D hD => ?_⟩
      refine lc_pick (walk_tup (K := K) (a := a) (xs := xs)) xs rfl (by omega) (fun _ => true) (fun x => V.bl (isD n x)) hD (fun H' s1 => SqT.same s1 S) ?_ ?_
      · rintro i x z H1 H1' Tk Nk ez s1 ⟨rfl, ex⟩ kT kF
        have ex : xs[i]? = some x := ex
        rw [ez] at ex
        cases ex
        refine ⟨rfl, tYes_of (iteT ?_)⟩
        refine ⟨_, rfl, _, rfl, ?_⟩
        exact spIsDrawer_sc (hsc _ (List.mem_of_getElem? ez)) (kT _ rfl (Same.refl _))
      · intro H1 s1 hD1
        rw [List.filter_eq_self.mpr fun _ _ => rfl] at hD1
        refine ⟨D, xs.map (isD n), rfl, SqL.of (by rw [hD1, List.map_map]; rfl), _, rfl, ?_⟩
        rw [bl_all]
        cases ea : xs.all (isD n) with
        | false =>
          refine iteT ?_
          have := k H1 s1
          unfold setB at this
          rw [ea] at this
          exact this
        | true =>
          refine iteF ?_
          obtain ⟨e1, e2⟩ := ints_of ea
          have S1 := SqT.same s1 S
          have fin : ∀ (H2 : Hp) (b : Addr) (Qf : VK), Same H H2 → SqT K H2 b (xs.drop 1) → (∀ H3, Same H2 H3 → Qf (.bl (ascB (xs.map intOf))) H3) →
              lcC (ItzT K a b) (gTup K 2 (gCons (gName 3) (gCons (gName 4) gNil))) tYes (tOp (rI0 fun i j => V.bl (decide (i < j))) (tVar 3) (tVar 4)) [3, 4] (L2.start nIS [.int n, .ref a]) (fun v H3 => rAll K [v] H3 Qf) H2 := by
            intro H2 b Qf s2 Sb kq D2 hD2
            have Sa := SqT.same s2 S
            have hl : ((xs.map intOf).zip ((xs.map intOf).drop 1)).length = min xs.length (xs.drop 1).length := by rw [List.length_zip, List.length_drop, List.length_map, List.length_drop]
            refine lc_pick (walk_zipT (K := K) (a := a) (b := b) (xs := xs) (ys := xs.drop 1) rfl) ((xs.map intOf).zip ((xs.map intOf).drop 1)) hl (by rw [List.length_drop]; omega) (fun _ => true) (fun p => V.bl (decide (p.1 < p.2))) hD2 (fun H' s3 => ⟨SqT.same s3 Sa, SqT.same s3 Sb⟩) ?_ ?_
            · rintro i x p H3 H3' Tk Nk ep s3 ⟨T, u, v, rfl, hT, rfl, eu, ev⟩ kT kF
              obtain ⟨p1, p2⟩ := zip_pairs ep
              rw [← e1] at p1 p2
              have eu : xs[i]? = some u := eu
              have ev : (xs.drop 1)[i]? = some v := ev
              rw [p1] at eu
              rw [p2] at ev
              cases eu
              cases ev
              refine ⟨T, _, rfl, SqT.of' upd_same, rfl, _, _, rfl, _, _, rfl, rfl, rfl, tYes_of (iteT ?_)⟩
              exact ⟨_, rfl, _, rfl, _, _, rfl, rfl, kT _ rfl (same_upd hT)⟩
            · intro H3 s3 hD3
              rw [List.filter_eq_self.mpr fun _ _ => rfl] at hD3
              refine ⟨D2, ((xs.map intOf).zip ((xs.map intOf).drop 1)).map fun p => decide (p.1 < p.2), rfl, SqL.of (by rw [hD3, List.map_map]; rfl), ?_⟩
              rw [bl_all]
              exact kq H3 s3
          have kk : ∀ H3, Same H H3 → Q (.bl (ascB (xs.map intOf))) H3 := fun H3 s3 => by
            have := k H3 s3
            unfold setB at this
            rw [ea] at this
            exact this
          refine ⟨_, rfl, _, rfl, _, rfl, a, xs, rfl, S1, fun hw => ?_, fun hw p hp => ?_⟩
          · have hx : xs = [] := cut1_empty.mp hw
            exact ⟨a, a, xs, xs, rfl, .inr ⟨S1, S1, fin H1 a Q s1 (by rw [hx] at S1 ⊢; exact S1) fun H3 s3 => kk H3 (s1.trans s3)⟩⟩
          · have s2 := same_upd (o := .tup (cutV xs (some 1) none)) hp
            exact ⟨a, p, xs, cutV xs (some 1) none, rfl, .inr ⟨SqT.same s2 S1, SqT.of' upd_same, fin _ p Q (s1.trans s2) (by rw [← cut1]; exact SqT.of' upd_same) fun H3 s3 => kk H3 ((s1.trans s2).trans s3)⟩⟩
end
/-- a set: its drawers stand at a -/
structure SetAt (K : PySem.W.Frag) (H : Hp) (n : Int) (a : Addr) (ns : List Int) : Prop where
  at' : SqT K H a (ns.map V.int)
  low : ∀ d ∈ ns, 0 ≤ d ∧ d < n
  asc : ns.Pairwise (· < ·)
theorem SetAt.same {K : PySem.W.Frag} {H H' : Hp} {n : Int} {a : Addr} {ns : List Int} (S : SetAt K H n a ns) (s : Same H H') : SetAt K H' n a ns := ⟨SqT.same s S.at', S.low, S.asc⟩
theorem asc_pw : ∀ {ns : List Int}, ns.Pairwise (· < ·) → ascB ns = true := by
  intro ns h
  unfold ascB
  rw [List.all_eq_true]
  intro p hp
  obtain ⟨i, hi⟩ := List.getElem?_of_mem hp
  rw [List.getElem?_zip_eq_some] at hi
  obtain ⟨h1, h2⟩ := hi
  rw [List.getElem?_drop] at h2
  obtain ⟨l1, e1⟩ := List.getElem?_eq_some_iff.mp h1
  obtain ⟨l2, e2⟩ := List.getElem?_eq_some_iff.mp h2
  have := List.pairwise_iff_getElem.mp h i (1 + i) l1 l2 (by omega)
  rw [e1, e2] at this
  exact decide_eq_true this
theorem setB_ints {n : Int} {ns : List Int} (hl : ∀ d ∈ ns, 0 ≤ d ∧ d < n) (ha : ns.Pairwise (· < ·)) : setB n (ns.map V.int) = true := by
  unfold setB
  have e : (ns.map V.int).map intOf = ns := by
    rw [List.map_map]
    exact List.map_id ns
  rw [e, asc_pw ha, Bool.and_true, List.all_eq_true]
  intro x hx
  obtain ⟨d, hd, rfl⟩ := List.mem_map.mp hx
  obtain ⟨d0, d1⟩ := hl d hd
  show (decide (0 ≤ d) && decide (d < n)) = true
  rw [decide_eq_true d0, decide_eq_true d1]
  rfl
theorem pw_low_len {n : Nat} {ns : List Int} (hl : ∀ d ∈ ns, 0 ≤ d ∧ d < n) (ha : ns.Pairwise (· < ·)) : ns.length ≤ n := by
  have nd : ns.Nodup := ha.imp fun h => by omega
  have hs : ∀ d ∈ ns, d ∈ drs n := fun d hd => by
    obtain ⟨d0, d1⟩ := hl d hd
    unfold drs
    exact List.mem_map.mpr ⟨d.toNat, List.mem_range.mpr (by omega), by omega⟩
  have := nd.length_le_of_subset hs
  rw [drs_len] at this
  exact this
structure spCkSet (K : PySem.W.Frag) (C : Addr) (vs : List V) (H : Hp) (Q : VK) (_ : XK) : Prop where
  h : ∃ (c a : Addr) (n : Nat) (t : Addr) (ns : List Int), vs = [.ref c, .ref a] ∧ CabAt C H c n t ∧ n ≤ 7 ∧ SetAt K H n a ns ∧ ∀ H', Same H H' → Q .non H'
section
variable {P : Program} {w : World} {K : PySem.W.Frag} {mg : Str → Option Value} {base : Heap}
theorem scCkS : FnScope ["cabinet", "some"] ["cabinet", "some"] (defScope s_check_set) := ⟨rfl, rfl, rfl, by decide +kernel, rfl, by decide +kernel, by decide +kernel⟩
theorem ok_ckSet {f f1 C : Addr} {fd fd1 : FuncData} (F : Fun K "check_set" "check_set" s_check_set f fd) (CP : CabP P w K mg base C) (G : FnOk P w K mg base CX0 4 f1 fd1 ["drawers", "value"] (spIsSet K)) (g1 : mg "is_set" = some (.ref f1)) (k1 : PySem.W.keepIn K (.ref f1) = true) (b1 : Binds K fd1 ["drawers", "value"] []) :
    FnOk P w K mg base CX0 6 f fd ["cabinet", "some"] (spCkSet K C) := by
  refine F.ok scCkS (fun vs H Q E h => ?_) (fun cdv A outer s H vs Q E hr h => ?_)
  · obtain ⟨c, a, n, t, ns, rfl, _⟩ := h.h
    rfl
  · obtain ⟨c, a, n, t, ns, rfl, ⟨dx, hc⟩, n7, S, k⟩ := h.h
    obtain ⟨pD, gD, fdD, hpD, GD, bD⟩ := CP.d
    refine ⟨_, pss_one (ps_if (pt_not (pt_val (pe_call G (hr.mono (by decide)) rfl g1 k1 b1 .nil pass0 (pa_cons (pe_prop (pv 0) CP.cl hpD GD (hr.mono (by decide)) bD .nil pass0 rfl) (pa_cons (pv 1) pa_nil))))) (pss_one ps_never) pss_nil), ?_⟩
    have hl := pw_low_len S.low S.asc
    refine ⟨_, rfl, c, dx, _, rfl, hc, ⟨⟨c, dx, _, t, rfl, hc, _, rfl, ⟨⟨n, _, rfl, .inr ⟨a, _, rfl, S.at', by rw [List.length_map]; omega, fun x hx => ?_, fun H' s1 => ⟨_, rfl, ?_⟩⟩⟩⟩⟩⟩⟩
    · obtain ⟨d, _, rfl⟩ := List.mem_map.mp hx
      rfl
    · rw [setB_ints S.low S.asc]
      exact iteF (k H' s1)
end
end DL

set_option Elab.async false
set_option maxRecDepth 100000
namespace DL
open PySem PySem.Spec PyProof.Rows L2
/-! ### a walk over a list or a tuple, whichever it is -/
def iSeq (K : PySem.W.Frag) (tl : TE) : TI := fun σ H R => tl σ H fun x H1 => ∃ a : Addr, x = .ref a ∧ (((∃ xs : List V, SqL K H1 a xs) ∧ R (Itl K a) H1) ∨ ((∃ xs : List V, SqT K H1 a xs) ∧ R (Itt K a) H1))
theorem pi_seq {X : Cx} {K : PySem.W.Frag} {tg : Expr} {l : Expr} {tl : TE} (hK : X.K = K) (hl : PE X l tl) : PI X tg l (iSeq K tl) := by
  subst hK
  refine ⟨fun pins s0 σ H R I0 rd => ?_⟩
  refine thn (hl.run pins s0 σ H _ I0 rd) fun v s1 ⟨x, H1, I1, rx, a, ea, q⟩ => ?_
  subst ea
  cases rx
  have new : ∀ b, b ∈ [s1.heap.objs.size] → FpOk X pins H1 b := fun b hb => by
    rw [List.mem_singleton.mp hb]
    exact I1.fpOk (Nat.le_refl _) (I1.hok.fresh (Nat.le_refl _))
  rcases q with ⟨⟨xs, hq⟩, q⟩ | ⟨⟨xs, hq⟩, q⟩
  · obtain ⟨_, _, pl, _⟩ := I1.list hq
    exact wpAny_pyIter_list pl.isList ⟨s1.heap.objs.size, [s1.heap.objs.size], _, _, H1, rfl,
      I1.kept (t' := s1.toks) (fun b o e => Heap.get?_push_of_some _ e), turn_list a _, ⟨_, Heap.get?_push_size _ rfl, rfl, rfl⟩, new, q⟩
  · obtain ⟨its, _, pl, _⟩ := I1.tuple hq
    exact wpAny_pyIter_tuple (show s1.heap.IsTuple a its.toArray from pl) ⟨s1.heap.objs.size, [s1.heap.objs.size], _, _, H1, rfl,
      I1.kept (t' := s1.toks) (fun b o e => Heap.get?_push_of_some _ e), turn_tuple a _, ⟨_, Heap.get?_push_size _ rfl, rfl, rfl⟩, new, q⟩
/-- at a: a list or a tuple -/
def SqA (K : PySem.W.Frag) (H : Hp) (a : Addr) (xs : List V) : Prop := SqL K H a xs ∨ SqT K H a xs
theorem ix_kdictK {X : Cx} {K : PySem.W.Frag} {w : World} (hK : X.K = K) (hw : X.w = w) : IxR X (rIxD K w) := by subst hK hw; exact ix_kdict
/-! ### two for in one comprehension -/
end DL

set_option Elab.async false
set_option maxRecDepth 100000
namespace DL
open PySem L2 HT TL
/-! ### rows in their order: by their number of pulls, then by their pulls; as numbers -/
def rcode (r : List Int) : Int := r.foldl (fun a d => a * 8 + (d + 1)) 0
theorem rcode_snoc (r : List Int) (d : Int) : rcode (r ++ [d]) = rcode r * 8 + (d + 1) := by
  unfold rcode
  rw [List.foldl_append]
  rfl
theorem rcode_nil : rcode [] = 0 := rfl
def Low7 (r : List Int) : Prop := ∀ d ∈ r, 0 ≤ d ∧ d ≤ 6
theorem snoc_ind {α : Type} {p : List α → Prop} (h0 : p []) (hs : ∀ l a, p l → p (l ++ [a])) (l : List α) : p l := by
  have : ∀ m : List α, p m.reverse := fun m => by
    induction m with
    | nil => exact h0
    | cons a m ih =>
      rw [List.reverse_cons]
      exact hs _ _ ih
  have h := this l.reverse
  rw [List.reverse_reverse] at h
  exact h
theorem Low7.init {r : List Int} {d : Int} (h : Low7 (r ++ [d])) : Low7 r ∧ 0 ≤ d ∧ d ≤ 6 := ⟨fun x hx => h x (List.mem_append_left _ hx), h d (List.mem_append_right _ (List.mem_singleton.mpr rfl))⟩
theorem rcode_nn : ∀ {r : List Int}, Low7 r → 0 ≤ rcode r := by
  intro r
  refine snoc_ind (p := fun r => Low7 r → 0 ≤ rcode r) (fun _ => Int.le_refl _) (fun l a ih h => ?_) r
  obtain ⟨h1, h2, h3⟩ := h.init
  have := ih h1
  rw [rcode_snoc]
  omega
theorem rcode_inj' : ∀ a b : List Int, Low7 a → Low7 b → rcode a = rcode b → a = b := by
  intro a
  refine snoc_ind (p := fun a => ∀ b, Low7 a → Low7 b → rcode a = rcode b → a = b) (fun b _ hb e => ?_) (fun l x ih b ha hb e => ?_) a
  · revert hb e
    refine snoc_ind (p := fun b => Low7 b → rcode [] = rcode b → [] = b) (fun _ _ => rfl) (fun l y _ hb e => ?_) b
    obtain ⟨h1, h2, h3⟩ := hb.init
    have := rcode_nn h1
    rw [rcode_snoc, rcode_nil] at e
    omega
  · obtain ⟨h1, h2, h3⟩ := ha.init
    have p1 := rcode_nn h1
    revert hb e
    refine snoc_ind (p := fun b => Low7 b → rcode (l ++ [x]) = rcode b → l ++ [x] = b) (fun _ e => ?_) (fun m y _ hb e => ?_) b
    · rw [rcode_snoc, rcode_nil] at e
      omega
    · obtain ⟨g1, g2, g3⟩ := hb.init
      have p2 := rcode_nn g1
      rw [rcode_snoc, rcode_snoc] at e
      rw [ih m h1 g1 (by omega), show x = y by omega]
theorem rcode_inj {a b : List Int} (ha : Low7 a) (hb : Low7 b) (h : rcode a = rcode b) : a = b := rcode_inj' a b ha hb h
/-- a row is before another -/
def Bef (a b : List Int) : Prop := rcode a < rcode b ∧ a.length ≤ b.length
/-- rows in order, each behind the first one but one pull longer than one of those ahead of the i-th -/
structure Asc (rs : List (List Int)) (i : Nat) : Prop where
  pw : rs.Pairwise Bef
  low : ∀ x ∈ rs, Low7 x
  par : ∀ x ∈ rs, x = [] ∨ ∃ (j : Nat) (q : List Int) (d : Int), j < i ∧ rs[j]? = some q ∧ x = q ++ [d]
structure AscD (rs : List (List Int)) (i : Nat) (p : List Int) (D : Int) : Prop where
  pw : rs.Pairwise Bef
  low : ∀ x ∈ rs, Low7 x
  at' : rs[i]? = some p
  par : ∀ x ∈ rs, x = [] ∨ (∃ (j : Nat) (q : List Int) (d : Int), j < i ∧ rs[j]? = some q ∧ x = q ++ [d]) ∨ ∃ d : Int, d < D ∧ x = p ++ [d]
theorem Asc.during {rs : List (List Int)} {i : Nat} {p : List Int} (A : Asc rs i) (h : rs[i]? = some p) : AscD rs i p 0 := by
  refine ⟨A.pw, A.low, h, fun x hx => ?_⟩
  rcases A.par x hx with q | q
  · exact .inl q
  · exact .inr (.inl q)
theorem AscD.done {rs : List (List Int)} {i : Nat} {p : List Int} {D : Int} (A : AscD rs i p D) : Asc rs (i + 1) := by
  refine ⟨A.pw, A.low, fun x hx => ?_⟩
  rcases A.par x hx with q | ⟨j, q, d, h1, h2, h3⟩ | ⟨d, h1, h2⟩
  · exact .inl q
  · exact .inr ⟨j, q, d, by omega, h2, h3⟩
  · exact .inr ⟨i, p, d, by omega, A.at', h2⟩
theorem AscD.up {rs : List (List Int)} {i : Nat} {p : List Int} {D D' : Int} (A : AscD rs i p D) (h : D ≤ D') : AscD rs i p D' := by
  refine ⟨A.pw, A.low, A.at', fun x hx => ?_⟩
  rcases A.par x hx with q | q | ⟨d, h1, h2⟩
  · exact .inl q
  · exact .inr (.inl q)
  · exact .inr (.inr ⟨d, by omega, h2⟩)
theorem AscD.below {rs : List (List Int)} {i : Nat} {p : List Int} {D d : Int} (A : AscD rs i p D) (hD : D ≤ d) (h0 : 0 ≤ d) : ∀ x ∈ rs, Bef x (p ++ [d]) := by
  intro x hx
  have hp : Low7 p := A.low p (List.mem_of_getElem? A.at')
  have pn := rcode_nn hp
  have lx := A.low x hx
  rcases A.par x hx with rfl | ⟨j, q, e, h1, h2, rfl⟩ | ⟨e, h1, rfl⟩
  · refine ⟨?_, by simp⟩
    rw [rcode_snoc, rcode_nil]
    omega
  · obtain ⟨g1, g2, g3⟩ := lx.init
    obtain ⟨l1, e1⟩ := List.getElem?_eq_some_iff.mp h2
    obtain ⟨l2, e2⟩ := List.getElem?_eq_some_iff.mp A.at'
    have := List.pairwise_iff_getElem.mp A.pw j i l1 l2 h1
    rw [e1, e2] at this
    obtain ⟨b1, b2⟩ := this
    refine ⟨?_, by rw [List.length_append, List.length_append]; exact Nat.add_le_add_right b2 _⟩
    rw [rcode_snoc, rcode_snoc]
    omega
  · refine ⟨?_, by rw [List.length_append, List.length_append]; exact Nat.le_refl _⟩
    rw [rcode_snoc, rcode_snoc]
    omega
theorem AscD.add {rs : List (List Int)} {i : Nat} {p : List Int} {D d : Int} (A : AscD rs i p D) (hD : D ≤ d) (h0 : 0 ≤ d) (h6 : d ≤ 6) : AscD (rs ++ [p ++ [d]]) i p (d + 1) := by
  have hp : Low7 p := A.low p (List.mem_of_getElem? A.at')
  have keep : ∀ (j : Nat) (q : List Int), rs[j]? = some q → (rs ++ [p ++ [d]])[j]? = some q := fun j q h => by
    rw [List.getElem?_append_left (List.getElem?_eq_some_iff.mp h).1]
    exact h
  refine ⟨?_, fun x hx => ?_, keep i p A.at', fun x hx => ?_⟩
  · rw [List.pairwise_append]
    refine ⟨A.pw, List.pairwise_singleton _ _, fun x hx y hy => ?_⟩
    rw [List.mem_singleton.mp hy]
    exact A.below hD h0 x hx
  · rcases List.mem_append.mp hx with hx | hx
    · exact A.low x hx
    · rw [List.mem_singleton.mp hx]
      intro e he
      rcases List.mem_append.mp he with he | he
      · exact hp e he
      · rw [List.mem_singleton.mp he]; exact ⟨h0, h6⟩
  · rcases List.mem_append.mp hx with hx | hx
    · rcases A.par x hx with q | ⟨j, q, e, h1, h2, h3⟩ | ⟨e, h1, h2⟩
      · exact .inl q
      · exact .inr (.inl ⟨j, q, e, h1, keep j q h2, h3⟩)
      · exact .inr (.inr ⟨e, by omega, h2⟩)
    · exact .inr (.inr ⟨d, by omega, List.mem_singleton.mp hx⟩)
/-! ### the pulls that go, one after another -/
theorem drs_pw (n : Nat) : (drs n).Pairwise (· < ·) := by
  unfold drs
  rw [List.pairwise_map]
  exact List.pairwise_lt_range.imp fun h => by omega
theorem free_pw (bs : List Bar) (st : List Bool) : (freeL bs st).Pairwise (· < ·) := (drs_pw st.length).filter _
theorem free_mem {bs : List Bar} {st : List Bool} {d : Int} : d ∈ freeL bs st ↔ (0 ≤ d ∧ d < st.length) ∧ goesB bs st d = true := by
  refine ⟨fun h => ⟨free_in h, (List.mem_filter.mp h).2⟩, fun h => ?_⟩
  refine List.mem_filter.mpr ⟨?_, h.2⟩
  unfold drs
  exact List.mem_map.mpr ⟨d.toNat, List.mem_range.mpr (by omega), by omega⟩
theorem pw_drop {l : List Int} (h : l.Pairwise (· < ·)) {t : Nat} {d : Int} (hd : l[t]? = some d) : (∀ x ∈ l.drop (t + 1), d + 1 ≤ x) ∧ l.drop t = d :: l.drop (t + 1) := by
  obtain ⟨h1, h2⟩ := List.getElem?_eq_some_iff.mp hd
  have e : l.drop t = d :: l.drop (t + 1) := by rw [List.drop_eq_getElem_cons h1, h2]
  refine ⟨fun x hx => ?_, e⟩
  have hp : (l.drop t).Pairwise (· < ·) := List.Pairwise.sublist (List.drop_sublist t l) h
  rw [e, List.pairwise_cons] at hp
  have := hp.1 x hx
  omega
theorem mem_take_succ {α : Type} {l : List α} {t : Nat} {d x : α} (hd : l[t]? = some d) (h : x ∈ l.take (t + 1)) : x ∈ l.take t ∨ x = d := by
  obtain ⟨h1, h2⟩ := List.getElem?_eq_some_iff.mp hd
  rw [List.take_succ_eq_append_getElem h1, h2] at h
  rcases List.mem_append.mp h with h | h
  · exact .inl h
  · exact .inr (List.mem_singleton.mp h)
/-! ### the queue: an entry is a standing and its row -/
abbrev Ent := List Bool × List Int
def Led (bs : List Bar) (s0 : List Bool) (e : Ent) : Prop := runB bs s0 e.2 = some e.1 ∧ (Low7 e.2 ∧ ∀ d ∈ e.2, 0 ≤ d ∧ d < s0.length) ∧ e.1.length = s0.length
theorem runB_snoc {bs : List Bar} : ∀ {r : List Int} {st : List Bool} {d : Int}, runB bs st (r ++ [d]) = (runB bs st r).bind fun s => if goesB bs s d = true then some (flip s d) else none
  | [], st, d => by
    show runB bs st [d] = _
    rw [runB_cons]
    rfl
  | x :: r, st, d => by
    show runB bs st (x :: (r ++ [d])) = _
    rw [runB_cons, runB_cons]
    by_cases q : goesB bs st x = true
    · rw [if_pos q, if_pos q]
      exact runB_snoc
    · rw [if_neg q, if_neg q]
      rfl
theorem Led.step {bs : List Bar} {s0 : List Bool} {p : Ent} {d : Int} (L : Led bs s0 p) (hd : d ∈ freeL bs p.1) (h7 : s0.length ≤ 7) : Led bs s0 (flip p.1 d, p.2 ++ [d]) := by
  obtain ⟨⟨d0, d1⟩, hg⟩ := free_mem.mp hd
  refine ⟨?_, ⟨fun x hx => ?_, fun x hx => ?_⟩, by rw [flip_len]; exact L.2.2⟩
  · show runB bs s0 (p.2 ++ [d]) = _
    rw [runB_snoc, L.1, Option.bind_some, if_pos hg]
  · rcases List.mem_append.mp hx with hx | hx
    · exact L.2.1.1 x hx
    · rw [List.mem_singleton.mp hx]
      have := L.2.2
      omega
  · rcases List.mem_append.mp hx with hx | hx
    · exact L.2.1.2 x hx
    · rw [List.mem_singleton.mp hx]
      have := L.2.2
      omega
structure BI (bs : List Bar) (s0 : List Bool) (i : Nat) (es : List Ent) : Prop where
  nd : (es.map (·.1)).Nodup
  asc : Asc (es.map (·.2)) i
  led : ∀ e ∈ es, Led bs s0 e
  ex : ∀ (j : Nat) (p : Ent), j < i → es[j]? = some p → ∀ d ∈ freeL bs p.1, ∃ e ∈ es, e.1 = flip p.1 d ∧ rcode e.2 ≤ rcode (p.2 ++ [d]) ∧ e.2.length ≤ p.2.length + 1
  root : (s0, []) ∈ es
structure BD (bs : List Bar) (s0 : List Bool) (i : Nat) (p : Ent) (t : Nat) (D : Int) (es : List Ent) : Prop where
  nd : (es.map (·.1)).Nodup
  asc : AscD (es.map (·.2)) i p.2 D
  led : ∀ e ∈ es, Led bs s0 e
  at' : es[i]? = some p
  ex : ∀ (j : Nat) (p : Ent), j < i → es[j]? = some p → ∀ d ∈ freeL bs p.1, ∃ e ∈ es, e.1 = flip p.1 d ∧ rcode e.2 ≤ rcode (p.2 ++ [d]) ∧ e.2.length ≤ p.2.length + 1
  exd : ∀ d ∈ (freeL bs p.1).take t, ∃ e ∈ es, e.1 = flip p.1 d ∧ rcode e.2 ≤ rcode (p.2 ++ [d]) ∧ e.2.length ≤ p.2.length + 1
  dle : ∀ d ∈ (freeL bs p.1).drop t, D ≤ d
  root : (s0, []) ∈ es
theorem BI.begin {bs : List Bar} {s0 : List Bool} : BI bs s0 0 [(s0, [])] := by
  refine ⟨by simp, ⟨List.pairwise_singleton _ _, fun x hx => ?_, fun x hx => .inl (List.mem_singleton.mp hx)⟩, fun e he => ?_, fun j p hj => by omega, List.mem_singleton.mpr rfl⟩
  · rw [List.mem_singleton.mp hx]
    intro d hd
    cases hd
  · rw [List.mem_singleton.mp he]
    exact ⟨rfl, ⟨fun d hd => (by cases hd), fun d hd => (by cases hd)⟩, rfl⟩
theorem BI.during {bs : List Bar} {s0 : List Bool} {i : Nat} {es : List Ent} {p : Ent} (B : BI bs s0 i es) (h : es[i]? = some p) : BD bs s0 i p 0 0 es :=
  ⟨B.nd, B.asc.during (by rw [List.getElem?_map, h]; rfl), B.led, h, B.ex, fun d hd => (by cases hd), fun d hd => (free_in (List.mem_of_mem_drop hd)).1, B.root⟩
theorem BD.done {bs : List Bar} {s0 : List Bool} {i : Nat} {p : Ent} {D : Int} {es : List Ent} (B : BD bs s0 i p (freeL bs p.1).length D es) : BI bs s0 (i + 1) es := by
  refine ⟨B.nd, B.asc.done, B.led, fun j q hj hq => ?_, B.root⟩
  by_cases e : j = i
  · subst e
    rw [B.at'] at hq
    cases hq
    have := B.exd
    rw [List.take_length] at this
    exact this
  · exact B.ex j q (by omega) hq
theorem BD.free {bs : List Bar} {s0 : List Bool} {i : Nat} {p : Ent} {t : Nat} {D : Int} {es : List Ent} (B : BD bs s0 i p t D es) {d : Int} (hd : (freeL bs p.1)[t]? = some d) (h7 : s0.length ≤ 7) :
    d ∈ freeL bs p.1 ∧ D ≤ d ∧ 0 ≤ d ∧ d ≤ 6 := by
  have hm := List.mem_of_getElem? hd
  obtain ⟨d0, d1⟩ := free_in hm
  have := (B.led p (List.mem_of_getElem? B.at')).2.2
  obtain ⟨_, e⟩ := pw_drop (free_pw bs p.1) hd
  exact ⟨hm, B.dle d (by rw [e]; exact List.mem_cons_self), d0, by omega⟩
theorem BD.old {bs : List Bar} {s0 : List Bool} {i : Nat} {p : Ent} {t : Nat} {D : Int} {es : List Ent} (B : BD bs s0 i p t D es) {d : Int} (hd : (freeL bs p.1)[t]? = some d) (h7 : s0.length ≤ 7) (h : flip p.1 d ∈ es.map (·.1)) : BD bs s0 i p (t + 1) (d + 1) es := by
  obtain ⟨hm, hD, d0, d6⟩ := B.free hd h7
  refine ⟨B.nd, B.asc.up (by omega), B.led, B.at', B.ex, fun x hx => ?_, (pw_drop (free_pw bs p.1) hd).1, B.root⟩
  rcases mem_take_succ hd hx with hx | rfl
  · exact B.exd x hx
  · obtain ⟨e, he, h1⟩ := List.mem_map.mp h
    obtain ⟨b1, b2⟩ := B.asc.below hD d0 e.2 (List.mem_map.mpr ⟨e, he, rfl⟩)
    rw [List.length_append] at b2
    exact ⟨e, he, h1, Int.le_of_lt b1, b2⟩
theorem BD.new {bs : List Bar} {s0 : List Bool} {i : Nat} {p : Ent} {t : Nat} {D : Int} {es : List Ent} (B : BD bs s0 i p t D es) {d : Int} (hd : (freeL bs p.1)[t]? = some d) (h7 : s0.length ≤ 7) (h : ¬ flip p.1 d ∈ es.map (·.1)) : BD bs s0 i p (t + 1) (d + 1) (es ++ [(flip p.1 d, p.2 ++ [d])]) := by
  obtain ⟨hm, hD, d0, d6⟩ := B.free hd h7
  have mono : ∀ {e : Ent}, e ∈ es → e ∈ es ++ [(flip p.1 d, p.2 ++ [d])] := fun he => List.mem_append_left _ he
  refine ⟨?_, ?_, fun e he => ?_, ?_, fun j q hj hq x hx => ?_, fun x hx => ?_, (pw_drop (free_pw bs p.1) hd).1, mono B.root⟩
  · rw [List.map_append, List.nodup_append]
    refine ⟨B.nd, by simp, fun x hx y hy => ?_⟩
    rw [List.mem_singleton.mp hy]
    intro z
    have z' : x = flip p.1 d := z
    rw [z'] at hx
    exact h hx
  · rw [List.map_append]
    exact B.asc.add hD d0 d6
  · rcases List.mem_append.mp he with he | he
    · exact B.led e he
    · rw [List.mem_singleton.mp he]
      exact (B.led p (List.mem_of_getElem? B.at')).step hm h7
  · rw [List.getElem?_append_left (List.getElem?_eq_some_iff.mp B.at').1]
    exact B.at'
  · have hq' : es[j]? = some q := by
      have := (List.getElem?_eq_some_iff.mp B.at').1
      rw [List.getElem?_append_left (by omega)] at hq
      exact hq
    obtain ⟨e, he, h1⟩ := B.ex j q hj hq' x hx
    exact ⟨e, mono he, h1⟩
  · rcases mem_take_succ hd hx with hx | rfl
    · obtain ⟨e, he, h1⟩ := B.exd x hx
      exact ⟨e, mono he, h1⟩
    · exact ⟨_, List.mem_append_right _ (List.mem_singleton.mpr rfl), rfl, Int.le_refl _, by rw [List.length_append]; exact Nat.le_refl _⟩
/-- every row that goes ends where an entry stands whose row is not behind it -/
theorem BI.opt {bs : List Bar} {s0 : List Bool} {es : List Ent} (B : BI bs s0 es.length es) (h7 : s0.length ≤ 7) : ∀ (r : List Int), (∀ d ∈ r, 0 ≤ d ∧ d < s0.length) → ∀ st, runB bs s0 r = some st → ∃ e ∈ es, e.1 = st ∧ rcode e.2 ≤ rcode r ∧ e.2.length ≤ r.length := by
  intro r
  refine snoc_ind (p := fun (r : List Int) => (∀ d ∈ r, 0 ≤ d ∧ d < s0.length) → ∀ st, runB bs s0 r = some st → ∃ e ∈ es, e.1 = st ∧ rcode e.2 ≤ rcode r ∧ e.2.length ≤ r.length) (fun _ st h => ?_) (fun l d ih hl st h => ?_) r
  · cases h
    exact ⟨_, B.root, rfl, Int.le_refl _, Nat.le_refl _⟩
  · rw [runB_snoc] at h
    cases hr : runB bs s0 l with
    | none => rw [hr] at h; cases h
    | some s1 =>
      rw [hr, Option.bind_some] at h
      by_cases hg : goesB bs s1 d = true
      · rw [if_pos hg] at h
        cases h
        obtain ⟨e, he, h1, h2, h3⟩ := ih (fun x hx => hl x (List.mem_append_left _ hx)) s1 hr
        obtain ⟨j, hj⟩ := List.getElem?_of_mem he
        have el := (B.led e he).2.2
        have hdm : d ∈ freeL bs e.1 := free_mem.mpr ⟨by have := hl d (List.mem_append_right _ (List.mem_singleton.mpr rfl)); omega, by rw [h1]; exact hg⟩
        obtain ⟨f, hf, g1, g2, g3⟩ := B.ex j e (List.getElem?_eq_some_iff.mp hj).1 hj d hdm
        refine ⟨f, hf, by rw [g1, h1], ?_, ?_⟩
        · rw [rcode_snoc] at g2 ⊢
          omega
        · rw [List.length_append]
          show f.2.length ≤ l.length + 1
          omega
      · rw [if_neg hg] at h
        cases h
/-! ### there are not many standings -/
theorem few : ∀ (n : Nat) (l : List (List Bool)), l.Nodup → (∀ x ∈ l, x.length = n) → l.length ≤ 2 ^ n
  | 0, l, hn, h => by
    cases l with
    | nil => exact Nat.zero_le _
    | cons a l =>
      cases l with
      | nil => exact Nat.le_refl _
      | cons b l =>
        have h1 := List.length_eq_zero_iff.mp (h a (by simp))
        have h2 := List.length_eq_zero_iff.mp (h b (by simp))
        rw [h1, h2] at hn
        simp at hn
  | n + 1, l, hn, h => by
    have part : ∀ b : Bool, (l.filter fun x => x.head? == some b).length ≤ 2 ^ n := fun b => by
      have e : ((l.filter fun x => x.head? == some b).map List.tail).length = (l.filter fun x => x.head? == some b).length := List.length_map ..
      rw [← e]
      have hd : ∀ x ∈ l.filter fun x => x.head? == some b, x = b :: x.tail := fun x hx => by
        have := (List.mem_filter.mp hx).2
        cases x with
        | nil => cases this
        | cons c x =>
          have : some c = some b := eq_of_beq this
          cases this
          rfl
      refine few n _ ?_ fun x hx => ?_
      · have h1 : (l.filter fun x => x.head? == some b).Nodup := hn.filter _
        unfold List.Nodup at h1 ⊢
        rw [List.pairwise_map]
        refine List.Pairwise.imp_of_mem (fun {x y} hx hy q z => q ?_) h1
        rw [hd x hx, hd y hy, z]
      · obtain ⟨y, hy, rfl⟩ := List.mem_map.mp hx
        rw [List.length_tail, h y (List.mem_filter.mp hy).1]
        rfl
    have split : l.length = (l.filter fun x => x.head? == some true).length + (l.filter fun x => x.head? == some false).length := by
      clear part hn
      induction l with
      | nil => rfl
      | cons a l ih =>
        have := ih fun x hx => h x (List.mem_cons_of_mem _ hx)
        have ha := h a List.mem_cons_self
        cases a with
        | nil => cases ha
        | cons c a =>
          cases c
          · rw [List.filter_cons_of_neg (by simp), List.filter_cons_of_pos (by simp), List.length_cons, List.length_cons]
            omega
          · rw [List.filter_cons_of_pos (by simp), List.filter_cons_of_neg (by simp), List.length_cons, List.length_cons]
            omega
    have p1 := part true
    have p2 := part false
    rw [Nat.pow_succ]
    omega
theorem led_few {bs : List Bar} {s0 : List Bool} {es : List Ent} (nd : (es.map (·.1)).Nodup) (led : ∀ e ∈ es, Led bs s0 e) (h7 : s0.length ≤ 7) : es.length ≤ 128 := by
  have := few s0.length (es.map (·.1)) nd fun x hx => by
    obtain ⟨e, he, rfl⟩ := List.mem_map.mp hx
    exact (led e he).2.2
  rw [List.length_map] at this
  have h2 : 2 ^ s0.length ≤ 2 ^ 7 := Nat.pow_le_pow_right (by decide) h7
  have h3 : (2 : Nat) ^ 7 = 128 := rfl
  omega
end DL

set_option Elab.async false
set_option maxRecDepth 100000
namespace DL
open PySem L2 HT TL
/-! ### a dict that is made within a for's head is read only from then on -/
def tFrz (te : TE) : TE := fun σ H Q => te σ H fun x H1 => ∃ d u, x = V.ref d ∧ H1 d = some u ∧ Mut (some u) ∧ ∀ od, Q x (upd H1 d (.frz od u))
theorem pe_frz {X : Cx} {e : Expr} {te : TE} (he : PE X e te) : PE X e (tFrz te) := by
  refine ⟨fun pins s σ H Q I h => thn (he.run pins s σ H _ I h) fun v s1 ⟨x, H1, I1, r, d, u, ex, hd, mu, q⟩ => ?_⟩
  obtain ⟨od, I2⟩ := I1.lock hd mu
  exact ⟨x, _, I2, r, q od⟩
/-! ### rows in a dict -/
abbrev KEnt := Addr × Ent
def kvsOf (ks : List KEnt) : List (Key × V) := ks.map fun k => (.inr (sstr k.2.1), .ref k.1)
structure RowsEl (H : Hp) (ks : List KEnt) : Prop where
  el : ∀ k ∈ ks, H k.1 = some (.tup (k.2.2.map V.int))
theorem RowsEl.same {H H' : Hp} {ks : List KEnt} (R : RowsEl H ks) (s : Same H H') : RowsEl H' ks := ⟨fun k hk => s _ _ (R.el k hk)⟩
theorem val_some {ks : List KEnt} {k : KEnt} (nd : ((ks.map (·.2)).map (·.1)).Nodup) (hk : k ∈ ks) : valV (kvsOf ks) (.inr (sstr k.2.1)) = some (.ref k.1) := by
  induction ks with
  | nil => cases hk
  | cons a ks ih =>
    rw [List.map_cons, List.map_cons, List.nodup_cons] at nd
    unfold valV kvsOf
    rw [List.map_cons, List.find?_cons]
    by_cases q : (.inr (sstr a.2.1) : Key) = .inr (sstr k.2.1)
    · rw [decide_eq_true q]
      rcases List.mem_cons.mp hk with rfl | hk
      · rfl
      · injection q with q
        refine absurd (List.mem_map.mpr ⟨k.2, List.mem_map.mpr ⟨k, hk, rfl⟩, (sstr_inj q).symm⟩) nd.1
    · rw [decide_eq_false q]
      rcases List.mem_cons.mp hk with rfl | hk
      · exact absurd rfl q
      · exact ih nd.2 hk
theorem val_none {ks : List KEnt} {st : List Bool} (h : ¬ st ∈ (ks.map (·.2)).map (·.1)) : valV (kvsOf ks) (.inr (sstr st)) = none := by
  unfold valV kvsOf
  have : (ks.map fun k => ((.inr (sstr k.2.1) : Key), V.ref k.1)).find? (fun kv => decide (kv.1 = .inr (sstr st))) = none := by
    rw [List.find?_eq_none]
    intro kv hkv
    obtain ⟨k, hk, rfl⟩ := List.mem_map.mp hkv
    intro z
    have z' : (.inr (sstr k.2.1) : Key) = .inr (sstr st) := of_decide_eq_true z
    injection z' with z'
    exact h (List.mem_map.mpr ⟨k.2, List.mem_map.mpr ⟨k, hk, rfl⟩, sstr_inj z'⟩)
  rw [this]
  rfl
theorem kvs_len (ks : List KEnt) : (kvsOf ks).length = ks.length := List.length_map ..
theorem ascD_len {rs : List (List Int)} {i : Nat} {p : List Int} {D : Int} (A : AscD rs i p D) : ∀ (m : Nat) (x : List Int), rs[m]? = some x → x.length ≤ m := by
  intro m
  induction m using Nat.strongRecOn with
  | _ m ih =>
    intro x hx
    have key : ∀ (j : Nat) (q : List Int) (d : Int), rs[j]? = some q → x = q ++ [d] → x.length ≤ m := fun j q d hj e => by
      have el : x.length = q.length + 1 := by rw [e, List.length_append]; rfl
      obtain ⟨l1, e1⟩ := List.getElem?_eq_some_iff.mp hx
      obtain ⟨l2, e2⟩ := List.getElem?_eq_some_iff.mp hj
      rcases Nat.lt_trichotomy j m with h | h | h
      · have := ih j h q hj
        omega
      · subst h
        rw [hx] at hj
        cases hj
        omega
      · have := List.pairwise_iff_getElem.mp A.pw m j l1 l2 h
        rw [e1, e2] at this
        have := this.2
        omega
    rcases A.par x (List.mem_of_getElem? hx) with rfl | ⟨j, q, d, _, hj, e⟩ | ⟨d, _, e⟩
    · exact Nat.zero_le _
    · exact key j q d hj e
    · exact key i p d A.at' e
structure spRows (C : Addr) (vs : List V) (H : Hp) (Q : VK) (_ : XK) : Prop where
  h : ∃ (c : Addr) (bs : List Bar) (st : List Bool), vs = [.ref c, .str (sstr st)] ∧ CabOk C H c st.length bs ∧
    ∀ (a : Addr) (ks : List KEnt) (H' : Hp), H a = none → Same H H' → H' a = some (.dK (kvsOf ks)) → RowsEl H' ks → BI bs st ks.length (ks.map (·.2)) → Q (.ref a) H'
structure spFirstRow (C : Addr) (vs : List V) (H : Hp) (Q : VK) (_ : XK) : Prop where
  h : ∃ (c : Addr) (bs : List Bar) (st : List Bool) (cs : List Nat), vs = [.ref c, .str (sstr st), .str (pstr cs)] ∧ CabOk C H c st.length bs ∧ st.length = cs.length ∧
    ∀ (ks : List KEnt) (H' : Hp), Same H H' → RowsEl H' ks → BI bs st ks.length (ks.map (·.2)) → Q (match ks.find? (fun k => fitB k.2.1 cs) with | some k => .ref k.1 | none => .non) H'
section
variable {P : Program} {w : World} {K : PySem.W.Frag} {mg : Str → Option Value} {base : Heap}
abbrev nRf : List Str := ["cabinet", "standing", "rows", "queue", "done", "place", "drawer", "beyond"]
theorem scRf : FnScope nRf ["cabinet", "standing"] (defScope s_rows_from) := ⟨rfl, rfl, rfl, by decide +kernel, rfl, by decide +kernel, by decide +kernel⟩
theorem ok_rowsFrom {f f1 f2 C : Addr} {fd fd1 fd2 : FuncData} (F : Fun K "rows_from" "rows_from" s_rows_from f fd) (T : Bt mg)
    (G1 : FnOk P w K mg base CX0 8 f1 fd1 ["cabinet", "standing"] (spFreeDrawers C)) (g1 : mg "free_drawers" = some (.ref f1)) (k1 : PySem.W.keepIn K (.ref f1) = true) (b1 : Binds K fd1 ["cabinet", "standing"] [])
    (G2 : FnOk P w K mg base CX0 1 f2 fd2 ["standing", "drawer"] spMoved) (g2 : mg "moved" = some (.ref f2)) (k2 : PySem.W.keepIn K (.ref f2) = true) (b2 : Binds K fd2 ["standing", "drawer"] []) : FnOk P w K mg base CX0 10 f fd ["cabinet", "standing"] (spRows C) := by
  refine F.ok scRf (fun vs H Q E h => ?_) (fun cdv A outer s H vs Q E hr h => ?_)
  · obtain ⟨c, bs, st, rfl, _⟩ := h.h
    rfl
  · obtain ⟨c, bs, st, rfl, B, k⟩ := h.h
    have hu := hu_of hr
    obtain ⟨_, _, n7⟩ := B.cab
    have h7 : st.length ≤ 7 := by omega
    refine ⟨_, pss_cons (ps_set (i := 2) scRf.nd rfl (Or.inl rfl) (pe_disp (pps_cons (pv 1) (pe_tup pa_nil) pps_nil) (by rfl) (by rfl) (fun z => by cases z) (by decide)))
      (pss_cons (ps_set (i := 3) scRf.nd rfl (Or.inl rfl) (pe_lst (pa_cons (pv 1) pa_nil)))
      (pss_cons (ps_set (i := 4) scRf.nd rfl (Or.inl rfl) pe_int)
      (pss_cons (ps_while PassesOwn.never (pt_cmpR op_lt (pv 4) (pe_callB call_len_seq (by rfl) T.len PySem.boot_len (pa_cons (pv 3) pa_nil)) (nomark _))
        (pss_cons (ps_set (i := 5) scRf.nd rfl (Or.inl rfl) (pe_ix ix_list (pv 3) (pv 4) (fun _ _ => rfl)))
        (pss_cons (ps_aug (i := 4) scRf.nd rfl (Or.inl rfl) pe_int in_add)
        (pss_one (ps_for PassesOwn.never rfl (pi_list (pe_call G1 (hr.mono (by decide)) rfl g1 k1 b1 .nil pass0 (pa_cons (pv 0) (pa_cons (pv 5) pa_nil)))) (pg_name (i := 6) scRf.nd rfl (Or.inl rfl))
          (pss_cons (ps_set (i := 7) scRf.nd rfl (Or.inl rfl) (pe_call G2 (hr.mono (by decide)) rfl g2 k2 b2 .nil pass0 (pa_cons (pv 5) (pa_cons (pv 6) pa_nil))))
          (pss_one (ps_if (pt_cmp (pc_dnotin hu (pv 7) (pv 2)))
            (pss_cons (ps_dput hu (pv 2) (pv 7) (pe_tup (StX.pa_star (pe_dget hu (pv 2) (pv 5) (fun _ _ => rfl)) (pa_cons (pv 6) pa_nil))) rfl)
            (pss_one (ps_expr (pe_bm PySem.F.plainAttrs_list PySem.F.slot_list_append PySem.F.type_list_append mt_append (pv 3) (pa_cons (pv 7) pa_nil))))) pss_nil))))))))
      (pss_one (ps_ret (pv 2)))))), ?_⟩
    intro a ha
    refine ⟨_, rfl, (by show 0 ≤ sizeLine; decide), fun e0 he0 => ?_⟩
    have hae : a ≠ e0 := ne_of_none upd_same he0
    refine ⟨by rw [upd_ne hae]; exact upd_same, [(.inr (sstr st), .ref e0)], rfl, by show 1 ≤ 15; decide, ?_⟩
    refine ⟨_, rfl, (by show 1 ≤ sizeLine; decide), fun q hq => ?_⟩
    have hqa : q ≠ a := fun z => by rw [z, upd_same] at hq; cases hq
    have he0' : H e0 = none := by rw [upd_ne hae.symm] at he0; exact he0
    have hq0 : q ≠ e0 := fun z => by rw [z, upd_ne hae.symm, upd_same] at hq; cases hq
    have hqH : H q = none := by rw [upd_ne hqa, upd_ne hq0, upd_ne hqa] at hq; exact hq
    have S0 : Same H (upd (upd (upd (upd H a (.dK [])) e0 (.tup [])) a (.dK (mergeK [] [(.inr (sstr st), .ref e0)]))) q (.lst [.str (sstr st)])) := fun b o eb => by
      rw [upd_ne (ne_of_none eb hqH), upd_ne (ne_of_none eb ha), upd_ne (ne_of_none eb he0'), upd_ne (ne_of_none eb ha)]
      exact eb
    refine while_by (fun σ H' => ∃ (i : Nat) (ks : List KEnt) (u5 u6 u7 : Option V), σ = [some (.ref c), some (.str (sstr st)), some (.ref a), some (.ref q), some (.int i), u5, u6, u7] ∧ i ≤ ks.length ∧ BI bs st i (ks.map (·.2)) ∧ H' a = some (.dK (kvsOf ks)) ∧ RowsEl H' ks ∧
        H' q = some (.lst (ks.map fun k => .str (sstr k.2.1))) ∧ Same H H')
      (fun (σ : L2.St) (_ : Hp) => 128 - (match σ[4]? with | some (some (V.int i)) => i.toNat | _ => 0)) ?_ ?_ ?_
    · refine ⟨0, [(e0, (st, []))], _, _, _, rfl, Nat.zero_le _, BI.begin, ?_, ⟨fun k hk => ?_⟩, upd_same, S0⟩
      · rw [upd_ne hqa.symm, upd_same]
        rfl
      · rw [List.mem_singleton.mp hk]
        show (upd (upd (upd (upd H a (.dK [])) e0 (.tup [])) a (.dK (mergeK [] [(.inr (sstr st), .ref e0)]))) q (.lst [.str (sstr st)])) e0 = some (.tup [])
        rw [upd_ne hq0.symm, upd_ne hae.symm, upd_same]
    · rintro σ H1 ⟨i, ks, u5, u6, u7, rfl, hi, I, hA, hE, hQ, s1⟩
      have hfew : ks.length ≤ 128 := by
        have := led_few I.nd I.led h7
        rw [List.length_map] at this
        exact this
      refine ⟨_, rfl, _, rfl, q, _, rfl, .inl (SqL.of hQ), _, _, rfl, rfl, _, rfl, ?_⟩
      rw [List.length_map]
      refine ite2 (fun z => ?_) (fun z => ?_)
      · have hlt : i < ks.length := by have := of_decide_eq_true z; omega
        obtain ⟨kp, hkp⟩ : ∃ kp, ks[i]? = some kp := ⟨_, List.getElem?_eq_getElem hlt⟩
        have hpe : (ks.map (·.2))[i]? = some kp.2 := by rw [List.getElem?_map, hkp]; rfl
        have hpl : kp.2.1.length = st.length := (I.led kp.2 (List.mem_of_getElem? hpe)).2.2
        refine ⟨_, rfl, _, rfl, q, _, _, .str (sstr kp.2.1), rfl, rfl, SqL.of hQ, atI_nat (by rw [List.getElem?_map, hkp]; rfl), ?_⟩
        refine ⟨_, rfl, _, _, rfl, rfl, ?_⟩
        refine ⟨_, rfl, _, rfl, ⟨⟨c, bs, kp.2.1, rfl, by rw [hpl]; exact B.same s1, fun fq H2 hfq s2 h2 => ?_⟩⟩⟩
        have hfa : fq ≠ a := fun z => by rw [z, hA] at hfq; cases hfq
        have hfqq : fq ≠ q := fun z => by rw [z, hQ] at hfq; cases hfq
        refine ⟨fq, rfl, ⟨_, SqL.of h2⟩, ?_⟩
        refine for_list (K := K) (a := fq) (xs := (freeL bs kp.2.1).map V.int) (fun t σ H' => ∃ (D : Int) (ks' : List KEnt) (u6 u7 : Option V), σ = [some (.ref c), some (.str (sstr st)), some (.ref a), some (.ref q), some (.int ((i : Int) + 1)), some (.str (sstr kp.2.1)), u6, u7] ∧ BD bs st i kp.2 t D (ks'.map (·.2)) ∧
            (∃ more, ks' = ks ++ more) ∧ H' a = some (.dK (kvsOf ks')) ∧ RowsEl H' ks' ∧ H' q = some (.lst (ks'.map fun k => .str (sstr k.2.1))) ∧ Same H H' ∧ H' fq = some (.lst ((freeL bs kp.2.1).map V.int)))
          ⟨0, ks, _, _, rfl, I.during hpe, ⟨[], by rw [List.append_nil]⟩, s2 _ _ hA, hE.same s2, s2 _ _ hQ, s1.trans s2, h2⟩ ?_ ?_ ?_
        · rintro t σ H' _ ⟨D, ks', u6, u7, _, _, _, _, _, _, _, h⟩
          exact SqL.of h
        · rintro t x σ H3 hx ⟨D, ks', u6, u7, rfl, I', ⟨more, hmore⟩, hA', hE', hQ', s3, hF⟩
          rw [List.getElem?_map] at hx
          cases hd : (freeL bs kp.2.1)[t]? with
          | none => rw [hd] at hx; cases hx
          | some d =>
            rw [hd] at hx
            cases hx
            obtain ⟨dm, dD, d0, d6⟩ := I'.free hd h7
            have d1 := (free_in dm).2
            have hfew' : ks'.length ≤ 128 := by
              have := led_few I'.nd I'.led h7
              rw [List.length_map] at this
              exact this
            refine ⟨_, rfl, _, rfl, ⟨⟨kp.2.1, d, rfl, by omega, d0, d1, fun H4 s4 => ?_⟩⟩⟩
            have hA4 := s4 _ _ hA'
            have hQ4 := s4 _ _ hQ'
            have hE4 := hE'.same s4
            have hF4 := s4 _ _ hF
            have s34 := s3.trans s4
            refine ⟨_, rfl, _, rfl, a, _, rfl, DGet.k (k := Sum.inr (sstr (flip kp.2.1 d))) hA4, _, rfl, ?_⟩
            by_cases hin : flip kp.2.1 d ∈ (ks'.map (·.2)).map (·.1)
            · obtain ⟨e, he, h1⟩ := List.mem_map.mp hin
              obtain ⟨k', hk', rfl⟩ := List.mem_map.mp he
              have hv := val_some I'.nd hk'
              rw [h1] at hv
              rw [hv]
              exact iteF ⟨_, ks', _, _, rfl, I'.old hd h7 hin, ⟨more, hmore⟩, hA4, hE4, hQ4, s34, hF4⟩
            · have hv := val_none hin
              rw [hv]
              refine iteT ?_
              have hkpm : kp ∈ ks' := by rw [hmore]; exact List.mem_append_left _ (List.mem_of_getElem? hkp)
              refine ⟨_, rfl, _, rfl, a, .ref kp.1, rfl, by rw [← val_some I'.nd hkpm]; exact DGet.k (k := Sum.inr (sstr kp.2.1)) hA4, ?_⟩
              refine ⟨kp.1, _, rfl, .inl (SqT.of' (hE4.el kp hkpm)), _, rfl, ?_, fun tn htn => ?_⟩
              · have hl := ascD_len I'.asc i kp.2.2 (by rw [List.getElem?_map, I'.at']; rfl)
                show (kp.2.2.map V.int ++ [V.int d]).length ≤ sizeLine
                rw [List.length_append, List.length_map]
                exact Nat.le_of_lt (small1000 (by show kp.2.2.length + 1 ≤ 1000; omega))
              · have hta : tn ≠ a := fun z => by rw [z, hA4] at htn; cases htn
                have htq : tn ≠ q := fun z => by rw [z, hQ4] at htn; cases htn
                have htf : tn ≠ fq := fun z => by rw [z, hF4] at htn; cases htn
                have hsm : (kvsOf ks').length < sizeLine := by rw [kvs_len]; exact small1000 (by omega)
                refine ⟨_, rfl, _, rfl, a, _, rfl, DPut.k (k := Sum.inr (sstr (flip kp.2.1 d))) (by rw [upd_ne hta.symm]; exact hA4) hsm, ?_⟩
                refine ⟨_, rfl, .inl ⟨rfl, _, SqL.of (by rw [upd_ne hqa, upd_ne htq.symm]; exact hQ4)⟩, _, rfl, q, _, _, rfl, rfl, by rw [upd_ne hqa, upd_ne htq.symm]; exact hQ4, by rw [List.length_map]; exact small1000 (by omega), ?_⟩
                have hat : tn ≠ a := hta
                refine ⟨d + 1, ks' ++ [(tn, (flip kp.2.1 d, kp.2.2 ++ [d]))], _, _, rfl, ?_, ⟨more ++ [(tn, (flip kp.2.1 d, kp.2.2 ++ [d]))], by rw [hmore, List.append_assoc]⟩, ?_, ⟨fun k' hk' => ?_⟩, ?_, fun b o eb => ?_, ?_⟩
                · rw [List.map_append]
                  exact I'.new hd h7 hin
                · rw [upd_ne hqa.symm, upd_same, putK_new _ hv]
                  unfold kvsOf
                  rw [List.map_append]
                  rfl
                · have hk1 : k'.1 ≠ a ∧ k'.1 ≠ q ∧ (upd H4 tn (.tup (kp.2.2.map V.int ++ [V.int d]))) k'.1 = some (.tup (k'.2.2.map V.int)) := by
                    rcases List.mem_append.mp hk' with hk' | hk'
                    · have := hE4.el k' hk'
                      exact ⟨ne_of this hA4 (by intro z; cases z), ne_of this hQ4 (by intro z; cases z), by rw [upd_ne (ne_of_none this htn)]; exact this⟩
                    · rw [List.mem_singleton.mp hk']
                      refine ⟨hta, htq, ?_⟩
                      show (upd H4 tn (.tup (kp.2.2.map V.int ++ [V.int d]))) tn = some (.tup ((kp.2.2 ++ [d]).map V.int))
                      rw [upd_same, List.map_append]
                      rfl
                  rw [upd_ne hk1.2.1, upd_ne hk1.1]
                  exact hk1.2.2
                · rw [upd_same, List.map_append]
                  rfl
                · rw [upd_ne (ne_of_none eb hqH), upd_ne (ne_of_none eb ha), upd_ne (ne_of_none (s34 _ _ eb) htn)]
                  exact s34 _ _ eb
                · rw [upd_ne hfqq, upd_ne hfa, upd_ne htf.symm]
                  exact hF4
        · rintro σ H3 ⟨D, ks', u6, u7, rfl, I', ⟨more, hmore⟩, hA', hE', hQ', s3, hF⟩
          rw [List.length_map] at I'
          have I2 := I'.done
          refine ⟨⟨i + 1, ks', _, _, _, rfl, by rw [hmore, List.length_append]; omega, I2, hA', hE', hQ', s3⟩, ?_⟩
          show 128 - ((i : Int) + 1).toNat < 128 - (i : Int).toNat
          omega
      · have hge : ¬ i < ks.length := fun z' => z (decide_eq_true (by omega))
        obtain rfl : i = ks.length := by omega
        exact ⟨_, rfl, k a ks H1 ha s1 hA hE I⟩
    · rintro σ H1 Q1 Q2 m ⟨x, e1, y, e2, p, ys, e3, hs, j, l, e4, e5, c', e6, hq⟩
      exact ⟨x, e1, y, e2, p, ys, e3, hs, j, l, e4, e5, c', e6, m _ _ hq⟩
abbrev nFr : List Str := ["cabinet", "standing", "pattern", "end", "row"]
theorem scFr : FnScope nFr ["cabinet", "standing", "pattern"] (defScope s_first_row_to) := ⟨rfl, rfl, rfl, by decide +kernel, rfl, by decide +kernel, by decide +kernel⟩
theorem ok_firstRow {f f1 f2 C : Addr} {fd fd1 fd2 : FuncData} (F : Fun K "first_row_to" "first_row_to" s_first_row_to f fd)
    (G1 : FnOk P w K mg base CX0 10 f1 fd1 ["cabinet", "standing"] (spRows C)) (g1 : mg "rows_from" = some (.ref f1)) (k1 : PySem.W.keepIn K (.ref f1) = true) (b1 : Binds K fd1 ["cabinet", "standing"] [])
    (G2 : FnOk P w K mg base CX0 1 f2 fd2 ["standing", "pattern"] spFits) (g2 : mg "fits" = some (.ref f2)) (k2 : PySem.W.keepIn K (.ref f2) = true) (b2 : Binds K fd2 ["standing", "pattern"] []) : FnOk P w K mg base CX0 12 f fd ["cabinet", "standing", "pattern"] (spFirstRow C) := by
  refine F.ok scFr (fun vs H Q E h => ?_) (fun cdv A outer s H vs Q E hr h => ?_)
  · obtain ⟨c, bs, st, cs, rfl, _⟩ := h.h
    rfl
  · obtain ⟨c, bs, st, cs, rfl, B, hl, k⟩ := h.h
    obtain ⟨_, _, n7⟩ := B.cab
    refine ⟨_, pss_cons (ps_for PassesOwn.never rfl (pi_items (pe_frz (pe_call G1 (hr.mono (by decide)) rfl g1 k1 b1 .nil pass0 (pa_cons (pv 0) (pa_cons (pv 1) pa_nil))))) (pg_tup (by rfl) (pgs_cons (pg_name (i := 3) scFr.nd rfl (Or.inl rfl)) (pgs_cons (pg_name (i := 4) scFr.nd rfl (Or.inl rfl)) pgs_nil)))
        (pss_one (ps_if (pt_val (pe_call G2 (hr.mono (by decide)) rfl g2 k2 b2 .nil pass0 (pa_cons (pv 3) (pa_cons (pv 2) pa_nil)))) (pss_one (ps_ret (pv 4))) pss_nil)))
      (pss_one (ps_ret pe_non)), ?_⟩
    refine ⟨_, rfl, _, rfl, ⟨⟨c, bs, st, rfl, B, fun a ks H1 ha s1 hA hE I => ?_⟩⟩⟩
    refine ⟨a, _, rfl, hA, trivial, fun od => ?_⟩
    have s2 : Same H (upd H1 a (.frz od (.dK (kvsOf ks)))) := fun b o eb => by
      rw [upd_ne (ne_of_none eb ha)]
      exact s1 _ _ eb
    have hE2 : RowsEl (upd H1 a (.frz od (.dK (kvsOf ks)))) ks := ⟨fun k hk => by
      have := hE.el k hk
      rw [upd_ne (ne_of this hA (by intro z; cases z))]
      exact this⟩
    have hA2 : (upd H1 a (.frz od (.dK (kvsOf ks)))) a = some (.frz od (.dK (kvsOf ks))) := upd_same
    generalize (upd H1 a (.frz od (.dK (kvsOf ks)))) = H2 at s2 hE2 hA2 ⊢
    refine ⟨a, od, _, rfl, hA2, ?_⟩
    refine for_it walk_items (fun i σ H' => ∃ u3 u4 : Option V, σ = [some (.ref c), some (.str (sstr st)), some (.str (pstr cs)), u3, u4] ∧ Same H2 H' ∧ ∀ k ∈ ks.take i, fitB k.2.1 cs = false) ⟨_, _, rfl, Same.refl _, fun k hk => by cases hk⟩ (fun i σ H' _ ⟨_, _, _, s3, _⟩ => s3 _ _ hA2) ?_ ?_
    · rintro i x σ H3 H4 hi ⟨u3, u4, rfl, s3, hno⟩ ⟨T, x1, x2, rfl, hT, rfl, e1, e2⟩
      have e1 : Option.map (fun kv => kV kv.1) (kvsOf ks)[i]? = some x1 := e1
      have e2 : Option.map Prod.snd (kvsOf ks)[i]? = some x2 := e2
      cases ek : ks[i]? with
      | none =>
        unfold kvsOf at e1
        rw [List.getElem?_map, ek] at e1
        cases e1
      | some kk =>
        unfold kvsOf at e1 e2
        rw [List.getElem?_map, ek] at e1 e2
        have e1' : V.str (sstr kk.2.1) = x1 := Option.some.inj e1
        have e2' : V.ref kk.1 = x2 := Option.some.inj e2
        subst e1' e2'
        have hm : kk ∈ ks := List.mem_of_getElem? ek
        have hkl : kk.2.1.length = st.length := (I.led kk.2 (List.mem_map.mpr ⟨kk, hm, rfl⟩)).2.2
        have s4 := s3.trans (same_upd (o := .tup [.str (sstr kk.2.1), .ref kk.1]) hT)
        refine ⟨T, _, rfl, SqT.of' upd_same, rfl, _, _, rfl, _, _, rfl, rfl, ?_⟩
        refine ⟨_, rfl, _, rfl, ⟨⟨kk.2.1, cs, rfl, by omega, by omega, fun H5 s5 => ⟨_, rfl, ?_⟩⟩⟩⟩
        have s25 := s4.trans s5
        cases ef : fitB kk.2.1 cs with
        | true =>
          refine iteT ⟨_, rfl, ?_⟩
          have := k ks H5 (s2.trans s25) (hE2.same s25) I
          have hf : ks.find? (fun k => fitB k.2.1 cs) = some kk := by
            obtain ⟨hil, e⟩ := List.getElem?_eq_some_iff.mp ek
            have : ks = ks.take i ++ kk :: ks.drop (i + 1) := by
              rw [← e, ← List.drop_eq_getElem_cons hil, List.take_append_drop]
            rw [this, List.find?_append, List.find?_eq_none.mpr (fun k hk => by rw [hno k hk]; exact Bool.false_ne_true), Option.none_or, List.find?_cons, ef]
          rw [hf] at this
          exact this
        | false =>
          refine iteF ⟨_, _, rfl, s25, fun k hk => ?_⟩
          rcases mem_take_succ ek hk with hk | rfl
          · exact hno k hk
          · exact ef
    · rintro σ H3 ⟨u3, u4, rfl, s3, hno⟩
      rw [kvs_len, List.take_length] at hno
      have := k ks H3 (s2.trans s3) (hE2.same s3) I
      rw [List.find?_eq_none.mpr (fun k hk => by rw [hno k hk]; exact Bool.false_ne_true)] at this
      exact this
structure spFirstRows (C : Addr) (vs : List V) (H : Hp) (Q : VK) (_ : XK) : Prop where
  h : ∃ (c : Addr) (bs : List Bar) (n : Nat), vs = [.ref c] ∧ CabOk C H c n bs ∧ ∀ (a : Addr) (ks : List KEnt) (H' : Hp), H a = none → Same H H' → H' a = some (.dK (kvsOf ks)) → RowsEl H' ks → BI bs (shutS n) ks.length (ks.map (·.2)) → Q (.ref a) H'
theorem scFirstRows : FnScope ["cabinet"] ["cabinet"] (defScope s_first_rows) := ⟨rfl, rfl, rfl, by decide +kernel, rfl, by decide +kernel, by decide +kernel⟩
theorem ok_firstRows {f f2 f3 C : Addr} {fd fd2 fd3 : FuncData} (F : Fun K "first_rows" "first_rows" s_first_rows f fd) (CP : CabP P w K mg base C)
    (G2 : FnOk P w K mg base CX0 10 f2 fd2 ["cabinet", "standing"] (spRows C)) (g2 : mg "rows_from" = some (.ref f2)) (k2 : PySem.W.keepIn K (.ref f2) = true) (b2 : Binds K fd2 ["cabinet", "standing"] [])
    (G3 : FnOk P w K mg base CX0 1 f3 fd3 ["drawers"] spFirst) (g3 : mg "first_standing" = some (.ref f3)) (k3 : PySem.W.keepIn K (.ref f3) = true) (b3 : Binds K fd3 ["drawers"] []) : FnOk P w K mg base CX0 12 f fd ["cabinet"] (spFirstRows C) := by
  refine F.ok scFirstRows (fun vs H Q E h => ?_) (fun cdv A outer s H vs Q E hr h => ?_)
  · obtain ⟨c, bs, n, rfl, _⟩ := h.h
    rfl
  · obtain ⟨c, bs, n, rfl, B, k⟩ := h.h
    obtain ⟨t, hc, n7⟩ := B.cab
    have n1 : 1 ≤ n := by
      obtain ⟨_, _, _, _, _, _, q, _⟩ := B.h
      omega
    obtain ⟨pD, gD, fdD, hpD, GD, bD⟩ := CP.d
    refine ⟨_, pss_one (ps_ret (pe_call G2 (hr.mono (by decide)) rfl g2 k2 b2 .nil pass0 (pa_cons (pv 0) (pa_cons (pe_call G3 (hr.mono (by decide)) rfl g3 k3 b3 .nil pass0 (pa_cons (pe_prop (pv 0) CP.cl hpD GD (hr.mono (by decide)) bD .nil pass0 rfl) pa_nil)) pa_nil)))), ?_⟩
    obtain ⟨dx, hc0⟩ := hc
    have hshut : (shutS n).length = n := List.length_replicate
    refine ⟨_, rfl, _, rfl, c, dx, _, rfl, hc0, ⟨⟨c, dx, _, t, rfl, hc0, ⟨⟨n, rfl, n1, by omega, ?_⟩⟩⟩⟩⟩
    exact ⟨⟨c, bs, shutS n, rfl, by rw [hshut]; exact B, fun a ks H1 ha s1 hA hE I => k a ks H1 ha s1 hA hE I⟩⟩
end
end DL

set_option Elab.async false
set_option maxRecDepth 100000
namespace DL
open PySem L2 HT TL
/-! ### all rows, one pull longer at each turn; the first one that leads to a standing -/
theorem nd_eq {es : List Ent} (nd : (es.map (·.1)).Nodup) : ∀ {a b : Ent}, a ∈ es → b ∈ es → a.1 = b.1 → a = b := by
  induction es with
  | nil => intro a b ha; cases ha
  | cons x es ih =>
    intro a b ha hb e
    rw [List.map_cons, List.nodup_cons] at nd
    rcases List.mem_cons.mp ha with qa | ha'
    · rcases List.mem_cons.mp hb with qb | hb'
      · rw [qa, qb]
      · have hm : x.1 ∈ es.map (·.1) := List.mem_map.mpr ⟨b, hb', by rw [← e, qa]⟩
        exact absurd hm nd.1
    · rcases List.mem_cons.mp hb with qb | hb'
      · have hm : x.1 ∈ es.map (·.1) := List.mem_map.mpr ⟨a, ha', by rw [e, qb]⟩
        exact absurd hm nd.1
      · exact ih nd.2 ha' hb' e
structure LI (bs : List Bar) (s0 : List Bool) (i : Nat) (cat fst : List Ent) : Prop where
  asc : Asc (cat.map (·.2)) i
  led : ∀ e ∈ cat, Led bs s0 e
  ex : ∀ (j : Nat) (p : Ent), j < i → cat[j]? = some p → ∀ d ∈ freeL bs p.1, (flip p.1 d, p.2 ++ [d]) ∈ cat
  root : (s0, []) ∈ cat
  fnd : (fst.map (·.1)).Nodup
  fin : ∀ e ∈ fst, e ∈ cat
  fco : ∀ x ∈ cat, ∃ e ∈ fst, e.1 = x.1 ∧ rcode e.2 ≤ rcode x.2
structure LD (bs : List Bar) (s0 : List Bool) (i : Nat) (p : Ent) (t : Nat) (D : Int) (cat fst : List Ent) : Prop where
  asc : AscD (cat.map (·.2)) i p.2 D
  led : ∀ e ∈ cat, Led bs s0 e
  at' : cat[i]? = some p
  ex : ∀ (j : Nat) (p : Ent), j < i → cat[j]? = some p → ∀ d ∈ freeL bs p.1, (flip p.1 d, p.2 ++ [d]) ∈ cat
  exd : ∀ d ∈ (freeL bs p.1).take t, (flip p.1 d, p.2 ++ [d]) ∈ cat
  dle : ∀ d ∈ (freeL bs p.1).drop t, D ≤ d
  root : (s0, []) ∈ cat
  fnd : (fst.map (·.1)).Nodup
  fin : ∀ e ∈ fst, e ∈ cat
  fco : ∀ x ∈ cat, ∃ e ∈ fst, e.1 = x.1 ∧ rcode e.2 ≤ rcode x.2
theorem LI.begin {bs : List Bar} {s0 : List Bool} : LI bs s0 0 [(s0, [])] [(s0, [])] := by
  have B := BI.begin (bs := bs) (s0 := s0)
  exact ⟨B.asc, B.led, fun j p hj => by omega, List.mem_singleton.mpr rfl, B.nd, fun e he => he, fun x hx => ⟨x, hx, rfl, Int.le_refl _⟩⟩
theorem LI.during {bs : List Bar} {s0 : List Bool} {i : Nat} {cat fst : List Ent} {p : Ent} (B : LI bs s0 i cat fst) (h : cat[i]? = some p) : LD bs s0 i p 0 0 cat fst :=
  ⟨B.asc.during (by rw [List.getElem?_map, h]; rfl), B.led, h, B.ex, fun d hd => (by cases hd), fun d hd => (free_in (List.mem_of_mem_drop hd)).1, B.root, B.fnd, B.fin, B.fco⟩
theorem LD.done {bs : List Bar} {s0 : List Bool} {i : Nat} {p : Ent} {D : Int} {cat fst : List Ent} (B : LD bs s0 i p (freeL bs p.1).length D cat fst) : LI bs s0 (i + 1) cat fst := by
  refine ⟨B.asc.done, B.led, fun j q hj hq => ?_, B.root, B.fnd, B.fin, B.fco⟩
  by_cases e : j = i
  · subst e
    rw [B.at'] at hq
    cases hq
    have := B.exd
    rw [List.take_length] at this
    exact this
  · exact B.ex j q (by omega) hq
theorem LD.free {bs : List Bar} {s0 : List Bool} {i : Nat} {p : Ent} {t : Nat} {D : Int} {cat fst : List Ent} (B : LD bs s0 i p t D cat fst) {d : Int} (hd : (freeL bs p.1)[t]? = some d) (h7 : s0.length ≤ 7) :
    d ∈ freeL bs p.1 ∧ D ≤ d ∧ 0 ≤ d ∧ d ≤ 6 := by
  have hm := List.mem_of_getElem? hd
  obtain ⟨d0, d1⟩ := free_in hm
  have := (B.led p (List.mem_of_getElem? B.at')).2.2
  obtain ⟨_, e⟩ := pw_drop (free_pw bs p.1) hd
  exact ⟨hm, B.dle d (by rw [e]; exact List.mem_cons_self), d0, by omega⟩
def addF (fst : List Ent) (e : Ent) : List Ent := if e.1 ∈ fst.map (·.1) then fst else fst ++ [e]
theorem LD.add {bs : List Bar} {s0 : List Bool} {i : Nat} {p : Ent} {t : Nat} {D : Int} {cat fst : List Ent} (B : LD bs s0 i p t D cat fst) {d : Int} (hd : (freeL bs p.1)[t]? = some d) (h7 : s0.length ≤ 7) :
    LD bs s0 i p (t + 1) (d + 1) (cat ++ [(flip p.1 d, p.2 ++ [d])]) (addF fst (flip p.1 d, p.2 ++ [d])) := by
  obtain ⟨hm, hD, d0, d6⟩ := B.free hd h7
  have mono : ∀ {e : Ent}, e ∈ cat → e ∈ cat ++ [(flip p.1 d, p.2 ++ [d])] := fun he => List.mem_append_left _ he
  have last : (flip p.1 d, p.2 ++ [d]) ∈ cat ++ [(flip p.1 d, p.2 ++ [d])] := List.mem_append_right _ (List.mem_singleton.mpr rfl)
  have fsub : ∀ {e : Ent}, e ∈ fst → e ∈ addF fst (flip p.1 d, p.2 ++ [d]) := fun he => by
    unfold addF
    by_cases z : (flip p.1 d, p.2 ++ [d]).1 ∈ fst.map (·.1)
    · rw [if_pos z]; exact he
    · rw [if_neg z]; exact List.mem_append_left _ he
  refine ⟨?_, fun e he => ?_, ?_, fun j q hj hq x hx => ?_, fun x hx => ?_, (pw_drop (free_pw bs p.1) hd).1, mono B.root, ?_, fun e he => ?_, fun x hx => ?_⟩
  · rw [List.map_append]
    exact B.asc.add hD d0 d6
  · rcases List.mem_append.mp he with he | he
    · exact B.led e he
    · rw [List.mem_singleton.mp he]
      exact (B.led p (List.mem_of_getElem? B.at')).step hm h7
  · rw [List.getElem?_append_left (List.getElem?_eq_some_iff.mp B.at').1]
    exact B.at'
  · have hq' : cat[j]? = some q := by
      have := (List.getElem?_eq_some_iff.mp B.at').1
      rw [List.getElem?_append_left (by omega)] at hq
      exact hq
    exact mono (B.ex j q hj hq' x hx)
  · rcases mem_take_succ hd hx with hx | rfl
    · exact mono (B.exd x hx)
    · exact last
  · unfold addF
    by_cases z : (flip p.1 d, p.2 ++ [d]).1 ∈ fst.map (·.1)
    · rw [if_pos z]; exact B.fnd
    · rw [if_neg z, List.map_append, List.nodup_append]
      refine ⟨B.fnd, by simp, fun x hx y hy q => ?_⟩
      have e1 : y = (flip p.1 d, p.2 ++ [d]).1 := List.mem_singleton.mp hy
      rw [← e1, ← q] at z
      exact z hx
  · unfold addF at he
    by_cases z : (flip p.1 d, p.2 ++ [d]).1 ∈ fst.map (·.1)
    · rw [if_pos z] at he; exact mono (B.fin e he)
    · rw [if_neg z] at he
      rcases List.mem_append.mp he with he | he
      · exact mono (B.fin e he)
      · rw [List.mem_singleton.mp he]; exact last
  · rcases List.mem_append.mp hx with hx | hx
    · obtain ⟨e, he, h1⟩ := B.fco x hx
      exact ⟨e, fsub he, h1⟩
    · rw [List.mem_singleton.mp hx]
      by_cases z : (flip p.1 d, p.2 ++ [d]).1 ∈ fst.map (·.1)
      · obtain ⟨e, he, h1⟩ := List.mem_map.mp z
        have := (B.asc.below hD d0 e.2 (List.mem_map.mpr ⟨e, B.fin e he, rfl⟩)).1
        exact ⟨e, fsub he, h1, Int.le_of_lt this⟩
      · refine ⟨_, ?_, rfl, Int.le_refl _⟩
        unfold addF
        rw [if_neg z]
        exact List.mem_append_right _ (List.mem_singleton.mpr rfl)
/-- those from the i-th on have k pulls, none has more -/
structure LV (k i : Nat) (cat : List Ent) : Prop where
  le : ∀ x ∈ cat, x.2.length ≤ k
  eq : ∀ x ∈ cat.drop i, x.2.length = k
theorem LI.all {bs : List Bar} {s0 : List Bool} {i k : Nat} {cat fst : List Ent} (B : LI bs s0 i cat fst) (V : LV k i cat) : ∀ (r : List Int), (∀ d ∈ r, 0 ≤ d ∧ d < s0.length) → r.length ≤ k → ∀ st, runB bs s0 r = some st → (st, r) ∈ cat := by
  intro r
  refine snoc_ind (p := fun (r : List Int) => (∀ d ∈ r, 0 ≤ d ∧ d < s0.length) → r.length ≤ k → ∀ st, runB bs s0 r = some st → (st, r) ∈ cat) (fun _ _ st h => ?_) (fun l d ih hl hk st h => ?_) r
  · cases h
    exact B.root
  · rw [List.length_append] at hk
    have hk : l.length + 1 ≤ k := hk
    rw [runB_snoc] at h
    cases hr : runB bs s0 l with
    | none => rw [hr] at h; cases h
    | some s1 =>
      rw [hr, Option.bind_some] at h
      by_cases hg : goesB bs s1 d = true
      · rw [if_pos hg] at h
        cases h
        have hm := ih (fun x hx => hl x (List.mem_append_left _ hx)) (by omega) s1 hr
        obtain ⟨j, hj⟩ := List.getElem?_of_mem hm
        have el := (B.led _ hm).2.2
        have el : s1.length = s0.length := el
        have hji : j < i := by
          rcases Nat.lt_or_ge j i with h | h
          · exact h
          · have : (s1, l) ∈ cat.drop i := by
              have e : (cat.drop i)[j - i]? = some (s1, l) := by
                rw [List.getElem?_drop, show i + (j - i) = j by omega]
                exact hj
              exact List.mem_of_getElem? e
            have := V.eq _ this
            have : l.length = k := this
            omega
        exact B.ex j _ hji hj d (free_mem.mpr ⟨by have := hl d (List.mem_append_right _ (List.mem_singleton.mpr rfl)); show 0 ≤ d ∧ d < s1.length; omega, hg⟩)
      · rw [if_neg hg] at h
        cases h
/-! ### a standing as a pattern -/
theorem inV_strs (z : Str) (l : List Str) : inV (.str z) (l.map V.str) = decide (z ∈ l) := by
  unfold inV
  induction l with
  | nil => rfl
  | cons a l ih =>
    rw [List.map_cons, List.any_cons, ih]
    show ((a == z) || decide (z ∈ l)) = decide (z ∈ a :: l)
    rw [beq_dec]
    by_cases q : z = a
    · subst q
      simp
    · have q' : ¬ a = z := fun z => q z.symm
      simp [q, q']
theorem flat_strs (l : List Str) : (l.map V.str).all flatV = true := by
  rw [List.all_eq_true]
  intro x hx
  obtain ⟨i, _, rfl⟩ := List.mem_map.mp hx
  rfl
theorem sstr_snoc (st : List Bool) (b : Bool) (z : Str) (hz : z.cps.toList = [sg b]) : sstr st ++ z = sstr (st ++ [b]) := by
  refine PyProof.Rows.ext_toList ?_
  show tl _ = tl _
  rw [tl_append, show tl z = _ from hz, show tl (sstr st) = _ from sstr_tl _, show tl (sstr (st ++ [b])) = _ from sstr_tl _, List.map_append]
  rfl
theorem catA_new {K : PySem.W.Frag} {H : Hp} {t q : Addr} {xs : List V} {x : V} {Q : VK} (h1 : H t = some (.tup xs)) (h2 : H q = some (.tup [x])) (hl : xs.length + 1 ≤ sizeLine)
    (k : ∀ (tn : Addr) (H' : Hp), Same H H' → H' tn = some (.tup (xs ++ [x])) → Q (.ref tn) H') : rCatA K (.ref t) (.ref q) H Q := by
  refine ⟨t, q, _, _, rfl, rfl, SqT.of' h1, SqT.of' h2, hl, fun ez => ?_, fun _ ez => (by cases ez), fun _ _ p hp => k p _ (same_upd hp) upd_same⟩
  exact k q H (Same.refl H) (by rw [ez]; exact h2)
structure spLawAll (vs : List V) (H : Hp) (Q : VK) (_ : XK) : Prop where
  h : ∃ n : Nat, vs = [.int n] ∧ n ≤ 5 ∧ ∀ (p : Addr) (sts : List (List Bool)) (H' : Hp), H p = none → Same H H' → (∀ st ∈ sts, st.length = n) → H' p = some (.lst (sts.map fun st => .str (sstr st))) → sts.length ≤ 32 → Q (.ref p) H'
section
variable {P : Program} {w : World} {K : PySem.W.Frag} {mg : Str → Option Value} {base : Heap}
abbrev nLA : List Str := ["_law_many", "_law_found", "_law_at", "_law_some"]
theorem scLA : FnScope nLA ["_law_many"] (defScope s__law_all) := ⟨rfl, rfl, rfl, by decide +kernel, rfl, by decide +kernel, by decide +kernel⟩
theorem ok_lawAll {f : Addr} {fd : FuncData} (F : Fun K "_law_all" "_law_all" s__law_all f fd) (T : Bt mg) : FnOk P w K mg base CX0 1 f fd ["_law_many"] spLawAll := by
  refine F.ok scLA (fun vs H Q E h => ?_) (fun cdv A outer s H vs Q E hr h => ?_)
  · obtain ⟨n, rfl, _⟩ := h.h
    rfl
  · obtain ⟨n, rfl, n5, k⟩ := h.h
    refine ⟨_, pss_cons (ps_set (i := 1) scLA.nd rfl (Or.inl rfl) (pe_lst (pa_cons pe_str pa_nil)))
      (pss_cons (ps_for PassesOwn.never rfl (pi_range1 (by rfl) T.range (pa_cons (pv 0) pa_nil)) (pg_name (i := 2) scLA.nd rfl (Or.inl rfl))
        (pss_one (ps_set (i := 1) scLA.nd rfl (Or.inl rfl) (pe_op op_cat
          (pe_lc (own := [("_law_some", 3)]) (g := gName 3) (tt := tYes) (by rfl) scLA.nd (pi_list (pv 1)) (blkOk_by (N := nLA) (sc := defScope s__law_all) (by decide +kernel)) (fun _ _ _ _ _ => pg_name (i := 3) scLA.nd rfl (Or.inl rfl)) (fun _ _ _ _ _ => pts_nil) (fun _ _ _ _ _ => pe_op op_add_str (pv 3) pe_str))
          (pe_lc (own := [("_law_some", 3)]) (g := gName 3) (tt := tYes) (by rfl) scLA.nd (pi_list (pv 1)) (blkOk_by (N := nLA) (sc := defScope s__law_all) (by decide +kernel)) (fun _ _ _ _ _ => pg_name (i := 3) scLA.nd rfl (Or.inl rfl)) (fun _ _ _ _ _ => pts_nil) (fun _ _ _ _ _ => pe_op op_add_str (pv 3) pe_str))))))
      (pss_one (ps_ret (pe_callB cr_sortedS (by rfl) T.sorted (by decide +kernel) (pa_cons (pv 1) pa_nil))))), ?_⟩
    refine ⟨(by show 1 ≤ sizeLine; decide), fun q hq => ?_⟩
    have e0 : (V.str "" : V) = V.str (sstr []) := by decide +kernel
    refine ⟨_, rfl, _, rfl, by omega, by omega, ?_⟩
    rw [Int.toNat_natCast]
    refine for_range (lo := 0) (n := n) (fun i σ H' => ∃ (p : Addr) (sts : List (List Bool)) (u2 u3 : Option V), σ = [some (.int n), some (.ref p), u2, u3] ∧ H' p = some (.lst (sts.map fun st => .str (sstr st))) ∧ (∀ st ∈ sts, st.length = i) ∧ sts.length ≤ 2 ^ i ∧ Same H H')
      ⟨q, [[]], _, _, rfl, by rw [upd_same, e0]; rfl, fun st hst => by rw [List.mem_singleton.mp hst]; rfl, Nat.le_refl _, same_upd hq⟩ ?_ ?_
    · rintro i σ H1 hi ⟨p, sts, u2, u3, rfl, hp, hlen, hfew, s1⟩
      have h32 : 2 ^ i ≤ 2 ^ 5 := Nat.pow_le_pow_right (by decide) (by omega)
      have h32' : (2 : Nat) ^ 5 = 32 := rfl
      have one : ∀ (b : Bool) (z : Str) (_ : z.cps.toList = [sg b]) (σ : L2.St) (H2 : Hp) (Qk : VK) (D : Addr), Same H1 H2 → True := fun _ _ _ _ _ _ _ _ => trivial
      clear one
      refine ⟨_, rfl, p, rfl, ⟨_, SqL.of hp⟩, fun D hD => ?_⟩
      refine lc_it walk_list (fun j H' => Same H1 H' ∧ H' D = some (.lst (((sts.take j).map fun st => st ++ [true]).map fun st => V.str (sstr st)))) ⟨same_upd hD, upd_same⟩ (fun j H' _ q => SqL.of (q.1 _ _ hp)) ?_ ?_
      · rintro j x H2 H3 hj ⟨s2, hD1⟩ ⟨rfl, hx⟩
        rw [List.getElem?_map] at hx
        cases ek : sts[j]? with
        | none => rw [ek] at hx; cases hx
        | some st =>
          rw [ek] at hx
          cases hx
          have hl := hlen st (List.mem_of_getElem? ek)
          refine ⟨rfl, tYes_of (iteT ?_)⟩
          refine ⟨_, rfl, _, _, rfl, rfl, by rw [sstr_len]; exact Nat.le_of_lt (small1000 (by show st.length + 1 ≤ 1000; omega)), ?_⟩
          rw [sstr_snoc st true "o" (by decide +kernel)]
          refine ⟨_, hD1, by rw [List.length_map, List.length_map, List.length_take]; exact small1000 (by omega), fun b o e => ?_, ?_⟩
          · rw [upd_ne (ne_of_none e hD)]
            exact s2 b o e
          · rw [upd_same, ← take_succ_map (fun st => st ++ [true]) ek, List.map_append]
            rfl
      · rintro H2 ⟨s2, hD1⟩
        rw [List.length_map, List.take_length] at hD1
        refine ⟨_, rfl, p, rfl, ⟨_, SqL.of (s2 _ _ hp)⟩, fun D' hD' => ?_⟩
        refine lc_it walk_list (fun j H' => Same H2 H' ∧ H' D' = some (.lst (((sts.take j).map fun st => st ++ [false]).map fun st => V.str (sstr st)))) ⟨same_upd hD', upd_same⟩ (fun j H' _ q => SqL.of (q.1 _ _ (s2 _ _ hp))) ?_ ?_
        · rintro j x H3 H4 hj ⟨s3, hD2⟩ ⟨rfl, hx⟩
          rw [List.getElem?_map] at hx
          cases ek : sts[j]? with
          | none => rw [ek] at hx; cases hx
          | some st =>
            rw [ek] at hx
            cases hx
            have hl := hlen st (List.mem_of_getElem? ek)
            refine ⟨rfl, tYes_of (iteT ?_)⟩
            refine ⟨_, rfl, _, _, rfl, rfl, by rw [sstr_len]; exact Nat.le_of_lt (small1000 (by show st.length + 1 ≤ 1000; omega)), ?_⟩
            rw [sstr_snoc st false "s" (by decide +kernel)]
            refine ⟨_, hD2, by rw [List.length_map, List.length_map, List.length_take]; exact small1000 (by omega), fun b o e => ?_, ?_⟩
            · rw [upd_ne (ne_of_none e hD')]
              exact s3 b o e
            · rw [upd_same, ← take_succ_map (fun st => st ++ [false]) ek, List.map_append]
              rfl
        · rintro H3 ⟨s3, hD2⟩
          rw [List.length_map, List.take_length] at hD2
          refine ⟨D, D', _, _, rfl, rfl, s3 _ _ hD1, hD2, by rw [List.length_map, List.length_map, List.length_map, List.length_map]; exact Nat.le_of_lt (small1000 (by omega)), fun pn hpn => ?_⟩
          refine ⟨pn, (sts.map fun st => st ++ [true]) ++ (sts.map fun st => st ++ [false]), _, _, rfl, by rw [upd_same, List.map_append], fun st hst => ?_, ?_, ((s1.trans s2).trans s3).trans (same_upd hpn)⟩
          · rcases List.mem_append.mp hst with hst | hst <;>
            · obtain ⟨s', hs', rfl⟩ := List.mem_map.mp hst
              rw [List.length_append, hlen s' hs']
              rfl
          · rw [List.length_append, List.length_map, List.length_map, Nat.pow_succ]
            omega
    · rintro σ H1 ⟨p, sts, u2, u3, rfl, hp, hlen, hfew, s1⟩
      have h32 : 2 ^ n ≤ 2 ^ 5 := Nat.pow_le_pow_right (by decide) n5
      have h32' : (2 : Nat) ^ 5 = 32 := rfl
      refine ⟨_, rfl, p, sts.map sstr, rfl, SqL.of (by rw [hp, List.map_map]; rfl), by rw [List.length_map]; omega, fun ys pn hperm hsrt hpn => ?_⟩
      have hys : ∃ sts' : List (List Bool), ys = sts'.map sstr ∧ ∀ st ∈ sts', st.length = n := by
        have : ∀ y ∈ ys, ∃ st ∈ sts, sstr st = y := fun y hy => List.mem_map.mp (hperm.mem_iff.mp hy)
        clear hperm hsrt
        induction ys with
        | nil => exact ⟨[], rfl, fun st hst => by cases hst⟩
        | cons y ys ih =>
          obtain ⟨sts', e1, e2⟩ := ih fun z hz => this z (List.mem_cons_of_mem _ hz)
          obtain ⟨st, h1, h2⟩ := this y List.mem_cons_self
          refine ⟨st :: sts', by rw [List.map_cons, h2, ← e1], fun z hz => ?_⟩
          rcases List.mem_cons.mp hz with rfl | hz
          · exact hlen _ h1
          · exact e2 z hz
      obtain ⟨sts', rfl, hl'⟩ := hys
      have hpl := hperm.length_eq
      rw [List.length_map, List.length_map] at hpl
      refine k pn sts' _ (s1.free hpn) (s1.trans (same_upd hpn)) hl' ?_ (by omega)
      rw [upd_same, List.map_map]
      rfl
end
end DL

set_option Elab.async false
set_option maxRecDepth 100000
namespace DL
open PySem PySem.Spec PyProof.Rows L2
section
variable {X : Cx}
/-! ### sorted of texts, any number; sorted of a dict with texts as keys -/
def rSortSA (K : PySem.W.Frag) : List V → Hp → VK → Prop := fun vs H Q => ∃ (a : Addr) (xs : List Str), vs = [V.ref a] ∧ SqL K H a (xs.map V.str) ∧
  ∀ (ys : List Str) (p : Addr), ys.Perm xs → sortedS ys = true → H p = none → Q (.ref p) (upd H p (.lst (ys.map V.str)))
theorem cr_sortSA : CallR X (.builtin "sorted") (rSortSA X.K) := by
  intro pins s σ H vs us Q I r h
  obtain ⟨a, xs, rfl, hs, q⟩ := h
  obtain ⟨its, rv, hl, hz⟩ := I.list hs
  rw [Vals.ref1 r]
  have hlen0 := rv.length
  refine PyProof.Rows.sorted_strsAny hl.isList rv.strs (by rw [← hlen0]; exact hz) fun out ys h1 h2 h3 => ?_
  obtain ⟨ep, he'⟩ := PyProof.Rows.sortedAll_at s.heap its out
  have hlen : (ys.map V.str).length ≤ sizeLine := by rw [List.length_map, h2.length_eq]; rw [List.length_map] at hz; exact hz
  exact ⟨.ref _, upd H (s.heap.objs.size + 1) (.lst (ys.map V.str)), I.laid (t' := s.toks) (fun _ _ => PyProof.Rows.sortedAll_old) (Nat.le_succ _) ⟨hlen, out.toList, ep, vals_of_strs h1, he'⟩, rfl, q ys _ h2 h3 (I.hok.fresh (Nat.le_succ _))⟩
def rSortDK : List V → Hp → VK → Prop := fun vs H Q => ∃ (a : Addr) (kvs : List (Key × V)) (xs : List Str), vs = [V.ref a] ∧ Rd H a (.dK kvs) ∧ (kvs.map fun kv => kV kv.1) = xs.map V.str ∧
  ∀ (ys : List Str) (p : Addr), ys.Perm xs → sortedS ys = true → H p = none → Q (.ref p) (upd H p (.lst (ys.map V.str)))
theorem cr_sortDK (hcalm : X.calm = true) : CallR X (.builtin "sorted") rSortDK := by
  intro pins s σ H xs us Q I r h
  obtain ⟨a, kvs, ss, rfl, hd, hks, q⟩ := h
  obtain ⟨u, eu, rx⟩ := vals1 r
  subst eu
  cases rx
  obtain ⟨z, lo, vs, rel, dd⟩ := dk_rd I.hok hd
  obtain ⟨ep, hat⟩ := dd.dictAt
  have ek : (kvs.map fun kv => kV kv.1) = vs.map fun p => kV p.1 := by
    have e := congrArg (List.map kV) rel.keys
    rw [List.map_map, List.map_map] at e
    exact e
  refine Calls.call_function_entry PyProof.Rows.kind_sorted PyProof.Rows.plain_sorted PyProof.Rows.entry_sorted (PyProof.Rows.args_sorted1 _) ?_
  unfold Builtin.«sorted»
  refine wpAny_bind (m := checkCount "sorted" 1 1 _) (wpAny_pure ?_)
  refine wpAny_bind (PySem.W.kdu_collect (A := X.A.in1) (PySem.W.kdl_dict (knd := mixKind X.prog X.w) (kvs := vs) (ep := ep) lo) (I.ok.hd hcalm) hat (by rw [← rel.length]; exact z) fun h' tk acc hk hacc => ?_)
  have hv : Vals (ss.map V.str) acc.toList := by
    rw [← hks, ek]
    exact keys_at (by rw [Array.length_toList]; exact hacc.1) fun j v e => hacc.2 j v (by rw [← Array.getElem?_toList]; exact e)
  have hasz : acc.toList.length ≤ sizeLine := by rw [Array.length_toList, hacc.1, ← rel.length]; exact z
  have I1 : Inv X pins σ H { s with heap := h', toks := tk } := I.kept hk
  refine wpAny_bind (wpAny_newList ?_ hasz)
  have hoL : (h'.push (seqObj "list" acc.toList.toArray 0)).get? h'.objs.size = some (seqObj "list" acc.toList.toArray 0) := Heap.get?_push_size _ rfl
  show wpAny _ _ _ _ _ { s with heap := h'.push (seqObj "list" acc.toList.toArray 0), toks := tk }
  have hS : StrsAre acc.toList ss := hv.strs
  refine wpAny_bind (wpAny_holding (wpAny_call_entry PyProof.Rows.slot_list_sort ⟨_, hoL, rfl⟩ PyProof.Rows.entry_list_sort
    (PyProof.Rows.list_sort_treeKAny (s := { s with heap := h'.push (seqObj "list" acc.toList.toArray 0), toks := tk }) strKind_oneLt hoL hS.keysOf (fun v₁ v₂ rest e => keyKind_strs (by rw [← e]; exact hS)) hasz fun st' hp hs => ⟨_, rfl, ?_⟩)
    (PyProof.Rows.args_list_sort _)))
  obtain ⟨ys, h1, h2, h3⟩ := sorted_out_str hS hp hs
  obtain ⟨e', he'⟩ := PyProof.Rows.sortedHeap_at (vs := acc.toList) (out := (arrOf st').map (·.2)) hoL
  refine wpAny_pure ⟨_, rfl, .ref h'.objs.size, upd H h'.objs.size (.lst (ys.map V.str)), I1.laid (t' := tk) (fun b u e => ?_) (Nat.le_refl _)
      (show ObjOk X.prog X.w _ _ _ (.lst (ys.map V.str)) from ⟨?_, ((arrOf st').map (·.2)).toList, e', vals_of_strs h1, he'⟩), rfl, q ys _ h2 h3 (I1.hok.fresh (Nat.le_refl _))⟩
  · have hb : b < h'.objs.size := Heap.lt_size e
    rw [PyProof.Rows.sortedHeap_old (Nat.ne_of_lt hb) (by rw [size_push']; exact Nat.lt_succ_of_lt hb)]
    exact Heap.get?_push_of_some _ e
  · rw [List.length_map, h2.length_eq]
    have := hv.length
    rw [List.length_map] at this
    omega
/-! ### min of texts -/
theorem dpAll_strs {K : PySem.W.Frag} {H : Hp} : ∀ l : List Str, DpAll K H (l.map V.str) (l.map PyData.str)
  | [] => .nil
  | x :: l => .cons (.str x) (dpAll_strs l)
/-! ### < of data -/
end
end DL

set_option Elab.async false
set_option maxRecDepth 100000
namespace DL
open PySem L2 HT TL
/-! ### two queues that came to their end hold the same -/
theorem sub_asc {es es' : List Ent} (h1 : (es.map (·.2)).Pairwise Bef) (h2 : (es'.map (·.2)).Pairwise Bef) (hs : ∀ e, e ∈ es ↔ e ∈ es') : es = es' := by
  induction es generalizing es' with
  | nil =>
    cases es' with
    | nil => rfl
    | cons b es' => exact absurd ((hs b).mpr List.mem_cons_self) (by simp)
  | cons a es ih =>
    cases es' with
    | nil => exact absurd ((hs a).mp List.mem_cons_self) (by simp)
    | cons b es' =>
      rw [List.map_cons, List.pairwise_cons] at h1 h2
      have hab : a = b := by
        rcases List.mem_cons.mp ((hs a).mp List.mem_cons_self) with q | q
        · exact q
        · rcases List.mem_cons.mp ((hs b).mpr List.mem_cons_self) with q' | q'
          · exact q'.symm
          · have z1 := (h1.1 b.2 (List.mem_map.mpr ⟨b, q', rfl⟩)).1
            have z2 := (h2.1 a.2 (List.mem_map.mpr ⟨a, q, rfl⟩)).1
            omega
      subst hab
      congr 1
      refine ih h1.2 h2.2 fun e => ⟨fun he => ?_, fun he => ?_⟩
      · rcases List.mem_cons.mp ((hs e).mp (List.mem_cons_of_mem _ he)) with q | q
        · have z1 := (h1.1 e.2 (List.mem_map.mpr ⟨e, he, rfl⟩)).1
          rw [q] at z1
          omega
        · exact q
      · rcases List.mem_cons.mp ((hs e).mpr (List.mem_cons_of_mem _ he)) with q | q
        · have z1 := (h2.1 e.2 (List.mem_map.mpr ⟨e, he, rfl⟩)).1
          rw [q] at z1
          omega
        · exact q
theorem BI.sub {bs : List Bar} {s0 : List Bool} {es es' : List Ent} (I : BI bs s0 es.length es) (I' : BI bs s0 es'.length es') (h7 : s0.length ≤ 7) {e : Ent} (he : e ∈ es) : e ∈ es' := by
  obtain ⟨m1, ⟨m2, m3⟩, m4⟩ := I.led e he
  obtain ⟨f, hf, g1, g2, _⟩ := I'.opt h7 e.2 m3 e.1 m1
  obtain ⟨n1, ⟨n2, n3⟩, n4⟩ := I'.led f hf
  obtain ⟨e', he', k1, k2, _⟩ := I.opt h7 f.2 n3 f.1 n1
  have : e' = e := nd_eq I.nd he' he (by rw [k1, g1])
  subst this
  have : f = e' := Prod.ext g1 (rcode_inj n2 m2 (by omega))
  rw [← this]
  exact hf
theorem BI.same {bs : List Bar} {s0 : List Bool} {es es' : List Ent} (I : BI bs s0 es.length es) (I' : BI bs s0 es'.length es') (h7 : s0.length ≤ 7) : es = es' :=
  sub_asc I.asc.pw I'.asc.pw fun _ => ⟨I.sub I' h7, I'.sub I h7⟩
/-! ### sorted texts -/
theorem sstr_ok (st : List Bool) : PyData.strOk (sstr st) = true := by
  unfold PyData.strOk
  rw [← Array.all_toList, sstr_tl, List.all_eq_true]
  intro c hc
  obtain ⟨b, _, rfl⟩ := List.mem_map.mp hc
  have z : ∀ b : Bool, decide (sg b < 0x110000) = true := by decide
  exact z b
/-! ### (len(a), a) < (len(b), b) -/
end DL

set_option Elab.async false
set_option maxRecDepth 100000
namespace DL
open PySem L2 HT TL
structure spReachedA (C : Addr) (vs : List V) (H : Hp) (Q : VK) (_ : XK) : Prop where
  h : ∃ (c : Addr) (bs : List Bar) (n : Nat), vs = [.ref c] ∧ CabOk C H c n bs ∧
    ∀ (p : Addr) (es : List Ent) (ys : List Str) (H' : Hp), Same H H' → BI bs (shutS n) es.length es → ys.Perm (es.map fun e => sstr e.1) → PyProof.Rows.sortedS ys = true → H p = none → H' p = some (.lst (ys.map V.str)) → Q (.ref p) H'
structure spLawRows (vs : List V) (H : Hp) (Q : VK) (_ : XK) : Prop where
  h : ∃ (p : Addr) (bs : List Bar) (st : List Bool), vs = [.ref p, .str (sstr st)] ∧ DrOk H p st.length bs ∧
    ∀ (a : Addr) (ks : List KEnt) (H' : Hp), H a = none → Same H H' → H' a = some (.dK (kvsOf ks)) → RowsEl H' ks → BI bs st ks.length (ks.map (·.2)) → Q (.ref a) H'
section
variable {P : Program} {w : World} {K : PySem.W.Frag} {mg : Str → Option Value} {base : Heap}
theorem scReA : FnScope ["cabinet"] ["cabinet"] (defScope s_reached) := ⟨rfl, rfl, rfl, by decide +kernel, rfl, by decide +kernel, by decide +kernel⟩
theorem ok_reachedA {f f1 f2 C : Addr} {fd fd1 fd2 : FuncData} (F : Fun K "reached" "reached" s_reached f fd) (T : Bt mg) (zL : mg "list" = none)
    (G1 : FnOk P w K mg base CX0 1 f1 fd1 ["cabinet"] (spCkCab C)) (g1 : mg "check_cabinet" = some (.ref f1)) (k1 : PySem.W.keepIn K (.ref f1) = true) (b1 : Binds K fd1 ["cabinet"] [])
    (G2 : FnOk P w K mg base CX0 12 f2 fd2 ["cabinet"] (spFirstRows C)) (g2 : mg "first_rows" = some (.ref f2)) (k2 : PySem.W.keepIn K (.ref f2) = true) (b2 : Binds K fd2 ["cabinet"] []) : FnOk P w K mg base CX0 14 f fd ["cabinet"] (spReachedA C) := by
  refine F.ok scReA (fun vs H Q E h => ?_) (fun cdv A outer s H vs Q E hr h => ?_)
  · obtain ⟨c, bs, n, rfl, _⟩ := h.h
    rfl
  · obtain ⟨c, bs, n, rfl, B, k⟩ := h.h
    obtain ⟨t, hc, n7⟩ := B.cab
    have n1 : 1 ≤ n := by
      obtain ⟨_, _, _, _, _, _, q, _⟩ := B.h
      omega
    refine ⟨_, pss_cons (ps_expr (pe_call G1 (hr.mono (by decide)) rfl g1 k1 b1 .nil pass0 (pa_cons (pv 0) pa_nil)))
      (pss_one (ps_ret (pe_callB cr_sortSA (by rfl) T.sorted (by decide +kernel) (pa_cons (pe_callTy (call_listD rfl) (by rfl) zL (by decide +kernel) (pa_cons (pe_call G2 (hr.mono (by decide)) rfl g2 k2 b2 .nil pass0 (pa_cons (pv 0) pa_nil)) pa_nil)) pa_nil)))), ?_⟩
    refine ⟨_, rfl, ⟨⟨c, _, t, rfl, hc, ?_⟩⟩⟩
    obtain ⟨dx, hc0⟩ := hc
    have hshut : (shutS n).length = n := List.length_replicate
    refine ⟨_, rfl, ⟨⟨c, bs, n, rfl, B, fun a ks H1 ha s1 hA hE I => ?_⟩⟩⟩
    refine ⟨a, _, rfl, .inl hA, fun l hl => ?_⟩
    have e1 : ((kvsOf ks).map fun kv => kV kv.1) = ((ks.map (·.2)).map fun e => sstr e.1).map V.str := by
      unfold kvsOf
      rw [List.map_map, List.map_map, List.map_map]
      rfl
    refine ⟨l, (ks.map (·.2)).map fun e => sstr e.1, rfl, SqL.of (by rw [upd_same, e1]), fun ys p hp hsrt hpn => ?_⟩
    have s2 := s1.trans (same_upd (o := .lst ((kvsOf ks).map fun kv => kV kv.1)) hl)
    exact k p (ks.map (·.2)) ys _ (s2.trans (same_upd hpn)) (by rw [List.length_map]; exact I) hp hsrt (s2.free hpn) upd_same
end
end DL

set_option Elab.async false
set_option maxRecDepth 100000
namespace DL
open PySem L2 HT TL
def lvS (ks : List KEnt) : List V := ks.map fun k => V.str (sstr k.2.1)
theorem dpAll_lvS {K : PySem.W.Frag} {H : Hp} (ks : List KEnt) : DpAll K H (lvS ks) (ks.map fun k => PyData.str (sstr k.2.1)) := by
  have := dpAll_strs (K := K) (H := H) (ks.map fun k => sstr k.2.1)
  rw [List.map_map, List.map_map] at this
  exact this
theorem dok_lvS (ks : List KEnt) : dok 2 (.list (ks.map fun k => PyData.str (sstr k.2.1))) := dok_list fun d hd => by
  obtain ⟨k, _, rfl⟩ := List.mem_map.mp hd
  exact dok_str (sstr_ok _)
theorem eqv_lvS (ks : List KEnt) : PyData.eqv (.list (ks.map fun k => PyData.str (sstr k.2.1))) (.list []) = ks.isEmpty := by
  cases ks with
  | nil => exact eqv_self (dok_list (k := 1) fun d hd => by cases hd)
  | cons x l => simp [PyData.eqv, PyData.eqvAll]
def muR (fa : Addr) (σ : L2.St) (H : Hp) : Nat := 128 - ((match H fa with | some (.dK kvs) => kvs.length | _ => 0) - (match σ[3]? with | some (some (V.ref L)) => (match H L with | some (.lst xs) => xs.length | _ => 0) | _ => 0))
section
variable {P : Program} {w : World} {K : PySem.W.Frag} {mg : Str → Option Value} {base : Heap}
abbrev nLr : List Str := ["_law_d", "_law_begin", "_law_found", "_law_level", "_law_later", "_law_here", "_law_drawer", "_law_there"]
theorem scLr : FnScope nLr ["_law_d", "_law_begin"] (defScope s__law_rows) := ⟨rfl, rfl, rfl, by decide +kernel, rfl, by decide +kernel, by decide +kernel⟩
theorem ok_lawRows {f f1 f2 : Addr} {fd fd1 fd2 : FuncData} (F : Fun K "_law_rows" "_law_rows" s__law_rows f fd)
    (G1 : FnOk P w K mg base CX0 2 f1 fd1 ["_law_d", "_law_standing"] spLawFree) (g1 : mg "_law_free" = some (.ref f1)) (k1 : PySem.W.keepIn K (.ref f1) = true) (b1 : Binds K fd1 ["_law_d", "_law_standing"] [])
    (G2 : FnOk P w K mg base CX0 1 f2 fd2 ["_law_standing", "_law_drawer"] spMoved) (g2 : mg "_law_moved" = some (.ref f2)) (k2 : PySem.W.keepIn K (.ref f2) = true) (b2 : Binds K fd2 ["_law_standing", "_law_drawer"] []) : FnOk P w K mg base CX0 3 f fd ["_law_d", "_law_begin"] spLawRows := by
  refine F.ok scLr (fun vs H Q E h => ?_) (fun cdv A outer s H vs Q E hr h => ?_)
  · obtain ⟨p, bs, st, rfl, _⟩ := h.h
    rfl
  · obtain ⟨p, bs, st, rfl, B, k⟩ := h.h
    have hu := hu_of hr
    have hu64 : _ + 64 < cLine := hr.units
    have h7 : st.length ≤ 7 := by
      obtain ⟨_, _, _, _, _, _, _, _, q, _⟩ := B.h
      omega
    refine ⟨_, pss_cons (ps_par (i := 2) (j := 3) (by rfl) scLr.nd rfl rfl (by decide) rfl rfl (pa_cons (pe_disp (pps_cons (pv 1) (pe_tup pa_nil) pps_nil) (by rfl) (by rfl) (fun z => by cases z) (by decide)) (pa_cons (pe_lst (pa_cons (pv 1) pa_nil)) pa_nil)) (by rfl))
      (pss_cons (ps_while PassesOwn.never (pt_cmpR (op_neD hu64) (pv 3) (pe_lst pa_nil) (nomark _))
        (pss_cons (ps_set (i := 4) scLr.nd rfl (Or.inl rfl) (pe_lst pa_nil))
        (pss_cons (ps_for PassesOwn.never rfl (pi_list (pv 3)) (pg_name (i := 5) scLr.nd rfl (Or.inl rfl))
          (pss_one (ps_for PassesOwn.never rfl (pi_list (pe_call G1 (hr.mono (by decide)) rfl g1 k1 b1 .nil pass0 (pa_cons (pv 0) (pa_cons (pv 5) pa_nil)))) (pg_name (i := 6) scLr.nd rfl (Or.inl rfl))
            (pss_cons (ps_set (i := 7) scLr.nd rfl (Or.inl rfl) (pe_call G2 (hr.mono (by decide)) rfl g2 k2 b2 .nil pass0 (pa_cons (pv 5) (pa_cons (pv 6) pa_nil))))
            (pss_one (ps_if (pt_cmp (pc_dnotin hu (pv 7) (pv 2)))
              (pss_cons (ps_dput hu (pv 2) (pv 7) (pe_op op_catA (pe_dget hu (pv 2) (pv 5) (fun _ _ => rfl)) (pe_tup (pa_cons (pv 6) pa_nil))) rfl)
              (pss_one (ps_expr (pe_bm PySem.F.plainAttrs_list PySem.F.slot_list_append PySem.F.type_list_append mt_append (pv 4) (pa_cons (pv 7) pa_nil))))) pss_nil))))))
        (pss_one (ps_set (i := 3) scLr.nd rfl (Or.inl rfl) (pv 4))))))
      (pss_one (ps_ret (pv 2)))), ?_⟩
    intro fa hfa
    refine ⟨_, rfl, (by show 0 ≤ sizeLine; decide), fun e0 he0 => ?_⟩
    have hae : fa ≠ e0 := ne_of_none upd_same he0
    refine ⟨by rw [upd_ne hae]; exact upd_same, [(.inr (sstr st), .ref e0)], rfl, by show 1 ≤ 15; decide, ?_⟩
    refine ⟨_, rfl, (by show 1 ≤ sizeLine; decide), fun q hq => ?_⟩
    refine ⟨_, _, rfl, ?_⟩
    have he0' : H e0 = none := by rw [upd_ne hae.symm] at he0; exact he0
    have hF4 : (upd (upd (upd H fa (.dK [])) e0 (.tup [])) fa (.dK (mergeK [] [(.inr (sstr st), .ref e0)]))) fa = some (.dK (kvsOf [(e0, (st, []))])) := upd_same
    have hE4 : (upd (upd (upd H fa (.dK [])) e0 (.tup [])) fa (.dK (mergeK [] [(.inr (sstr st), .ref e0)]))) e0 = some (.tup []) := by rw [upd_ne hae.symm, upd_same]
    have S4 : Same H (upd (upd (upd H fa (.dK [])) e0 (.tup [])) fa (.dK (mergeK [] [(.inr (sstr st), .ref e0)]))) := fun b o eb => by
      rw [upd_ne (ne_of_none eb hfa), upd_ne (ne_of_none eb he0'), upd_ne (ne_of_none eb hfa)]
      exact eb
    generalize (upd (upd (upd H fa (.dK [])) e0 (.tup [])) fa (.dK (mergeK [] [(.inr (sstr st), .ref e0)]))) = H4 at hF4 hE4 S4 hq ⊢
    have sq := same_upd (o := .lst [.str (sstr st)]) hq
    refine while_by (fun σ H' => ∃ (L : Addr) (i0 : Nat) (ks : List KEnt) (u4 u5 u6 u7 : Option V), σ = [some (.ref p), some (.str (sstr st)), some (.ref fa), some (.ref L), u4, u5, u6, u7] ∧ i0 ≤ ks.length ∧ BI bs st i0 (ks.map (·.2)) ∧ H' fa = some (.dK (kvsOf ks)) ∧ RowsEl H' ks ∧
        H' L = some (.lst (lvS (ks.drop i0))) ∧ Same H H') (muR fa) ?_ ?_ ?_
    · exact ⟨q, 0, [(e0, (st, []))], _, _, _, _, rfl, Nat.zero_le _, BI.begin, sq _ _ hF4, ⟨fun k hk => by rw [List.mem_singleton.mp hk]; exact sq _ _ hE4⟩, upd_same, S4.trans sq⟩
    · rintro σ H1 ⟨L, i0, ks, u4, u5, u6, u7, rfl, hi0, I, hF, hE, hL, s1⟩
      have hfew : ks.length ≤ 128 := by
        have := led_few I.nd I.led h7
        rw [List.length_map] at this
        exact this
      have hmu : muR fa [some (.ref p), some (.str (sstr st)), some (.ref fa), some (.ref L), u4, u5, u6, u7] H1 = 128 - i0 := by
        unfold muR
        rw [hF]
        show 128 - ((kvsOf ks).length - (match H1 L with | some (.lst xs) => xs.length | _ => 0)) = _
        rw [hL]
        show 128 - ((kvsOf ks).length - (lvS (ks.drop i0)).length) = _
        unfold lvS
        rw [kvs_len, List.length_map, List.length_drop]
        omega
      rw [hmu]
      refine ⟨_, rfl, (by show 0 ≤ sizeLine; decide), fun e he => ?_⟩
      have sE := same_upd (o := .lst []) he
      refine ⟨_, _, .lst (SqL.of (sE _ _ hL)) (dpAll_lvS _), .lst (SqL.of upd_same) .nil, dok_shaped (dok_lvS _) (by decide), dok_shaped (dok_list (k := 1) (ds := []) fun d hd => by cases hd) (by decide), _, rfl, ?_⟩
      rw [eqv_lvS]
      have hF2 := sE _ _ hF
      have hE2 := hE.same sE
      have hL2 := sE _ _ hL
      have s2 := s1.trans sE
      generalize (upd H1 e (HO.lst [])) = H2 at hF2 hE2 hL2 s2 ⊢
      cases hem : (ks.drop i0).isEmpty with
      | true =>
        rw [List.isEmpty_iff, List.drop_eq_nil_iff] at hem
        obtain rfl : i0 = ks.length := by omega
        exact iteF ⟨_, rfl, k fa ks H2 hfa s2 hF2 hE2 I⟩
      | false =>
        have hlt : i0 < ks.length := by
          rcases Nat.lt_or_ge i0 ks.length with z | z
          · exact z
          · rw [List.drop_eq_nil_of_le z] at hem
            cases hem
        refine iteT ?_
        refine ⟨(by show 0 ≤ sizeLine; decide), fun Lt hLt => ?_⟩
        have hLtF : Lt ≠ fa := fun z => by rw [z, hF2] at hLt; cases hLt
        have hLtL : Lt ≠ L := fun z => by rw [z, hL2] at hLt; cases hLt
        have sT := same_upd (o := .lst []) hLt
        have hHLt : H Lt = none := s2.free hLt
        refine ⟨_, rfl, L, rfl, ⟨_, SqL.of (sT _ _ hL2)⟩, ?_⟩
        refine for_list (K := K) (a := L) (xs := lvS (ks.drop i0)) (fun j σ H' => ∃ (more : List KEnt) (u5 u6 u7 : Option V), σ = [some (.ref p), some (.str (sstr st)), some (.ref fa), some (.ref L), some (.ref Lt), u5, u6, u7] ∧ BI bs st (i0 + j) ((ks ++ more).map (·.2)) ∧
            H' fa = some (.dK (kvsOf (ks ++ more))) ∧ RowsEl H' (ks ++ more) ∧ H' L = some (.lst (lvS (ks.drop i0))) ∧ H' Lt = some (.lst (lvS more)) ∧ Same H H')
          ⟨[], _, _, _, rfl, by rw [List.append_nil]; exact I, by rw [List.append_nil]; exact sT _ _ hF2, by rw [List.append_nil]; exact hE2.same sT, sT _ _ hL2, upd_same, s2.trans sT⟩ ?_ ?_ ?_
        · rintro j σ H' _ ⟨more, _, _, _, _, _, _, _, h, _⟩
          exact SqL.of h
        · rintro j x σ H3 hx ⟨more, w5, w6, w7, rfl, I3, hF3, hE3, hL3, hT3, s3⟩
          unfold lvS at hx
          rw [List.getElem?_map] at hx
          cases ek : (ks.drop i0)[j]? with
          | none => rw [ek] at hx; cases hx
          | some kp =>
            rw [ek] at hx
            cases hx
            have hkp : (ks ++ more)[i0 + j]? = some kp := by
              rw [List.getElem?_drop] at ek
              rw [List.getElem?_append_left (List.getElem?_eq_some_iff.mp ek).1]
              exact ek
            have hpe : ((ks ++ more).map (·.2))[i0 + j]? = some kp.2 := by rw [List.getElem?_map, hkp]; rfl
            have hpl : kp.2.1.length = st.length := (I3.led kp.2 (List.mem_of_getElem? hpe)).2.2
            refine ⟨_, rfl, _, rfl, ⟨⟨p, bs, kp.2.1, rfl, by rw [hpl]; exact B.same s3, fun fq H4 hfq s4 h4 => ?_⟩⟩⟩
            have hfF : fq ≠ fa := fun z => by rw [z, hF3] at hfq; cases hfq
            have hfL : fq ≠ L := fun z => by rw [z, hL3] at hfq; cases hfq
            have hfT : fq ≠ Lt := fun z => by rw [z, hT3] at hfq; cases hfq
            refine ⟨fq, rfl, ⟨_, SqL.of h4⟩, ?_⟩
            refine for_list (K := K) (a := fq) (xs := (freeL bs kp.2.1).map V.int) (fun t σ H' => ∃ (D : Int) (more : List KEnt) (u6 u7 : Option V), σ = [some (.ref p), some (.str (sstr st)), some (.ref fa), some (.ref L), some (.ref Lt), some (.str (sstr kp.2.1)), u6, u7] ∧ BD bs st (i0 + j) kp.2 t D ((ks ++ more).map (·.2)) ∧
                H' fa = some (.dK (kvsOf (ks ++ more))) ∧ RowsEl H' (ks ++ more) ∧ H' L = some (.lst (lvS (ks.drop i0))) ∧ H' Lt = some (.lst (lvS more)) ∧ Same H H' ∧ H' fq = some (.lst ((freeL bs kp.2.1).map V.int)))
              ⟨0, more, _, _, rfl, I3.during hpe, s4 _ _ hF3, hE3.same s4, s4 _ _ hL3, s4 _ _ hT3, s3.trans s4, h4⟩ ?_ ?_ ?_
            · rintro t σ H' _ ⟨D, more, _, _, _, _, _, _, _, _, _, h⟩
              exact SqL.of h
            · rintro t x σ H5 hx ⟨D, more2, v6, v7, rfl, I5, hF5, hE5, hL5, hT5, s5, hQ5⟩
              rw [List.getElem?_map] at hx
              cases hd : (freeL bs kp.2.1)[t]? with
              | none => rw [hd] at hx; cases hx
              | some d =>
                rw [hd] at hx
                cases hx
                obtain ⟨dm, dD, d0, d6⟩ := I5.free hd h7
                have d1 := (free_in dm).2
                have hfew' : (ks ++ more2).length ≤ 128 := by
                  have := led_few I5.nd I5.led h7
                  rw [List.length_map] at this
                  exact this
                have hmore : more2.length ≤ 128 := by rw [List.length_append] at hfew'; omega
                refine ⟨_, rfl, _, rfl, ⟨⟨kp.2.1, d, rfl, by omega, d0, d1, fun H6 s6 => ?_⟩⟩⟩
                have hF6 := s6 _ _ hF5
                have hE6 := hE5.same s6
                have hL6 := s6 _ _ hL5
                have hT6 := s6 _ _ hT5
                have hQ6 := s6 _ _ hQ5
                have s56 := s5.trans s6
                refine ⟨_, rfl, _, rfl, fa, _, rfl, DGet.k (k := Sum.inr (sstr (flip kp.2.1 d))) hF6, _, rfl, ?_⟩
                by_cases hin : flip kp.2.1 d ∈ ((ks ++ more2).map (·.2)).map (·.1)
                · obtain ⟨e', he', h1⟩ := List.mem_map.mp hin
                  obtain ⟨k', hk', rfl⟩ := List.mem_map.mp he'
                  have hv := val_some I5.nd hk'
                  rw [h1] at hv
                  rw [hv]
                  exact iteF ⟨_, more2, _, _, rfl, I5.old hd h7 hin, hF6, hE6, hL6, hT6, s56, hQ6⟩
                · have hv := val_none hin
                  rw [hv]
                  refine iteT ?_
                  have hkpm : kp ∈ ks ++ more2 := by
                    rw [List.getElem?_drop] at ek
                    exact List.mem_append_left _ (List.mem_of_getElem? ek)
                  refine ⟨_, rfl, _, rfl, fa, .ref kp.1, rfl, by rw [← val_some I5.nd hkpm]; exact DGet.k (k := Sum.inr (sstr kp.2.1)) hF6, ?_⟩
                  refine ⟨_, rfl, (by show 1 ≤ sizeLine; decide), fun b1 hb1 => ?_⟩
                  have sb := same_upd (o := .tup [.int d]) hb1
                  have hl := ascD_len I5.asc (i0 + j) kp.2.2 (by rw [List.getElem?_map, I5.at']; rfl)
                  have hij : i0 + j < 128 := by
                    have := (List.getElem?_eq_some_iff.mp hkp).1
                    have e1 := (List.getElem?_eq_some_iff.mp I5.at').1
                    rw [List.length_map] at e1
                    omega
                  refine catA_new (sb _ _ (hE6.el kp hkpm)) upd_same (by rw [List.length_map]; show kp.2.2.length + 1 ≤ sizeLine; exact Nat.le_of_lt (small1000 (by omega))) fun tn H7 s7 h7' => ?_
                  have s67 := sb.trans s7
                  have hF7 := s67 _ _ hF6
                  have hE7 := hE6.same s67
                  have hL7 := s67 _ _ hL6
                  have hT7 := s67 _ _ hT6
                  have hQ7 := s67 _ _ hQ6
                  have s57 := s56.trans s67
                  have h7' : H7 tn = some (.tup ((kp.2.2 ++ [d]).map V.int)) := by rw [h7', List.map_append]; rfl
                  have hsm : (kvsOf (ks ++ more2)).length < sizeLine := by rw [kvs_len]; exact small1000 (by omega)
                  refine ⟨_, rfl, _, rfl, fa, _, rfl, DPut.k (k := Sum.inr (sstr (flip kp.2.1 d))) hF7 hsm, ?_⟩
                  rw [putK_new _ hv]
                  have nt : ∀ xs, HO.dK (kvsOf (ks ++ more2)) ≠ .tup xs := fun xs z => by cases z
                  have hF8 : (upd H7 fa (.dK (kvsOf (ks ++ more2) ++ [(.inr (sstr (flip kp.2.1 d)), .ref tn)]))) fa = some (.dK (kvsOf (ks ++ (more2 ++ [(tn, (flip kp.2.1 d, kp.2.2 ++ [d]))])))) := by
                    rw [upd_same]
                    unfold kvsOf
                    simp only [List.map_append, List.append_assoc]
                    rfl
                  have hE8 : RowsEl (upd H7 fa (.dK (kvsOf (ks ++ more2) ++ [(.inr (sstr (flip kp.2.1 d)), .ref tn)]))) (ks ++ (more2 ++ [(tn, (flip kp.2.1 d, kp.2.2 ++ [d]))])) := ⟨fun k' hk' => by
                    rw [← List.append_assoc] at hk'
                    have h1 : H7 k'.1 = some (.tup (k'.2.2.map V.int)) := by
                      rcases List.mem_append.mp hk' with hk' | hk'
                      · exact hE7.el k' hk'
                      · rw [List.mem_singleton.mp hk']; exact h7'
                    rw [upd_ne (ne_of h1 hF7 fun z => nt _ z.symm)]
                    exact h1⟩
                  have hL8 : (upd H7 fa (.dK (kvsOf (ks ++ more2) ++ [(.inr (sstr (flip kp.2.1 d)), .ref tn)]))) L = some (.lst (lvS (ks.drop i0))) := by rw [upd_ne (ne_of hL7 hF7 (by intro z; cases z))]; exact hL7
                  have hT8 : (upd H7 fa (.dK (kvsOf (ks ++ more2) ++ [(.inr (sstr (flip kp.2.1 d)), .ref tn)]))) Lt = some (.lst (lvS more2)) := by rw [upd_ne hLtF]; exact hT7
                  have hQ8 : (upd H7 fa (.dK (kvsOf (ks ++ more2) ++ [(.inr (sstr (flip kp.2.1 d)), .ref tn)]))) fq = some (.lst ((freeL bs kp.2.1).map V.int)) := by rw [upd_ne hfF]; exact hQ7
                  have s8 : Same H (upd H7 fa (.dK (kvsOf (ks ++ more2) ++ [(.inr (sstr (flip kp.2.1 d)), .ref tn)]))) := fun b o eb => by
                    rw [upd_ne (ne_of_none eb hfa)]
                    exact s57 _ _ eb
                  generalize (upd H7 fa (.dK (kvsOf (ks ++ more2) ++ [(.inr (sstr (flip kp.2.1 d)), .ref tn)]))) = H8 at hF8 hE8 hL8 hT8 hQ8 s8 ⊢
                  refine ⟨_, rfl, .inl ⟨rfl, _, SqL.of hT8⟩, _, rfl, Lt, _, _, rfl, rfl, hT8, by unfold lvS; rw [List.length_map]; exact small1000 (by omega), ?_⟩
                  have nt2 : ∀ xs, HO.lst (lvS more2) ≠ .tup xs := fun xs z => by cases z
                  refine ⟨d + 1, more2 ++ [(tn, (flip kp.2.1 d, kp.2.2 ++ [d]))], _, _, rfl, ?_, ?_, ⟨fun k' hk' => ?_⟩, ?_, ?_, fun b o eb => ?_, ?_⟩
                  · have := I5.new hd h7 hin
                    rw [← List.append_assoc, List.map_append]
                    exact this
                  · rw [upd_ne hLtF.symm]; exact hF8
                  · have h1 := hE8.el k' hk'
                    rw [upd_ne (ne_of h1 hT8 fun z => nt2 _ z.symm)]
                    exact h1
                  · rw [upd_ne hLtL.symm]; exact hL8
                  · rw [upd_same]
                    unfold lvS
                    rw [List.map_append]
                    rfl
                  · rw [upd_ne (ne_of_none eb hHLt)]
                    exact s8 _ _ eb
                  · rw [upd_ne hfT]; exact hQ8
            · rintro σ H5 ⟨D, more2, v6, v7, rfl, I5, hF5, hE5, hL5, hT5, s5, hQ5⟩
              rw [List.length_map] at I5
              exact ⟨more2, _, _, _, rfl, I5.done, hF5, hE5, hL5, hT5, s5⟩
        · rintro σ H3 ⟨more, w5, w6, w7, rfl, I3, hF3, hE3, hL3, hT3, s3⟩
          have e1 : (lvS (ks.drop i0)).length = ks.length - i0 := by
            unfold lvS
            rw [List.length_map, List.length_drop]
          rw [e1, show i0 + (ks.length - i0) = ks.length by omega] at I3
          refine ⟨_, rfl, ?_⟩
          refine ⟨⟨Lt, ks.length, ks ++ more, _, _, _, _, rfl, by rw [List.length_append]; omega, I3, hF3, hE3, ?_, s3⟩, ?_⟩
          · rw [List.drop_append_of_le_length (Nat.le_refl _), List.drop_length, List.nil_append]
            exact hT3
          · have : muR fa (([some (V.ref p), some (.str (sstr st)), some (.ref fa), some (.ref L), some (.ref Lt), w5, w6, w7] : L2.St).set 3 (some (.ref Lt))) H3 = 128 - ks.length := by
              unfold muR
              rw [hF3]
              show 128 - ((kvsOf (ks ++ more)).length - (match H3 Lt with | some (.lst xs) => xs.length | _ => 0)) = _
              rw [hT3]
              show 128 - ((kvsOf (ks ++ more)).length - (lvS more).length) = _
              unfold lvS
              rw [kvs_len, List.length_map, List.length_append]
              omega
            rw [this]
            omega
    · rintro σ H1 Q1 Q2 m ⟨x, e1, hs, hf⟩
      refine ⟨x, e1, hs, fun e he => ?_⟩
      obtain ⟨d, d', h1, h2, h3, h4, c', ec, hq'⟩ := hf e he
      exact ⟨d, d', h1, h2, h3, h4, c', ec, m _ _ hq'⟩
end
end DL

set_option Elab.async false
set_option maxRecDepth 100000
namespace DL
open PySem L2 HT TL RZ
/-! ### patterns of sets -/
def opat (n : Nat) (ns : List Int) : List Nat := (List.range n).map fun (i : Nat) => if decide ((i : Int) ∈ ns) = true then 111 else 63
theorem opat_len (n : Nat) (ns : List Int) : (opat n ns).length = n := by unfold opat; rw [List.length_map, List.length_range]
theorem opat_at {n i : Nat} (ns : List Int) (h : i < n) : (opat n ns)[i]? = some (if decide ((i : Int) ∈ ns) = true then 111 else 63) := by
  unfold opat
  rw [List.getElem?_map, List.getElem?_range h]
  rfl
theorem fit_opat {n : Nat} {st : List Bool} {ns : List Int} (hl : st.length = n) (hn : ∀ d ∈ ns, 0 ≤ d ∧ d < n) : fitB st (opat n ns) = ns.all fun d => sat st d := by
  rw [Bool.eq_iff_iff]
  unfold fitB
  rw [List.all_map, List.all_eq_true, List.all_eq_true]
  have key : ∀ i : Nat, i < n → (fitAt st (opat n ns) i = true ↔ ((i : Int) ∈ ns → sat st i = true)) := fun i hi => by
    unfold fitAt
    rw [List.getD_eq_getElem?_getD, opat_at ns hi, Option.getD_some]
    unfold sat
    rw [Int.toNat_natCast]
    by_cases q : (i : Int) ∈ ns
    · rw [decide_eq_true q, if_pos rfl]
      have : ∀ b : Bool, (decide (111 = 63) || decide (111 = sg b)) = b := by decide
      rw [this]
      exact ⟨fun h _ => h, fun h => h q⟩
    · rw [decide_eq_false q, if_neg Bool.false_ne_true]
      exact ⟨fun _ z => absurd z q, fun _ => rfl⟩
  constructor
  · intro h d hd
    obtain ⟨d0, d1⟩ := hn d hd
    have := (key d.toNat (by omega)).mp (h d.toNat (List.mem_range.mpr (by omega)))
    rw [show ((d.toNat : Nat) : Int) = d by omega] at this
    exact this hd
  · intro h i hi
    exact (key i (by rw [← hl]; exact List.mem_range.mp hi)).mpr fun hm => h _ hm
structure spOpenPat (K : PySem.W.Frag) (C : Addr) (vs : List V) (H : Hp) (Q : VK) (_ : XK) : Prop where
  h : ∃ (c a : Addr) (n : Nat) (t : Addr) (ns : List Int), vs = [.ref c, .ref a] ∧ CabAt C H c n t ∧ n ≤ 7 ∧ SqT K H a (ns.map V.int) ∧ ∀ H', Same H H' → Q (.str (pstr (opat n ns))) H'
structure spAnyFits (K : PySem.W.Frag) (vs : List V) (H : Hp) (Q : VK) (_ : XK) : Prop where
  h : ∃ (l : Addr) (sts : List (List Bool)) (cs : List Nat), vs = [.ref l, .str (pstr cs)] ∧ SqA K H l (sts.map fun st => V.str (sstr st)) ∧ (∀ st ∈ sts, st.length = cs.length) ∧ cs.length ≤ 7 ∧ sts.length ≤ 1000 ∧ ∀ H', Same H H' → Q (.bl (sts.any fun st => fitB st cs)) H'
theorem bl_any {α : Type} (l : List α) (f : α → Bool) : (l.map f).any id = l.any f := by rw [List.any_map]; rfl
theorem SqA.same {K : PySem.W.Frag} {H H' : Hp} {a : Addr} {xs : List V} (s : Same H H') (h : SqA K H a xs) : SqA K H' a xs := by
  rcases h with h | h
  · exact .inl (s.seq h)
  · exact .inr (SqT.same s h)
section
variable {P : Program} {w : World} {K : PySem.W.Frag} {mg : Str → Option Value} {base : Heap}
abbrev nOP : List Str := ["cabinet", "some", "drawer"]
theorem scOP : FnScope nOP ["cabinet", "some"] (defScope s_open_pattern) := ⟨rfl, rfl, rfl, by decide +kernel, rfl, by decide +kernel, by decide +kernel⟩
theorem ok_openPat {f C aS : Addr} {fd : FuncData} (F : Fun K "open_pattern" "open_pattern" s_open_pattern f fd) (T : Bt mg) (TS : SgT K w mg aS) (CP : CabP P w K mg base C) : FnOk P w K mg base CX0 4 f fd ["cabinet", "some"] (spOpenPat K C) := by
  refine F.ok scOP (fun vs H Q E h => ?_) (fun cdv A outer s H vs Q E hr h => ?_)
  · obtain ⟨c, a, n, t, ns, rfl, _⟩ := h.h
    rfl
  · obtain ⟨c, a, n, t, ns, rfl, ⟨dx, hc⟩, n7, S, k⟩ := h.h
    obtain ⟨pD, gD, fdD, hpD, GD, bD⟩ := CP.d
    refine ⟨_, pss_one (ps_ret (pe_join pe_str
      (pe_lc (own := [("drawer", 2)]) (g := gName 2) (tt := tYes) (by rfl) scOP.nd (pi_range1 (by rfl) T.range (pa_cons (pe_prop (pv 0) CP.cl hpD GD (hr.mono (by decide)) bD .nil pass0 rfl) pa_nil)) (blkOk_by (N := nOP) (sc := defScope s_open_pattern) (by decide +kernel)) (fun _ _ _ _ _ => pg_name (i := 2) scOP.nd rfl (Or.inl rfl)) (fun _ _ _ _ _ => pts_nil)
        (fun _ _ _ _ _ => pe_ifExp (pt_cmpR (op_in_seqK (K := K) rfl) (pv 2) (pv 1) (by rfl)) (pe_ix (ix_kdictK (K := K) (w := w) rfl rfl) (pe_glob (v := .ref aS) rfl TS.g rfl) pe_str (fun _ _ => rfl)) pe_str)))), ?_⟩
    refine ⟨⟨_, rfl⟩, _, rfl, c, dx, _, rfl, hc, ⟨⟨c, dx, _, t, rfl, hc, _, rfl, by omega, by omega, fun D hD => ?_⟩⟩⟩
    rw [Int.toNat_natCast]
    refine lc_pick (walk_range (lo := 0) (n := n)) (opat n ns) (opat_len n ns) (by omega) (fun _ => true) (fun c => V.str ⟨#[c]⟩) hD (fun _ _ => trivial) ?_ ?_
    · rintro i x z H1 H1' Tk Nk ez s1 ⟨rfl, rfl⟩ kT kF
      have hi : i < n := by have := (List.getElem?_eq_some_iff.mp ez).1; rw [opat_len] at this; exact this
      rw [opat_at ns hi] at ez
      have ei : (0 : Int) + (i : Nat) = (i : Int) := by omega
      refine ⟨rfl, tYes_of (iteT ?_)⟩
      refine ⟨_, rfl, _, rfl, a, _, rfl, .inr (SqT.same s1 S), rfl, flat_ints _, _, rfl, ?_⟩
      rw [if_neg Bool.false_ne_true, inV_ints, ei]
      by_cases q : (i : Int) ∈ ns
      · rw [decide_eq_true q, if_pos rfl] at ez
        cases ez
        rw [decide_eq_true q]
        exact iteT ⟨aS, _, _, rfl, rfl, TS.o, kT _ rfl (Same.refl _)⟩
      · rw [decide_eq_false q, if_neg Bool.false_ne_true] at ez
        cases ez
        rw [decide_eq_false q]
        exact iteF (kT _ rfl (Same.refl _))
    · intro H1 s1 hD1
      rw [List.filter_eq_self.mpr fun _ _ => rfl] at hD1
      have em : ((opat n ns).map fun c => V.str ⟨#[c]⟩) = ((opat n ns).map fun c => (⟨#[c]⟩ : Str)).map V.str := by rw [List.map_map]; rfl
      rw [em] at hD1
      refine ⟨_, D, _, rfl, rfl, .inl (SqL.of hD1), ?_, ?_⟩
      · rw [sum_ones, List.length_map, opat_len]
        have z : ("" : Str).length = 0 := by decide +kernel
        rw [z]
        have : (14 : Nat) < sizeLine := by decide
        omega
      · rw [join_codes]
        exact k H1 s1
abbrev nAF : List Str := ["standings", "pattern", "standing"]
theorem scAF : FnScope nAF ["standings", "pattern"] (defScope s_any_fits) := ⟨rfl, rfl, rfl, by decide +kernel, rfl, by decide +kernel, by decide +kernel⟩
theorem ok_anyFits {f f1 : Addr} {fd fd1 : FuncData} (F : Fun K "any_fits" "any_fits" s_any_fits f fd) (zA : mg "any" = none) (G : FnOk P w K mg base CX0 1 f1 fd1 ["standing", "pattern"] spFits) (g1 : mg "fits" = some (.ref f1)) (k1 : PySem.W.keepIn K (.ref f1) = true) (b1 : Binds K fd1 ["standing", "pattern"] []) :
    FnOk P w K mg base CX0 4 f fd ["standings", "pattern"] (spAnyFits K) := by
  refine F.ok scAF (fun vs H Q E h => ?_) (fun cdv A outer s H vs Q E hr h => ?_)
  · obtain ⟨l, sts, cs, rfl, _⟩ := h.h
    rfl
  · obtain ⟨l, sts, cs, rfl, S, hl, h7, h1000, k⟩ := h.h
    refine ⟨_, pss_one (ps_ret (pe_callB (cr_any rfl) (by rfl) zA boot_any_ (pa_cons
      (pe_lc (own := [("standing", 2)]) (g := gName 2) (tt := tYes) (by rfl) scAF.nd (pi_seq (K := K) rfl (pv 0)) (blkOk_by (N := nAF) (sc := defScope s_any_fits) (by decide +kernel)) (fun _ _ _ _ _ => pg_name (i := 2) scAF.nd rfl (Or.inl rfl)) (fun _ _ _ _ _ => pts_nil)
        (fun _ _ _ _ _ => pe_call G (hr.mono (by decide)) rfl g1 k1 b1 .nil pass0 (pa_cons (pv 2) (pa_cons (pv 1) pa_nil)))) pa_nil))), ?_⟩
    have step : ∀ (J : It) (Gd : Hp → Prop) (Y : Nat → Hp → V → Hp → Prop), Walk J sts.length Gd Y → (∀ H', Same H H' → Gd H') → (∀ i H1 x H', Y i H1 x H' → H' = H1 ∧ ∃ z, sts[i]? = some z ∧ x = .str (sstr z)) →
        lcC J (gName 2) tYes (tCall spFits [] E0 (tCons (tVar 2) (tCons (tVar 1) tNil))) [2] (L2.start nAF [.ref l, .str (pstr cs)]) (fun v H1 => rAny K [v] H1 Q) H := by
      intro J Gd Y wk hG hY D hD
      refine lc_pick wk sts rfl (by omega) (fun _ => true) (fun st => V.bl (fitB st cs)) hD hG ?_ ?_
      · rintro i x z H1 H1' Tk Nk ez s1 y kT kF
        obtain ⟨rfl, z', ez', rfl⟩ := hY _ _ _ _ y
        rw [ez] at ez'
        cases ez'
        refine ⟨rfl, tYes_of (iteT ?_)⟩
        have hz := hl z (List.mem_of_getElem? ez)
        exact ⟨_, rfl, _, rfl, ⟨⟨z, cs, rfl, hz, by omega, fun H4 s4 => kT H4 rfl s4⟩⟩⟩
      · intro H1 s1 hD1
        rw [List.filter_eq_self.mpr fun _ _ => rfl] at hD1
        refine ⟨D, sts.map fun st => fitB st cs, rfl, SqL.of (by rw [hD1, List.map_map]; rfl), ?_⟩
        rw [bl_any]
        exact k H1 s1
    refine ⟨_, rfl, l, rfl, ?_⟩
    rcases S with S | S
    · exact .inl ⟨⟨_, S⟩, step _ _ _ (walk_lst (K := K) (a := l) (l := sts) (f := fun st => V.str (sstr st))) (fun H' s1 => s1.seq S) fun _ _ _ _ y => y⟩
    · exact .inr ⟨⟨_, S⟩, step _ _ _ (walk_bars (K := K) (a := l) (l := sts) (f := fun st => V.str (sstr st))) (fun H' s1 => SqT.same s1 S) fun _ _ _ _ y => y⟩
end
end DL

set_option Elab.async false
set_option maxRecDepth 100000
namespace DL
open PySem L2 HT TL
/-! ### walks over a dict of rows -/
/-- a dict of rows, locked from its making on -/
structure RowsFrz (H : Hp) (a : Addr) (od : Obj) (ks : List KEnt) : Prop where
  at' : H a = some (.frz od (.dK (kvsOf ks)))
  el : RowsEl H ks
theorem RowsFrz.same {H H' : Hp} {a : Addr} {od : Obj} {ks : List KEnt} (R : RowsFrz H a od ks) (s : Same H H') : RowsFrz H' a od ks := ⟨s _ _ R.at', R.el.same s⟩
theorem RowsFrz.but {r sc : Addr} {H H' : Hp} {a : Addr} {od : Obj} {ks : List KEnt} (R : RowsFrz H a od ks) (hR : RowOk H r sc) (B : But r H H') : RowsFrz H' a od ks := by
  obtain ⟨_, _, _, h, _⟩ := hR.h
  exact ⟨B _ _ (ne_of R.at' h (by intro z; cases z)) R.at', ⟨fun k hk => B.tup h (R.el.el k hk)⟩⟩
theorem dget_frz {H : Hp} {a : Addr} {o : Obj} {kvs : List (Key × V)} (k : Key) (h : H a = some (.frz o (.dK kvs))) : DGet H a (kV k) (valV kvs k) := .inl ⟨kvs, k, .inr ⟨o, h⟩, rfl, rfl⟩
end DL

set_option Elab.async false
set_option maxRecDepth 100000
namespace DL
open PySem L2 HT TL RZ
structure PairsAt (H : Hp) (qs : List (Addr × Int × Int)) : Prop where
  el : ∀ q ∈ qs, H q.1 = some (.tup [.int q.2.1, .int q.2.2])
theorem PairsAt.same {H H' : Hp} {qs : List (Addr × Int × Int)} (A : PairsAt H qs) (s : Same H H') : PairsAt H' qs := ⟨fun q hq => s _ _ (A.el q hq)⟩
def never (es : List Ent) (p : Int × Int) : Bool := !(es.any fun e => sat e.1 p.1 && sat e.1 p.2)
structure spOpenT (K : PySem.W.Frag) (C : Addr) (vs : List V) (H : Hp) (Q : VK) (_ : XK) : Prop where
  h : ∃ (c a : Addr) (bs : List Bar) (n : Nat) (ns : List Int), vs = [.ref c, .ref a] ∧ CabOk C H c n bs ∧ SetAt K H n a ns ∧
    ∀ (ks : List KEnt) (H' : Hp), Same H H' → RowsEl H' ks → BI bs (shutS n) ks.length (ks.map (·.2)) → Q (match ks.find? (fun k => ns.all fun d => sat k.2.1 d) with | some k => .ref k.1 | none => .non) H'
theorem find_congr {α : Type} {l : List α} {p q : α → Bool} (h : ∀ x ∈ l, p x = q x) : l.find? p = l.find? q := by
  induction l with
  | nil => rfl
  | cons a l ih =>
    rw [List.find?_cons, List.find?_cons, h a List.mem_cons_self, ih fun x hx => h x (List.mem_cons_of_mem _ hx)]
theorem any_perm {ys : List Str} {es : List Ent} (h : ys.Perm (es.map fun e => sstr e.1)) : ∃ sts : List (List Bool), ys = sts.map sstr ∧ sts.Perm (es.map (·.1)) := by
  have key : ∀ (l : List (List Bool)) (ys : List Str), ys.Perm (l.map sstr) → ∃ sts : List (List Bool), ys = sts.map sstr ∧ sts.Perm l := by
    intro l ys h
    have hs : ∀ y ∈ ys, ∃ st, y = sstr st := fun y hy => by
      obtain ⟨st, _, rfl⟩ := List.mem_map.mp (h.mem_iff.mp hy)
      exact ⟨st, rfl⟩
    have ex : ∃ sts : List (List Bool), ys = sts.map sstr := by
      clear h
      induction ys with
      | nil => exact ⟨[], rfl⟩
      | cons y ys ih =>
        obtain ⟨sts, e⟩ := ih fun z hz => hs z (List.mem_cons_of_mem _ hz)
        obtain ⟨st, e2⟩ := hs y List.mem_cons_self
        exact ⟨st :: sts, by rw [List.map_cons, e2, e]⟩
    obtain ⟨sts, e⟩ := ex
    refine ⟨sts, e, ?_⟩
    rw [e] at h
    refine List.perm_iff_count.mpr fun st => ?_
    have := List.perm_iff_count.mp h (sstr st)
    have cm : ∀ l : List (List Bool), (l.map sstr).count (sstr st) = l.count st := fun l => by
      induction l with
      | nil => rfl
      | cons a l ih =>
        rw [List.map_cons, List.count_cons, List.count_cons, ih]
        by_cases q : a = st
        · subst q
          simp
        · have q' : ¬ sstr a = sstr st := fun z => q (sstr_inj z)
          simp [q, q']
    rw [cm, cm] at this
    exact this
  have e : (es.map fun e => sstr e.1) = (es.map (·.1)).map sstr := by rw [List.map_map]; rfl
  rw [e] at h
  exact key _ _ h
section
variable {P : Program} {w : World} {K : PySem.W.Frag} {mg : Str → Option Value} {base : Heap}
theorem scOT2 : FnScope ["cabinet", "some"] ["cabinet", "some"] (defScope s_open_together) := ⟨rfl, rfl, rfl, by decide +kernel, rfl, by decide +kernel, by decide +kernel⟩
theorem ok_openT {f f1 f2 f3 f4 f5 C : Addr} {fd fd1 fd2 fd3 fd4 fd5 : FuncData} (F : Fun K "open_together" "open_together" s_open_together f fd) (CP : CabP P w K mg base C)
    (G1 : FnOk P w K mg base CX0 1 f1 fd1 ["cabinet"] (spCkCab C)) (g1 : mg "check_cabinet" = some (.ref f1)) (k1 : PySem.W.keepIn K (.ref f1) = true) (b1 : Binds K fd1 ["cabinet"] [])
    (G2 : FnOk P w K mg base CX0 6 f2 fd2 ["cabinet", "some"] (spCkSet K C)) (g2 : mg "check_set" = some (.ref f2)) (k2 : PySem.W.keepIn K (.ref f2) = true) (b2 : Binds K fd2 ["cabinet", "some"] [])
    (G3 : FnOk P w K mg base CX0 12 f3 fd3 ["cabinet", "standing", "pattern"] (spFirstRow C)) (g3 : mg "first_row_to" = some (.ref f3)) (k3 : PySem.W.keepIn K (.ref f3) = true) (b3 : Binds K fd3 ["cabinet", "standing", "pattern"] [])
    (G4 : FnOk P w K mg base CX0 1 f4 fd4 ["drawers"] spFirst) (g4 : mg "first_standing" = some (.ref f4)) (k4 : PySem.W.keepIn K (.ref f4) = true) (b4 : Binds K fd4 ["drawers"] [])
    (G5 : FnOk P w K mg base CX0 4 f5 fd5 ["cabinet", "some"] (spOpenPat K C)) (g5 : mg "open_pattern" = some (.ref f5)) (k5 : PySem.W.keepIn K (.ref f5) = true) (b5 : Binds K fd5 ["cabinet", "some"] []) :
    FnOk P w K mg base CX0 14 f fd ["cabinet", "some"] (spOpenT K C) := by
  refine F.ok scOT2 (fun vs H Q E h => ?_) (fun cdv A outer s H vs Q E hr h => ?_)
  · obtain ⟨c, a, bs, n, ns, rfl, _⟩ := h.h
    rfl
  · obtain ⟨c, a, bs, n, ns, rfl, B, S, k⟩ := h.h
    obtain ⟨t, hc, n7⟩ := B.cab
    have n1 : 1 ≤ n := by
      obtain ⟨_, _, _, _, _, _, q, _⟩ := B.h
      omega
    obtain ⟨pD, gD, fdD, hpD, GD, bD⟩ := CP.d
    refine ⟨_, pss_cons (ps_expr (pe_call G1 (hr.mono (by decide)) rfl g1 k1 b1 .nil pass0 (pa_cons (pv 0) pa_nil))) (pss_cons (ps_expr (pe_call G2 (hr.mono (by decide)) rfl g2 k2 b2 .nil pass0 (pa_cons (pv 0) (pa_cons (pv 1) pa_nil))))
      (pss_one (ps_ret (pe_call G3 (hr.mono (by decide)) rfl g3 k3 b3 .nil pass0 (pa_cons (pv 0) (pa_cons (pe_call G4 (hr.mono (by decide)) rfl g4 k4 b4 .nil pass0 (pa_cons (pe_prop (pv 0) CP.cl hpD GD (hr.mono (by decide)) bD .nil pass0 rfl) pa_nil))
        (pa_cons (pe_call G5 (hr.mono (by decide)) rfl g5 k5 b5 .nil pass0 (pa_cons (pv 0) (pa_cons (pv 1) pa_nil))) pa_nil))))))), ?_⟩
    refine ⟨_, rfl, ⟨⟨c, _, t, rfl, hc, ?_⟩⟩⟩
    refine ⟨_, rfl, _, rfl, ⟨⟨c, a, n, t, ns, rfl, hc, by omega, S, fun H1 s1 => ?_⟩⟩⟩
    obtain ⟨dx, hc0⟩ := hc
    have hc1 := s1 _ _ hc0
    have hshut : (shutS n).length = n := List.length_replicate
    refine ⟨_, rfl, _, rfl, c, dx, _, rfl, hc1, ⟨⟨c, dx, _, t, rfl, hc1, ⟨⟨n, rfl, n1, by omega, ?_⟩⟩⟩⟩⟩
    refine ⟨_, rfl, _, rfl, ⟨⟨c, a, n, t, ns, rfl, ⟨dx, hc1⟩, by omega, SqT.same s1 S.at', fun H2 s2 => ?_⟩⟩⟩
    have s12 := s1.trans s2
    refine ⟨⟨c, bs, shutS n, opat n ns, rfl, by rw [hshut]; exact B.same s12, by rw [hshut, opat_len], fun ks H3 s3 hE I => ?_⟩⟩
    have e : ks.find? (fun k => fitB k.2.1 (opat n ns)) = ks.find? (fun k => ns.all fun d => sat k.2.1 d) := find_congr fun x hx => fit_opat (by rw [(I.led x.2 (List.mem_map.mpr ⟨x, hx, rfl⟩)).2.2, hshut]) S.low
    rw [e]
    exact k ks H3 (s12.trans s3) hE I
end
end DL

set_option Elab.async false
set_option maxRecDepth 100000
set_option maxHeartbeats 1000000

set_option Elab.async false
set_option maxRecDepth 100000

set_option Elab.async false
set_option maxRecDepth 100000
set_option maxHeartbeats 1000000

set_option Elab.async false
set_option maxRecDepth 100000
set_option maxHeartbeats 1000000
namespace DL
open PySem L2 HT TL
/-! ### forms of single values: standings, tries, whatever they are -/
def sgnB (n : Int) (z : Str) : V → Bool
  | .str y => decide ((y.length : Int) = n) && y.cps.toList.all fun c => decide (c ∈ z.cps.toList)
  | _ => false
theorem sgn_str (n : Int) (z y : Str) : sgnB n z (.str y) = (decide ((y.length : Int) = n) && y.cps.toList.all fun c => decide (c ∈ z.cps.toList)) := rfl
theorem int_dec (a b : Int) : decide ((V.int a) = V.int b) = decide (a = b) := decide_eq_decide.mpr ⟨fun z => by injection z, fun z => by rw [z]⟩
end DL

set_option Elab.async false
set_option maxRecDepth 100000

set_option Elab.async false
set_option maxRecDepth 100000
set_option maxHeartbeats 1000000

set_option Elab.async false
set_option maxRecDepth 100000
set_option maxHeartbeats 1000000

set_option Elab.async false
set_option maxRecDepth 100000
set_option maxHeartbeats 1000000
namespace DL
open PySem L2 HT TL
/-! ### standings, patterns, drawers, lengths that are refused, whatever they are -/
def NoStr (K : PySem.W.Frag) (H : Hp) (v : V) : Prop := ∃ t, (∀ H', Same H H' → TyX K H' v t) ∧ PySem.W.kitOne K t (.type "str") = some false
def BadSgn (K : PySem.W.Frag) (z : Str) (H : Hp) (n : Int) (v : V) : Prop := NoStr K H v ∨ ∃ y, v = .str y ∧ y.length ≤ 1000 ∧ sgnB n z (.str y) = false
def GoodSgn (z : Str) (n : Int) (v : V) : Prop := ∃ y, v = .str y ∧ y.length ≤ 1000 ∧ sgnB n z (.str y) = true
theorem BadSgn.same {K : PySem.W.Frag} {z : Str} {H H' : Hp} {n : Int} {v : V} (h : BadSgn K z H n v) (s : Same H H') : BadSgn K z H' n v := by
  rcases h with ⟨t, h1, h2⟩ | h
  · exact .inl ⟨t, fun H2 s2 => h1 H2 (s.trans s2), h2⟩
  · exact .inr h
structure spSgn3 (K : PySem.W.Frag) (vs : List V) (H : Hp) (Q : VK) (_ : XK) : Prop where
  h : ∃ (n : Int) (v : V) (z : Str), vs = [.int n, v, .str z] ∧ ((BadSgn K z H n v ∧ ∀ H', Same H H' → Q (.bl false) H') ∨ (GoodSgn z n v ∧ ∀ H', Same H H' → Q (.bl true) H'))
structure spSgn2 (K : PySem.W.Frag) (z : Str) (vs : List V) (H : Hp) (Q : VK) (_ : XK) : Prop where
  h : ∃ (n : Int) (v : V), vs = [.int n, v] ∧ ((BadSgn K z H n v ∧ ∀ H', Same H H' → Q (.bl false) H') ∨ (GoodSgn z n v ∧ ∀ H', Same H H' → Q (.bl true) H'))
section
variable {P : Program} {w : World} {K : PySem.W.Frag} {mg : Str → Option Value} {base : Heap}
theorem ok_hasSignsI {f : Addr} {fd : FuncData} (F : Fun K "has_signs" "has_signs" s_has_signs f fd) (T : Bt mg) (zS : mg "str" = none) (zA : mg "all" = none) : FnOk P w K mg base CX0 1 f fd ["drawers", "value", "signs"] (spSgn3 K) := by
  refine F.ok scHS (fun vs H Q E h => ?_) (fun cdv A outer s H vs Q E hr h => ?_)
  · obtain ⟨n, v, z, rfl, _⟩ := h.h
    rfl
  · obtain ⟨n, v, z, rfl, hv⟩ := h.h
    refine ⟨_, pss_cons (ps_if (PW.pt (pw_or (pt_not (pt_val (pe_callB call_isi (by rfl) T.isinstance (by decide +kernel) (pa_cons (pv 1) (pa_cons (pe_bltn (v := .ty "str") (by rfl) zS (by decide +kernel) rfl) pa_nil)))))
        (pw_or1 (pt_cmpR op_ne (pe_callB call_len_str (by rfl) T.len PySem.boot_len (pa_cons (pv 1) pa_nil)) (pv 0) (nomark _))))) (pss_one (ps_ret pe_bl)) pss_nil)
      (pss_one (ps_ret (pe_callB (cr_all rfl) (by rfl) zA boot_all_ (pa_cons
        (pe_lc (own := [("sign", 3)]) (g := gName 3) (tt := tYes) (by rfl) scHS.nd (pi_str (pv 1)) (blkOk_by (N := nHS) (sc := defScope s_has_signs) (by decide +kernel)) (fun _ _ _ _ _ => pg_name (i := 3) scHS.nd rfl (by first | exact Or.inl rfl | exact Or.inr rfl)) (fun _ _ _ _ _ => pts_nil)
          (fun _ _ _ _ _ => pe_cmpR op_in_sign (pv 3) (pv 2) (by rfl))) pa_nil)))), ?_⟩
    have hv' : (NoStr K H v ∧ Q (.bl false) H) ∨ ∃ y, v = .str y ∧ y.length ≤ 1000 ∧ ∀ H', Same H H' → Q (.bl (sgnB n z (.str y))) H' := by
      rcases hv with ⟨hn | ⟨y, e, hy, hb⟩, k⟩ | ⟨⟨y, e, hy, hb⟩, k⟩
      · exact .inl ⟨hn, k H (Same.refl H)⟩
      · exact .inr ⟨y, e, hy, fun H' s => by rw [hb]; exact k H' s⟩
      · exact .inr ⟨y, e, hy, fun H' s => by rw [hb]; exact k H' s⟩
    rcases hv' with ⟨⟨t, ty, kt⟩, k⟩ | ⟨y, rfl, h1000, k⟩
    · exact ⟨_, rfl, _, _, t, _, false, rfl, .ty "str", ty H (Same.refl H), kt, _, rfl, iteT k⟩
    · have hdone : True := trivial
      have ysz : y.length ≤ sizeLine := Nat.le_of_lt (small1000 h1000)
      refine ⟨_, rfl, _, _, .type "str", _, true, rfl, .ty "str", .base (.str y), kit_ty (by decide +kernel), _, rfl, iteF ?_⟩
      refine ⟨_, rfl, _, rfl, ysz, _, rfl, rfl, _, rfl, ?_⟩
      have ei := int_dec (y.length : Int) n
      show if (!decide ((V.int (y.length : Int)) = V.int n)) = true then _ else _
      rw [ei]
      cases en : decide ((y.length : Int) = n) with
      | false =>
        refine iteT ?_
        have := k H (Same.refl H)
        rw [sgn_str, en] at this
        exact this
      | true =>
        refine iteF ?_
        refine ⟨_, rfl, _, rfl, fun D hD => ?_⟩
        have hsz : y.cps.toList.length = y.cps.size := Array.length_toList
        have hyl : y.length = y.cps.size := rfl
        have := h1000
        refine lc_pick walk_str y.cps.toList hsz (by omega) (fun _ => true) (fun c => V.bl (decide (c ∈ z.cps.toList))) hD (fun _ _ => trivial) ?_ ?_
        · rintro i x c H1 H1' Tk Nk ez s1 ⟨rfl, c', hc', rfl⟩ kT kF
          rw [Array.getElem?_toList, hc'] at ez
          cases ez
          refine ⟨rfl, tYes_of (iteT ?_)⟩
          exact ⟨_, rfl, _, rfl, _, z, rfl, rfl, kT _ rfl (Same.refl _)⟩
        · intro H1 s1 hD1
          rw [List.filter_eq_self.mpr fun _ _ => rfl] at hD1
          refine ⟨D, y.cps.toList.map fun c => decide (c ∈ z.cps.toList), rfl, SqL.of (by rw [hD1, List.map_map]; rfl), ?_⟩
          have := k H1 s1
          rw [sgn_str, en, Bool.true_and] at this
          have e9 : (y.cps.toList.map fun c => decide (c ∈ z.cps.toList)).all id = y.cps.toList.all fun c => decide (c ∈ z.cps.toList) := by rw [List.all_map]; rfl
          rw [e9]
          exact this
theorem scIsStdI : FnScope ["drawers", "value"] ["drawers", "value"] (defScope s_is_standing) := ⟨rfl, rfl, rfl, by decide +kernel, rfl, by decide +kernel, by decide +kernel⟩
theorem ok_isStdI {f f1 : Addr} {fd fd1 : FuncData} (F : Fun K "is_standing" "is_standing" s_is_standing f fd) (G : FnOk P w K mg base CX0 1 f1 fd1 ["drawers", "value", "signs"] (spSgn3 K)) (g1 : mg "has_signs" = some (.ref f1)) (k1 : PySem.W.keepIn K (.ref f1) = true) (b1 : Binds K fd1 ["drawers", "value", "signs"] [])
    (gS : ∃ t, mg "STANDING_SIGNS" = some (.str "os" t)) : FnOk P w K mg base CX0 2 f fd ["drawers", "value"] (spSgn2 K "os") := by
  refine F.ok scIsStdI (fun vs H Q E h => ?_) (fun cdv A outer s H vs Q E hr h => ?_)
  · obtain ⟨n, v, rfl, _⟩ := h.h
    rfl
  · obtain ⟨n, v, rfl, hv⟩ := h.h
    obtain ⟨tS, gS⟩ := gS
    refine ⟨_, pss_one (ps_ret (pe_call G (hr.mono (by decide)) rfl g1 k1 b1 .nil pass0 (pa_cons (pv 0) (pa_cons (pv 1) (pa_cons (pe_glob (v := .str "os") rfl gS ⟨_, rfl⟩) pa_nil))))), ?_⟩
    exact ⟨_, rfl, _, rfl, ⟨⟨n, v, _, rfl, hv⟩⟩⟩
end
end DL

set_option Elab.async false
set_option maxRecDepth 100000
set_option maxHeartbeats 1000000
namespace DL
open PySem L2 HT TL RZ
/-! ### a dict comprehension by a walk -/
theorem dc_it {J : It} {n : Nat} {G : Hp → Prop} {Y : Nat → Hp → V → Hp → Prop} (w : Walk J n G Y) {g : TG} {tt : TT} {tk tv : TE} {vs : List Nat} {σ : L2.St} {H1 : Hp} {D : Addr} {Qd : Hp → Prop} (Pv : Nat → Hp → Prop) (h0 : Pv 0 (upd H1 D (.dK []))) (hG : ∀ i H, i ≤ n → Pv i H → G H)
    (hs : ∀ i x H H', i < n → Pv i H → Y i H x H' → g x (wipe σ vs) H' fun σ2 H2 => wipe σ2 vs = wipe σ vs ∧ tt σ2 H2 fun b H3 =>
      if b = true then tk σ2 H3 fun y H4 => tv σ2 H4 fun z H5 => ∃ kvs k, y = kV k ∧ H5 D = some (.dK kvs) ∧ kvs.length < sizeLine ∧ Pv (i + 1) (upd H5 D (.dK (putK kvs k z))) else Pv (i + 1) H3) (hd : ∀ H, Pv n H → Qd H) :
    ∃ W : Nat → Nat → Hp → Prop, (∃ m, W 0 m (upd H1 D (.dK []))) ∧ ∀ i m H, W i m H →
      (J.stop i H ∧ Qd H) ∨ (J.go i H ∧ ∃ Nx : Hp → Prop, (∀ H', Nx H' → ∃ m', m' < m ∧ W (i + 1) m' H') ∧ ∀ x H', J.yld i H x H' → g x (wipe σ vs) H' fun σ2 H2 => wipe σ2 vs = wipe σ vs ∧ tt σ2 H2 fun b H3 =>
        if b = true then tk σ2 H3 fun y H4 => tv σ2 H4 fun z H5 => ∃ kvs k, y = kV k ∧ H5 D = some (.dK kvs) ∧ kvs.length < sizeLine ∧ Nx (upd H5 D (.dK (putK kvs k z))) else Nx H3) := by
  refine ⟨fun i m H => m = n - i ∧ i ≤ n ∧ Pv i H, ⟨n, rfl, Nat.zero_le _, h0⟩, ?_⟩
  rintro i m H ⟨em, hi, p⟩
  have q := hG i H hi p
  rcases Nat.lt_or_ge i n with hlt | hge
  · exact .inr ⟨w.goes i H hlt q, Pv (i + 1), fun H' p' => ⟨n - (i + 1), by omega, rfl, hlt, p'⟩, fun x H' y => hs i x H H' hlt p (w.yields i H x H' hlt q y)⟩
  · obtain rfl : i = n := Nat.le_antisymm hi hge
    exact .inl ⟨w.stops H q, hd H p⟩
/-! ### y = {..}, a dict comprehension by itself in a row -/
section
variable {X : Cx}
theorem ps_setDc {j : Nat} {nm : Str} {pn : Pos} {kx vx tg iter : Expr} {ifs : List Expr} {scope : Scope} {own : List (Str × Nat)} {dpos rpos : Pos} {wi : TI} {g : TG} {tt : TT} {tk tv : TE} (calm : X.calm = true) (nd : X.N.Nodup) (at_ : X.N[j]? = some nm) (loc : X.env.scope.names.lookup nm = some .local)
    (sw : swapsWith (.DictComp kx vx [⟨tg, iter, ifs, 0⟩] scope dpos) (some (.Name nm pn)) rpos.line X.env = pure true) (pi : PI X tg iter wi) (bk : BlkOk X.N X.env.scope scope own)
    (gs : ∀ (z : Shared) (Hz : Hp) (Cz : Addr) (cz : List (Str × Addr)) (fz : List Addr), PG (X.blk z Hz scope (compEnvC scope cz Cz X.env) fz) tg g)
    (ts : ∀ (z : Shared) (Hz : Hp) (Cz : Addr) (cz : List (Str × Addr)) (fz : List Addr), PTs (X.blk z Hz scope (compEnvC scope cz Cz X.env) fz) ifs tt)
    (ks : ∀ (z : Shared) (Hz : Hp) (Cz : Addr) (cz : List (Str × Addr)) (fz : List Addr), PE (X.blk z Hz scope (compEnvC scope cz Cz X.env) fz) kx tk)
    (es : ∀ (z : Shared) (Hz : Hp) (Cz : Addr) (cz : List (Str × Addr)) (fz : List Addr), PE (X.blk z Hz scope (compEnvC scope cz Cz X.env) fz) vx tv)
    (fo : ∀ x, foldedSetIterable iter X.env x = pure x := by intro _; rfl) :
    PS X (.Assign [.Name nm pn] (.DictComp kx vx [⟨tg, iter, ifs, 0⟩] scope dpos) rpos) (tAsg (tDc wi g tt tk tv (own.map (·.2))) (gName j)) := by
  constructor
  intro pins s σ H D inv asked
  rw [exec_Assign_Name_used _ _ _ _ sw]
  refine wpAny_bind (wpAny_standAt (wpAny_bind ?_))
  have asked' : tDc wi g tt tk tv (own.map (·.2)) σ H fun v Hv => gName j v σ Hv D.nx := asked
  have body := dc_core (use := some (assign (.Name nm pn) X.env)) (pos := dpos) (pos' := firstIterPos [⟨tg, iter, ifs, 0⟩] dpos) (Qf := fun _ z => SP X pins D .next z) calm nd inv pi bk gs ts ks es fo asked' ?_
  · exact wpAny_bind (thn body fun _ _ hz => wpAny_pure (wpAny_pure hz))
  intro a C s1 m H1 inv1 hq ns fp
  show wpAny _ _ (assign (.Name nm pn) X.env (.ref a)) _ _ _
  refine wpAny_assign_Name (store_ok2 (v := .ref a) inv1 nd at_ (.inl loc) rfl ?_ (.inr loc))
  rintro s2 inv2 ⟨b, keeps, hb⟩
  obtain ⟨p0, p1, p2, p3, p4, p5⟩ := fp
  have nb : C ≠ b := hb.elim (fun z => z ▸ p1) fun z e => p4 nm b z e.symm
  exact ⟨m, ns.sameBut keeps nb, fun h3 k3 => ⟨_, H1, inv2.turned (t' := s2.toks) (fun x o hx e => (k3.2 x hx).trans e) p0 p1 p3 p4 p5, hq⟩⟩
end
/-! ### told standings as keys -/
def ktF (sts : List (List Bool)) : List (Key × V) := sts.foldl (fun kv st => putK kv (.inr (sstr st)) (.bl true)) []
theorem ktF_snoc (sts : List (List Bool)) (st : List Bool) : ktF (sts ++ [st]) = putK (ktF sts) (.inr (sstr st)) (.bl true) := by unfold ktF; rw [List.foldl_append]; rfl
theorem ktF_val (sts : List (List Bool)) (st : List Bool) : valV (ktF sts) (.inr (sstr st)) = if st ∈ sts then some (.bl true) else none := by
  refine snoc_ind (p := fun sts => valV (ktF sts) (.inr (sstr st)) = if st ∈ sts then some (.bl true) else none) rfl (fun l a ih => ?_) sts
  rw [ktF_snoc, valV_put, ih]
  by_cases e : st = a
  · subst e
    simp
  · have e1 : ¬ ((.inr (sstr st) : Key) = .inr (sstr a)) := fun z => e (sstr_inj (by injection z))
    rw [if_neg e1]
    by_cases m : st ∈ l
    · rw [if_pos m, if_pos (List.mem_append_left _ m)]
    · rw [if_neg m, if_neg]
      intro z
      rcases List.mem_append.mp z with z | z
      · exact m z
      · exact e (List.mem_singleton.mp z)
theorem putK_keys {kvs : List (Key × V)} {k : Key} {v : V} {e : Key × V} (h : e ∈ putK kvs k v) : e.1 = k ∨ ∃ v', (e.1, v') ∈ kvs := by
  by_cases q : valV kvs k = none
  · rw [putK_new v q] at h
    rcases List.mem_append.mp h with h | h
    · exact .inr ⟨e.2, h⟩
    · exact .inl (by rw [List.mem_singleton.mp h])
  · unfold putK at h
    split at h
    · obtain ⟨x, hx, ex⟩ := List.mem_map.mp h
      by_cases z : x.1 = k
      · rw [if_pos z] at ex
        exact .inl (by rw [← ex]; exact z)
      · rw [if_neg z] at ex
        exact .inr ⟨x.2, by rw [← ex]; exact hx⟩
    · rcases List.mem_append.mp h with h | h
      · exact .inr ⟨e.2, h⟩
      · exact .inl (by rw [List.mem_singleton.mp h])
theorem ktF_key (sts : List (List Bool)) : ∀ e ∈ ktF sts, ∃ st ∈ sts, e.1 = (.inr (sstr st) : Key) := by
  refine snoc_ind (p := fun sts => ∀ e ∈ ktF sts, ∃ st ∈ sts, e.1 = (.inr (sstr st) : Key)) (fun e he => by cases he) (fun l a ih e he => ?_) sts
  rw [ktF_snoc] at he
  rcases putK_keys he with h | ⟨v', h⟩
  · exact ⟨a, by simp, h⟩
  · obtain ⟨st, hm, e2⟩ := ih _ h
    exact ⟨st, List.mem_append_left _ hm, e2⟩
theorem ktF_len (sts : List (List Bool)) : (ktF sts).length ≤ sts.length := by
  refine snoc_ind (p := fun sts => (ktF sts).length ≤ sts.length) (Nat.le_refl _) (fun l a ih => ?_) sts
  rw [ktF_snoc, List.length_append]
  exact Nat.le_trans (length_putK _ _ _) (by simpa using ih)
theorem ktF_at {sts : List (List Bool)} {st : List Bool} (h : st ∈ sts) : ∃ (i : Nat) (v : V), (ktF sts)[i]? = some ((.inr (sstr st) : Key), v) := by
  have q := ktF_val sts st
  rw [if_pos h] at q
  unfold valV at q
  cases e : (ktF sts).find? fun kv => decide (kv.1 = (.inr (sstr st) : Key)) with
  | none => rw [e] at q; cases q
  | some p =>
    have hm := List.mem_of_find?_eq_some e
    have hp : p.1 = (.inr (sstr st) : Key) := by
      have := List.find?_some e
      simpa using this
    obtain ⟨i, hi⟩ := List.getElem?_of_mem hm
    exact ⟨i, p.2, by rw [hi, ← hp]⟩
def closedB (bs : List Bar) (sts : List (List Bool)) : Bool := sts.all fun st => (freeL bs st).all fun d => decide (flip st d ∈ sts)
structure spIsClosed (K : PySem.W.Frag) (C : Addr) (vs : List V) (H : Hp) (Q : VK) (_ : XK) : Prop where
  h : ∃ (c t : Addr) (bs : List Bar) (n : Nat) (sts : List (List Bool)), vs = [.ref c, .ref t] ∧ CabOk C H c n bs ∧ SqT K H t (sts.map fun st => V.str (sstr st)) ∧ (∀ st ∈ sts, st.length = n) ∧ sts.length ≤ 1000 ∧ ∀ H', Same H H' → Q (.bl (closedB bs sts)) H'
section
variable {P : Program} {w : World} {K : PySem.W.Frag} {mg : Str → Option Value} {base : Heap}
abbrev nCl : List Str := ["cabinet", "standings", "standing", "told", "drawer"]
theorem scCl : FnScope nCl ["cabinet", "standings"] (defScope s_is_closed) := ⟨rfl, rfl, rfl, by decide +kernel, rfl, by decide +kernel, by decide +kernel⟩
theorem ok_isClosed {f f1 f2 C : Addr} {fd fd1 fd2 : FuncData} (F : Fun K "is_closed" "is_closed" s_is_closed f fd)
    (G1 : FnOk P w K mg base CX0 8 f1 fd1 ["cabinet", "standing"] (spFreeDrawers C)) (g1 : mg "free_drawers" = some (.ref f1)) (k1 : PySem.W.keepIn K (.ref f1) = true) (b1 : Binds K fd1 ["cabinet", "standing"] [])
    (G2 : FnOk P w K mg base CX0 1 f2 fd2 ["standing", "drawer"] spMoved) (g2 : mg "moved" = some (.ref f2)) (k2 : PySem.W.keepIn K (.ref f2) = true) (b2 : Binds K fd2 ["standing", "drawer"] []) :
    FnOk P w K mg base CX0 10 f fd ["cabinet", "standings"] (spIsClosed K C) := by
  refine F.ok scCl (fun vs H Q E h => ?_) (fun cdv A outer s H vs Q E hr h => ?_)
  · obtain ⟨c, t, bs, n, sts, rfl, _⟩ := h.h
    rfl
  · obtain ⟨c, t, bs, n, sts, rfl, B, S, hl, h1000, k⟩ := h.h
    have hu := hu_of hr
    obtain ⟨tc, hcab, n7⟩ := B.cab
    refine ⟨_, pss_cons (ps_setDc (j := 3) (own := [("standing", 2)]) (g := gName 2) (tt := tYes) (by rfl) scCl.nd rfl rfl (by rfl) (pi_tup (pv 1)) (blkOk_by (N := nCl) (sc := defScope s_is_closed) (by decide +kernel)) (fun _ _ _ _ _ => pg_name (i := 2) scCl.nd rfl (Or.inl rfl)) (fun _ _ _ _ _ => pts_nil) (fun _ _ _ _ _ => pv 2) (fun _ _ _ _ _ => pe_bl))
      (pss_cons (ps_for PassesOwn.never rfl (pi_keys (pe_frz (pv 3))) (pg_name (i := 2) scCl.nd rfl (Or.inl rfl))
        (pss_one (ps_for PassesOwn.never rfl (pi_list (pe_call G1 (hr.mono (by decide)) rfl g1 k1 b1 .nil pass0 (pa_cons (pv 0) (pa_cons (pv 2) pa_nil)))) (pg_name (i := 4) scCl.nd rfl (Or.inl rfl))
          (pss_one (ps_if (pt_cmp (pc_dnotin hu (pe_call G2 (hr.mono (by decide)) rfl g2 k2 b2 .nil pass0 (pa_cons (pv 2) (pa_cons (pv 4) pa_nil))) (pv 3))) (pss_one (ps_ret pe_bl)) pss_nil)))))
      (pss_one (ps_ret pe_bl))), ?_⟩
    refine ⟨_, rfl, t, rfl, ⟨_, S⟩, fun D hD => ?_⟩
    refine dc_it (walk_tup (K := K) (a := t) (xs := sts.map fun st => V.str (sstr st))) (fun i H' => Same H H' ∧ H' D = some (.dK (ktF (sts.take i)))) ⟨same_upd hD, upd_same⟩ (fun i H' _ q => SqT.same q.1 S) ?_ ?_
    · rintro i x H1 H2 hi ⟨s1, hD1⟩ ⟨rfl, ex⟩
      have ex : (sts.map fun st => V.str (sstr st))[i]? = some x := ex
      rw [List.getElem?_map] at ex
      cases ei : sts[i]? with
      | none => rw [ei] at ex; cases ex
      | some st =>
        rw [ei] at ex
        cases ex
        have hk := ktF_len (sts.take i)
        rw [List.length_take] at hk
        refine ⟨rfl, tYes_of (iteT ?_)⟩
        refine ⟨_, rfl, _, .inr (sstr st), rfl, hD1, small1000 (by omega), fun b o e => ?_, ?_⟩
        · rw [upd_ne (ne_of_none e hD)]
          exact s1 b o e
        · obtain ⟨hil, e⟩ := List.getElem?_eq_some_iff.mp ei
          rw [upd_same, List.take_succ_eq_append_getElem hil, e, ktF_snoc]
    · rintro H1 ⟨s1, hD1⟩
      rw [List.length_map, List.take_length] at hD1
      refine ⟨_, rfl, D, _, rfl, hD1, trivial, fun od => ?_⟩
      have s2 : Same H (upd H1 D (.frz od (.dK (ktF sts)))) := fun b o e => by
        rw [upd_ne (ne_of_none e hD)]
        exact s1 b o e
      have f2 : (upd H1 D (.frz od (.dK (ktF sts)))) D = some (.frz od (.dK (ktF sts))) := upd_same
      generalize (upd H1 D (.frz od (.dK (ktF sts)))) = H2 at s2 f2 ⊢
      have B2 := B.same s2
      refine ⟨D, od, rfl, .inl ⟨_, f2, ?_⟩⟩
      refine for_it (walk_keys (d := D) (o := od) (kvs := ktF sts)) (fun i σ H' => (∃ u2 u4 : Option V, σ = [some (.ref c), some (.ref t), u2, some (.ref D), u4]) ∧ Same H2 H' ∧ ∀ (j : Nat) (st : List Bool) (v : V), j < i → (ktF sts)[j]? = some ((.inr (sstr st) : Key), v) → st ∈ sts → ((freeL bs st).all fun d => decide (flip st d ∈ sts)) = true)
        ⟨⟨_, _, rfl⟩, Same.refl _, fun j st v hj => absurd hj (Nat.not_lt_zero _)⟩ (fun i σ H' _ q => q.2.1 _ _ f2) ?_ ?_
      · rintro i x σ H3 H4 hi ⟨⟨u2, u4, rfl⟩, s3, done⟩ ⟨rfl, key, v, ekv, rfl⟩
        obtain ⟨st, hm, ek⟩ := ktF_key sts _ (List.mem_of_getElem? ekv)
        have ek : key = .inr (sstr st) := ek
        subst ek
        have hst := hl st hm
        refine ⟨_, rfl, _, rfl, ⟨⟨c, bs, st, rfl, by rw [hst]; exact B2.same s3, fun q H5 hq s5 h5 => ?_⟩⟩⟩
        have s25 := s3.trans s5
        refine ⟨q, rfl, ⟨_, SqL.of h5⟩, ?_⟩
        refine for_list (K := K) (a := q) (xs := (freeL bs st).map V.int) (fun m σ H' => (∃ u4 : Option V, σ = [some (.ref c), some (.ref t), some (.str (sstr st)), some (.ref D), u4]) ∧ Same H5 H' ∧ (((freeL bs st).take m).all fun d => decide (flip st d ∈ sts)) = true)
          ⟨⟨_, rfl⟩, Same.refl _, rfl⟩ (fun m σ H' _ q => SqL.of (q.2.1 _ _ h5)) ?_ ?_
        · rintro m x σ H6 hx ⟨⟨u4, rfl⟩, s6, all6⟩
          rw [List.getElem?_map] at hx
          cases ed : (freeL bs st)[m]? with
          | none => rw [ed] at hx; cases hx
          | some d =>
            rw [ed] at hx
            cases hx
            have hdm := List.mem_of_getElem? ed
            obtain ⟨⟨d0, d1⟩, _⟩ := free_mem.mp hdm
            refine ⟨_, rfl, _, rfl, ⟨⟨st, d, rfl, by omega, d0, d1, fun H7 s7 => ?_⟩⟩⟩
            have s27 := (s25.trans s6).trans s7
            refine ⟨_, rfl, D, _, rfl, dget_frz (.inr (sstr (flip st d))) (s27 _ _ f2), _, rfl, ?_⟩
            rw [ktF_val]
            obtain ⟨hml, em⟩ := List.getElem?_eq_some_iff.mp ed
            by_cases hin : flip st d ∈ sts
            · rw [if_pos hin]
              refine iteF ⟨⟨_, rfl⟩, s6.trans s7, ?_⟩
              rw [List.take_succ_eq_append_getElem hml, List.all_append, all6, em]
              simp [hin]
            · rw [if_neg hin]
              refine iteT ?_
              have e : closedB bs sts = false := by
                unfold closedB
                rw [List.all_eq_false]
                refine ⟨st, hm, ?_⟩
                rw [Bool.not_eq_true, List.all_eq_false]
                exact ⟨d, hdm, by simpa using hin⟩
              have := k H7 (s2.trans s27)
              rw [e] at this
              exact this
        · rintro σ H6 ⟨⟨u4, rfl⟩, s6, all6⟩
          rw [List.length_map, List.take_length] at all6
          refine ⟨⟨_, _, rfl⟩, s25.trans s6, fun j st' v' hj ej hm' => ?_⟩
          rcases Nat.lt_succ_iff_lt_or_eq.mp hj with h | rfl
          · exact done j st' v' h ej hm'
          · rw [ekv] at ej
            injection ej with ej
            injection ej with e1 _
            injection e1 with e1
            rw [← sstr_inj e1]
            exact all6
      · rintro σ H3 ⟨⟨u2, u4, rfl⟩, s3, done⟩
        have e : closedB bs sts = true := by
          unfold closedB
          rw [List.all_eq_true]
          intro st hm
          obtain ⟨i, v, hi⟩ := ktF_at hm
          exact done i st v (List.getElem?_eq_some_iff.mp hi).1 hi hm
        have := k H3 (s2.trans s3)
        rw [e] at this
        exact this
end
end DL

set_option Elab.async false
set_option maxRecDepth 100000
set_option maxHeartbeats 1000000
namespace DL
open PySem L2 HT TL RZ
/-! ### tables -/
def tabB (n : Nat) (bs : List Bar) (ns : List Int) (sts : List (List Bool)) : Bool := decide (shutS n ∈ sts) && (!(sts.any fun st => ns.all fun d => sat st d) && closedB bs sts)
structure spPaper (K : PySem.W.Frag) (C : Addr) (vs : List V) (H : Hp) (Q : VK) (_ : XK) : Prop where
  h : ∃ (c a : Addr) (bs : List Bar) (n : Nat) (ns : List Int), vs = [.ref c, .ref a] ∧ CabOk C H c n bs ∧ SetAt K H n a ns ∧
    ∀ (es : List Ent) (H' : Hp), Same H H' → BI bs (shutS n) es.length es →
      ((es.any fun e => ns.all fun d => sat e.1 d) = true → Q .non H') ∧
      ((es.any fun e => ns.all fun d => sat e.1 d) = false → ∀ (q : Addr) (sts : List (List Bool)), sts.Perm (es.map (·.1)) → H' q = some (.tup (sts.map fun st => V.str (sstr st))) → Q (.ref q) H')
structure spRightP (K : PySem.W.Frag) (C : Addr) (vs : List V) (H : Hp) (Q : VK) (_ : XK) : Prop where
  h : ∃ (c a : Addr) (v : V) (bs : List Bar) (n : Nat) (ns : List Int), vs = [.ref c, .ref a, v] ∧ CabOk C H c n bs ∧ SetAt K H n a ns ∧
    ((∃ t, (∀ H', Same H H' → TyX K H' v t) ∧ PySem.W.kitOne K t (.type "tuple") = some false ∧ ∀ H', Same H H' → Q (.bl false) H') ∨
     (∃ (q : Addr) (xs : List V) (gb : V → Bool), v = .ref q ∧ SqT K H q xs ∧ xs.length ≤ 1000 ∧ (∀ x ∈ xs, (gb x = false ∧ BadSgn K "os" H n x) ∨ (gb x = true ∧ GoodSgn "os" n x)) ∧ xs.all gb = false ∧ ∀ H', Same H H' → Q (.bl false) H') ∨
     (∃ (q : Addr) (sts : List (List Bool)), v = .ref q ∧ SqT K H q (sts.map fun st => V.str (sstr st)) ∧ (∀ st ∈ sts, st.length = n) ∧ sts.length ≤ 1000 ∧ ∀ H', Same H H' → Q (.bl (tabB n bs ns sts)) H'))
theorem good_st {n : Int} {st : List Bool} (hl : (st.length : Int) = n) (h7 : n ≤ 7) : GoodSgn "os" n (.str (sstr st)) := by
  refine ⟨_, rfl, by rw [sstr_len]; omega, ?_⟩
  rw [sgn_str, sstr_len, decide_eq_true hl, Bool.true_and]
  exact List.all_eq_true.mpr fun c hc => decide_eq_true (sstr_codes c hc)
theorem strs_map (sts : List (List Bool)) : (sts.map fun st => V.str (sstr st)) = (sts.map sstr).map V.str := by rw [List.map_map]; rfl
theorem mem_strs {sts : List (List Bool)} {st : List Bool} : sstr st ∈ sts.map sstr ↔ st ∈ sts :=
  ⟨fun h => by
    obtain ⟨x, hx, e⟩ := List.mem_map.mp h
    rw [← sstr_inj e]
    exact hx, fun h => List.mem_map_of_mem h⟩
section
variable {P : Program} {w : World} {K : PySem.W.Frag} {mg : Str → Option Value} {base : Heap}
theorem scPap : FnScope ["cabinet", "some", "standings"] ["cabinet", "some"] (defScope s_paper) := ⟨rfl, rfl, rfl, by decide +kernel, rfl, by decide +kernel, by decide +kernel⟩
theorem ok_paper {f f1 f2 f3 f4 f5 C : Addr} {fd fd1 fd2 fd3 fd4 fd5 : FuncData} (F : Fun K "paper" "paper" s_paper f fd) (T : Bt mg)
    (G1 : FnOk P w K mg base CX0 1 f1 fd1 ["cabinet"] (spCkCab C)) (g1 : mg "check_cabinet" = some (.ref f1)) (k1 : PySem.W.keepIn K (.ref f1) = true) (b1 : Binds K fd1 ["cabinet"] [])
    (G2 : FnOk P w K mg base CX0 6 f2 fd2 ["cabinet", "some"] (spCkSet K C)) (g2 : mg "check_set" = some (.ref f2)) (k2 : PySem.W.keepIn K (.ref f2) = true) (b2 : Binds K fd2 ["cabinet", "some"] [])
    (G3 : FnOk P w K mg base CX0 14 f3 fd3 ["cabinet"] (spReachedA C)) (g3 : mg "reached" = some (.ref f3)) (k3 : PySem.W.keepIn K (.ref f3) = true) (b3 : Binds K fd3 ["cabinet"] [])
    (G4 : FnOk P w K mg base CX0 4 f4 fd4 ["standings", "pattern"] (spAnyFits K)) (g4 : mg "any_fits" = some (.ref f4)) (k4 : PySem.W.keepIn K (.ref f4) = true) (b4 : Binds K fd4 ["standings", "pattern"] [])
    (G5 : FnOk P w K mg base CX0 4 f5 fd5 ["cabinet", "some"] (spOpenPat K C)) (g5 : mg "open_pattern" = some (.ref f5)) (k5 : PySem.W.keepIn K (.ref f5) = true) (b5 : Binds K fd5 ["cabinet", "some"] []) :
    FnOk P w K mg base CX0 16 f fd ["cabinet", "some"] (spPaper K C) := by
  refine F.ok scPap (fun vs H Q E h => ?_) (fun cdv A outer s H vs Q E hr h => ?_)
  · obtain ⟨c, a, bs, n, ns, rfl, _⟩ := h.h
    rfl
  · obtain ⟨c, a, bs, n, ns, rfl, B, S, k⟩ := h.h
    obtain ⟨t, hc, n7⟩ := B.cab
    have n7' : n ≤ 7 := by omega
    refine ⟨_, pss_cons (ps_expr (pe_call G1 (hr.mono (by decide)) rfl g1 k1 b1 .nil pass0 (pa_cons (pv 0) pa_nil))) (pss_cons (ps_expr (pe_call G2 (hr.mono (by decide)) rfl g2 k2 b2 .nil pass0 (pa_cons (pv 0) (pa_cons (pv 1) pa_nil))))
      (pss_cons (ps_set (i := 2) scPap.nd rfl (Or.inl rfl) (pe_call G3 (hr.mono (by decide)) rfl g3 k3 b3 .nil pass0 (pa_cons (pv 0) pa_nil)))
      (pss_cons (ps_if (pt_val (pe_call G4 (hr.mono (by decide)) rfl g4 k4 b4 .nil pass0 (pa_cons (pv 2) (pa_cons (pe_call G5 (hr.mono (by decide)) rfl g5 k5 b5 .nil pass0 (pa_cons (pv 0) (pa_cons (pv 1) pa_nil))) pa_nil)))) (pss_one (ps_ret pe_non)) pss_nil)
      (pss_one (ps_ret (pe_callTy call_tuple_of (by rfl) T.tuple (by decide +kernel) (pa_cons (pv 2) pa_nil))))))), ?_⟩
    refine ⟨_, rfl, ⟨⟨c, _, t, rfl, hc, ?_⟩⟩⟩
    refine ⟨_, rfl, _, rfl, ⟨⟨c, a, n, t, ns, rfl, hc, n7', S, fun H1 s1 => ?_⟩⟩⟩
    refine ⟨_, rfl, ⟨⟨c, bs, n, rfl, B.same s1, fun p es ys H2 s2 I hp hs np h2 => ?_⟩⟩⟩
    have s12 := s1.trans s2
    obtain ⟨sts, rfl, hperm⟩ := any_perm hp
    have hshut : (shutS n).length = n := List.length_replicate
    have hlen : ∀ st ∈ sts, st.length = n := fun st hm => by
      obtain ⟨e, he, rfl⟩ := List.mem_map.mp (hperm.mem_iff.mp hm)
      rw [(I.led e he).2.2, hshut]
    have hfew : sts.length ≤ 128 := by
      have := led_few I.nd I.led (by rw [hshut]; exact n7')
      rw [hperm.length_eq, List.length_map]
      exact this
    rw [← strs_map] at h2
    obtain ⟨t2, hc2, _⟩ := (B.same s12).cab
    refine ⟨_, rfl, _, rfl, _, rfl, ⟨⟨c, a, n, t2, ns, rfl, hc2, n7', SqT.same s12 S.at', fun H3 s3 => ?_⟩⟩⟩
    have s13 := s12.trans s3
    refine ⟨⟨p, sts, _, rfl, .inl (SqL.of (s3 _ _ h2)), fun st hm => by rw [opat_len]; exact hlen st hm, by rw [opat_len]; exact n7', by omega, fun H4 s4 => ?_⟩⟩
    have s14 := s13.trans s4
    have ea : (sts.any fun st => fitB st (opat n ns)) = es.any fun e => ns.all fun d => sat e.1 d := by
      rw [Bool.eq_iff_iff, List.any_eq_true, List.any_eq_true]
      constructor
      · rintro ⟨st, hm, hf⟩
        rw [fit_opat (hlen st hm) S.low] at hf
        obtain ⟨e, he, rfl⟩ := List.mem_map.mp (hperm.mem_iff.mp hm)
        exact ⟨e, he, hf⟩
      · rintro ⟨e, he, hf⟩
        have hm := hperm.mem_iff.mpr (List.mem_map_of_mem (f := (·.1)) he)
        exact ⟨e.1, hm, by rw [fit_opat (hlen _ hm) S.low]; exact hf⟩
    rw [ea]
    refine ⟨_, rfl, ?_⟩
    cases eb : es.any fun e => ns.all fun d => sat e.1 d with
    | true => exact iteT ((k es H4 s14 I).1 eb)
    | false =>
      refine iteF ?_
      refine ⟨_, rfl, p, _, rfl, .inl ⟨SqL.of (s4 _ _ (s3 _ _ h2)), fun q nq => ?_⟩⟩
      exact (k es _ (s14.trans (same_upd nq)) I).2 eb q sts hperm upd_same
abbrev nRPa : List Str := ["cabinet", "some", "value", "standing"]
theorem scRPa : FnScope nRPa ["cabinet", "some", "value"] (defScope s_right_paper) := ⟨rfl, rfl, rfl, by decide +kernel, rfl, by decide +kernel, by decide +kernel⟩
theorem ok_rightPaper {f f1 f2 f3 f4 f5 f6 f7 C : Addr} {fd fd1 fd2 fd3 fd4 fd5 fd6 fd7 : FuncData} (F : Fun K "right_paper" "right_paper" s_right_paper f fd) (T : Bt mg) (zA : mg "all" = none) (CP : CabP P w K mg base C)
    (G1 : FnOk P w K mg base CX0 1 f1 fd1 ["cabinet"] (spCkCab C)) (g1 : mg "check_cabinet" = some (.ref f1)) (k1 : PySem.W.keepIn K (.ref f1) = true) (b1 : Binds K fd1 ["cabinet"] [])
    (G2 : FnOk P w K mg base CX0 6 f2 fd2 ["cabinet", "some"] (spCkSet K C)) (g2 : mg "check_set" = some (.ref f2)) (k2 : PySem.W.keepIn K (.ref f2) = true) (b2 : Binds K fd2 ["cabinet", "some"] [])
    (G3 : FnOk P w K mg base CX0 2 f3 fd3 ["drawers", "value"] (spSgn2 K "os")) (g3 : mg "is_standing" = some (.ref f3)) (k3 : PySem.W.keepIn K (.ref f3) = true) (b3 : Binds K fd3 ["drawers", "value"] [])
    (G4 : FnOk P w K mg base CX0 4 f4 fd4 ["standings", "pattern"] (spAnyFits K)) (g4 : mg "any_fits" = some (.ref f4)) (k4 : PySem.W.keepIn K (.ref f4) = true) (b4 : Binds K fd4 ["standings", "pattern"] [])
    (G5 : FnOk P w K mg base CX0 4 f5 fd5 ["cabinet", "some"] (spOpenPat K C)) (g5 : mg "open_pattern" = some (.ref f5)) (k5 : PySem.W.keepIn K (.ref f5) = true) (b5 : Binds K fd5 ["cabinet", "some"] [])
    (G6 : FnOk P w K mg base CX0 1 f6 fd6 ["drawers"] spFirst) (g6 : mg "first_standing" = some (.ref f6)) (k6 : PySem.W.keepIn K (.ref f6) = true) (b6 : Binds K fd6 ["drawers"] [])
    (G7 : FnOk P w K mg base CX0 10 f7 fd7 ["cabinet", "standings"] (spIsClosed K C)) (g7 : mg "is_closed" = some (.ref f7)) (k7 : PySem.W.keepIn K (.ref f7) = true) (b7 : Binds K fd7 ["cabinet", "standings"] []) :
    FnOk P w K mg base CX0 14 f fd ["cabinet", "some", "value"] (spRightP K C) := by
  refine F.ok scRPa (fun vs H Q E h => ?_) (fun cdv A outer s H vs Q E hr h => ?_)
  · obtain ⟨c, a, v, bs, n, ns, rfl, _⟩ := h.h
    rfl
  · obtain ⟨c, a, v, bs, n, ns, rfl, B, S, hv⟩ := h.h
    obtain ⟨t, ⟨dx, hc⟩, n7⟩ := B.cab
    have n7' : n ≤ 7 := by omega
    have n1 : 1 ≤ n := by
      obtain ⟨_, _, _, _, _, _, q, _⟩ := B.h
      omega
    obtain ⟨pD, gD, fdD, hpD, GD, bD⟩ := CP.d
    refine ⟨_, pss_cons (ps_expr (pe_call G1 (hr.mono (by decide)) rfl g1 k1 b1 .nil pass0 (pa_cons (pv 0) pa_nil))) (pss_cons (ps_expr (pe_call G2 (hr.mono (by decide)) rfl g2 k2 b2 .nil pass0 (pa_cons (pv 0) (pa_cons (pv 1) pa_nil))))
      (pss_cons (ps_if (pt_not (pt_val (pe_callB call_isi (by rfl) T.isinstance (by decide +kernel) (pa_cons (pv 2) (pa_cons (pe_bltn (v := .ty "tuple") (by rfl) T.tuple (by decide +kernel) rfl) pa_nil))))) (pss_one (ps_ret pe_bl)) pss_nil)
      (pss_cons (ps_if (pt_not (pt_val (pe_callB (cr_all rfl) (by rfl) zA boot_all_ (pa_cons
          (pe_lc (own := [("standing", 3)]) (g := gName 3) (tt := tYes) (by rfl) scRPa.nd (pi_tup (pv 2)) (blkOk_by (N := nRPa) (sc := defScope s_right_paper) (by decide +kernel)) (fun _ _ _ _ _ => pg_name (i := 3) scRPa.nd rfl (Or.inl rfl)) (fun _ _ _ _ _ => pts_nil)
            (fun _ _ _ _ _ => pe_call G3 (hr.mono (by decide)) rfl g3 k3 b3 .nil pass0 (pa_cons (pe_prop (pv 0) CP.cl hpD GD (hr.mono (by decide)) bD .nil pass0 rfl) (pa_cons (pv 3) pa_nil)))) pa_nil)))) (pss_one (ps_ret pe_bl)) pss_nil)
      (pss_cons (ps_if (PW.pt (pw_or (pt_cmpR op_notIn_seq (pe_call G6 (hr.mono (by decide)) rfl g6 k6 b6 .nil pass0 (pa_cons (pe_prop (pv 0) CP.cl hpD GD (hr.mono (by decide)) bD .nil pass0 rfl) pa_nil)) (pv 2) (by rfl))
          (pw_or1 (pt_val (pe_call G4 (hr.mono (by decide)) rfl g4 k4 b4 .nil pass0 (pa_cons (pv 2) (pa_cons (pe_call G5 (hr.mono (by decide)) rfl g5 k5 b5 .nil pass0 (pa_cons (pv 0) (pa_cons (pv 1) pa_nil))) pa_nil))))))) (pss_one (ps_ret pe_bl)) pss_nil)
      (pss_one (ps_ret (pe_call G7 (hr.mono (by decide)) rfl g7 k7 b7 .nil pass0 (pa_cons (pv 0) (pa_cons (pv 2) pa_nil))))))))), ?_⟩
    refine ⟨_, rfl, ⟨⟨c, _, t, rfl, ⟨dx, hc⟩, ?_⟩⟩⟩
    refine ⟨_, rfl, _, rfl, ⟨⟨c, a, n, t, ns, rfl, ⟨dx, hc⟩, n7', S, fun H1 s1 => ?_⟩⟩⟩
    have hc1 := s1 _ _ hc
    rcases hv with ⟨ty, ht, hk, k⟩ | ⟨q, xs, gb, rfl, Sq, h1000, hg, hall, k⟩ | ⟨q, sts, rfl, Sq, hl, h1000, k⟩
    · exact ⟨_, rfl, _, _, ty, _, false, rfl, .ty "tuple", ht H1 s1, hk, _, rfl, iteT (k H1 s1)⟩
    · have Sq1 := SqT.same s1 Sq
      refine ⟨_, rfl, _, _, _, _, true, rfl, .ty "tuple", tyT Sq1, kit_ty (by decide +kernel), _, rfl, iteF ?_⟩
      refine ⟨_, rfl, q, rfl, ⟨_, Sq1⟩, fun D hD => ?_⟩
      refine lc_pick (walk_tup (K := K) (a := q) (xs := xs)) xs rfl (by omega) (fun _ => true) (fun x => V.bl (gb x)) hD (fun H' s => SqT.same s Sq1) ?_ ?_
      · rintro i x z H2 H2' Tk Nk ez s2 ⟨rfl, ex⟩ kT kF
        have ex : xs[i]? = some x := ex
        rw [ez] at ex
        cases ex
        refine ⟨rfl, tYes_of (iteT ?_)⟩
        have hc2 := s2 _ _ hc1
        refine ⟨_, rfl, c, dx, _, rfl, hc2, ⟨⟨c, dx, _, t, rfl, hc2, _, rfl, ⟨⟨n, _, rfl, ?_⟩⟩⟩⟩⟩
        rcases hg _ (List.mem_of_getElem? ez) with ⟨e, h⟩ | ⟨e, h⟩
        · exact .inl ⟨h.same (s1.trans s2), fun H3 s3 => by rw [← e]; exact kT H3 rfl s3⟩
        · exact .inr ⟨h, fun H3 s3 => by rw [← e]; exact kT H3 rfl s3⟩
      · intro H2 s2 hD2
        rw [List.filter_eq_self.mpr fun _ _ => rfl] at hD2
        refine ⟨D, xs.map gb, rfl, SqL.of (by rw [hD2, List.map_map]; rfl), _, rfl, ?_⟩
        rw [bl_all, hall]
        exact iteT (k H2 (s1.trans s2))
    · have Sq1 := SqT.same s1 Sq
      refine ⟨_, rfl, _, _, _, _, true, rfl, .ty "tuple", tyT Sq1, kit_ty (by decide +kernel), _, rfl, iteF ?_⟩
      refine ⟨_, rfl, q, rfl, ⟨_, Sq1⟩, fun D hD => ?_⟩
      refine lc_pick (walk_tup (K := K) (a := q) (xs := sts.map fun st => V.str (sstr st))) (sts.map fun st => V.str (sstr st)) rfl (by rw [List.length_map]; omega) (fun _ => true) (fun x => V.bl true) hD (fun H' s => SqT.same s Sq1) ?_ ?_
      · rintro i x z H2 H2' Tk Nk ez s2 ⟨rfl, ex⟩ kT kF
        have ex : (sts.map fun st => V.str (sstr st))[i]? = some x := ex
        rw [ez] at ex
        cases ex
        obtain ⟨st, hm, rfl⟩ := List.mem_map.mp (List.mem_of_getElem? ez)
        refine ⟨rfl, tYes_of (iteT ?_)⟩
        have hc2 := s2 _ _ hc1
        refine ⟨_, rfl, c, dx, _, rfl, hc2, ⟨⟨c, dx, _, t, rfl, hc2, _, rfl, ⟨⟨n, _, rfl, .inr ⟨good_st (by rw [hl st hm]) n7, fun H3 s3 => kT H3 rfl s3⟩⟩⟩⟩⟩⟩
      · intro H2 s2 hD2
        rw [List.filter_eq_self.mpr fun _ _ => rfl] at hD2
        have s12 := s1.trans s2
        refine ⟨D, (sts.map fun st => V.str (sstr st)).map fun _ => true, rfl, SqL.of (by rw [hD2]; simp only [List.map_map]; rfl), _, rfl, ?_⟩
        rw [bl_all, show ((sts.map fun st => V.str (sstr st)).all fun _ => true) = true by simp]
        refine iteF ?_
        have hc2 := s2 _ _ hc1
        have Sq2 := SqT.same s12 Sq
        refine ⟨_, rfl, c, dx, _, rfl, hc2, ⟨⟨c, dx, _, t, rfl, hc2, ⟨⟨n, rfl, n1, n7', ?_⟩⟩⟩⟩⟩
        have Sq2' := Sq2
        rw [strs_map] at Sq2'
        refine ⟨_, rfl, q, _, rfl, .inr Sq2', rfl, flat_strs _, _, rfl, ?_⟩
        rw [if_pos rfl, inV_strs, decide_eq_decide.mpr mem_strs]
        have kk := fun H' s' => k H' s'
        unfold tabB at kk
        by_cases hin : shutS n ∈ sts
        · rw [decide_eq_true hin] at kk ⊢
          refine iteF ?_
          refine ⟨_, rfl, _, rfl, _, rfl, ⟨⟨c, a, n, t, ns, rfl, ⟨dx, hc2⟩, n7', SqT.same s12 S.at', fun H3 s3 => ?_⟩⟩⟩
          have s13 := s12.trans s3
          refine ⟨⟨q, sts, _, rfl, .inr (SqT.same s13 Sq), fun st hm => by rw [opat_len]; exact hl st hm, by rw [opat_len]; exact n7', h1000, fun H4 s4 => ?_⟩⟩
          have s14 := s13.trans s4
          have ea : (sts.any fun st => fitB st (opat n ns)) = sts.any fun st => ns.all fun d => sat st d := by
            rw [Bool.eq_iff_iff, List.any_eq_true, List.any_eq_true]
            exact ⟨fun ⟨st, hm, hf⟩ => ⟨st, hm, by rw [fit_opat (hl st hm) S.low] at hf; exact hf⟩, fun ⟨st, hm, hf⟩ => ⟨st, hm, by rw [fit_opat (hl st hm) S.low]; exact hf⟩⟩
          rw [ea]
          refine ⟨_, rfl, ?_⟩
          cases eb : sts.any fun st => ns.all fun d => sat st d with
          | true =>
            rw [eb] at kk
            exact iteT (kk H4 s14)
          | false =>
            rw [eb] at kk
            refine iteF ?_
            exact ⟨_, rfl, _, rfl, ⟨⟨c, q, bs, n, sts, rfl, B.same s14, SqT.same s14 Sq, hl, h1000, fun H5 s5 => by have := kk H5 (s14.trans s5); simpa using this⟩⟩⟩
        · rw [decide_eq_false hin] at kk ⊢
          exact iteT (kk H2 s12)
end
end DL

set_option Elab.async false
set_option maxRecDepth 100000
set_option maxHeartbeats 1000000
namespace DL
open PySem L2 HT TL RZ
/-! ### the law's tables -/
theorem iSeq_at {K : PySem.W.Frag} {α : Type} {l : List α} {f : α → V} {q : Addr} {i : Nat} {σ : L2.St} {H : Hp} {R : It → Hp → Prop} (hi : σ[i]? = some (some (.ref q))) (S : SqA K H q (l.map f))
    (h : ∀ (J : It) (Gd : Hp → Prop) (Y : Nat → Hp → V → Hp → Prop), Walk J l.length Gd Y → (∀ H', Same H H' → Gd H') → (∀ i H1 x H', Y i H1 x H' → H' = H1 ∧ ∃ z, l[i]? = some z ∧ x = f z) → R J H) : iSeq K (tVar i) σ H R := by
  refine ⟨_, hi, q, rfl, ?_⟩
  rcases S with S | S
  · exact .inl ⟨⟨_, S⟩, h _ _ _ (walk_lst (K := K) (a := q) (l := l) (f := f)) (fun H' s => s.seq S) fun _ _ _ _ y => y⟩
  · exact .inr ⟨⟨_, S⟩, h _ _ _ (walk_bars (K := K) (a := q) (l := l) (f := f)) (fun H' s => SqT.same s S) fun _ _ _ _ y => y⟩
def iJ (J : It) : TI := fun _ H R => R J H
theorem for_seq {K : PySem.W.Frag} {α : Type} {l : List α} {f : α → V} {q : Addr} {i : Nat} {g : TG} {tb : TS} {D : Ends} {σ : L2.St} {H : Hp} (hi : σ[i]? = some (some (.ref q))) (S : SqA K H q (l.map f))
    (h : ∀ (J : It) (Gd : Hp → Prop) (Y : Nat → Hp → V → Hp → Prop), Walk J l.length Gd Y → (∀ H', Same H H' → Gd H') → (∀ i H1 x H', Y i H1 x H' → H' = H1 ∧ ∃ z, l[i]? = some z ∧ x = f z) → tFor (iJ J) g tb D σ H) : tFor (iSeq K (tVar i)) g tb D σ H :=
  iSeq_at hi S fun J Gd Y wk hG hY => h J Gd Y wk hG hY
theorem for_itJ {J : It} {n : Nat} {Gd : Hp → Prop} {Y : Nat → Hp → V → Hp → Prop} {g : TG} {tb : TS} {D : Ends} {σ : L2.St} {H : Hp} (wk : Walk J n Gd Y) (Pv : Nat → L2.St → Hp → Prop) (p0 : Pv 0 σ H) (pG : ∀ i σ' H', i ≤ n → Pv i σ' H' → Gd H')
    (ps : ∀ i x σ' H1 H2, i < n → Pv i σ' H1 → Y i H1 x H2 → g x σ' H2 fun σ3 H3 => tb { D with nx := Pv (i + 1), ct := Pv (i + 1), bk := D.nx } σ3 H3) (pd : ∀ σ' H', Pv n σ' H' → D.nx σ' H') : tFor (iJ J) g tb D σ H :=
  for_it wk Pv p0 pG ps pd
structure spIsTable (K : PySem.W.Frag) (vs : List V) (H : Hp) (Q : VK) (_ : XK) : Prop where
  h : ∃ (dd a q : Addr) (bs : List Bar) (n : Nat) (ns : List Int) (sts : List (List Bool)), vs = [.ref dd, .ref a, .ref q] ∧ DrOk H dd n bs ∧ SqT K H a (ns.map V.int) ∧ (∀ d ∈ ns, 0 ≤ d ∧ d < n) ∧ ns.length ≤ 1000 ∧ SqA K H q (sts.map fun st => V.str (sstr st)) ∧ (∀ st ∈ sts, st.length = n) ∧ sts.length ≤ 1000 ∧ ∀ H', Same H H' → Q (.bl (tabB n bs ns sts)) H'
def okSt (bs : List Bar) (ns : List Int) (sts : List (List Bool)) (st : List Bool) : Bool := !(ns.all fun d => sat st d) && (freeL bs st).all fun d => decide (flip st d ∈ sts)
theorem tab_eq (n : Nat) (bs : List Bar) (ns : List Int) (sts : List (List Bool)) : tabB n bs ns sts = (decide (shutS n ∈ sts) && sts.all (okSt bs ns sts)) := by
  unfold tabB closedB
  congr 1
  rw [Bool.eq_iff_iff, Bool.and_eq_true, Bool.not_eq_true', List.any_eq_false, List.all_eq_true, List.all_eq_true]
  constructor
  · rintro ⟨h1, h2⟩ st hm
    unfold okSt
    rw [Bool.and_eq_true, Bool.not_eq_true']
    exact ⟨by simpa using h1 st hm, h2 st hm⟩
  · intro h
    refine ⟨fun st hm => ?_, fun st hm => ?_⟩
    · have := h st hm
      unfold okSt at this
      rw [Bool.and_eq_true, Bool.not_eq_true'] at this
      rw [this.1]
      exact Bool.false_ne_true
    · have := h st hm
      unfold okSt at this
      rw [Bool.and_eq_true] at this
      exact this.2
section
variable {P : Program} {w : World} {K : PySem.W.Frag} {mg : Str → Option Value} {base : Heap}
abbrev nTab : List Str := ["_law_d", "_law_some", "_law_value", "_law_standing", "_law_sign", "_law_drawer"]
theorem scTab : FnScope nTab ["_law_d", "_law_some", "_law_value"] (defScope s__law_is_table) := ⟨rfl, rfl, rfl, by decide +kernel, rfl, by decide +kernel, by decide +kernel⟩
theorem ok_isTable {f f1 f2 : Addr} {fd fd1 fd2 : FuncData} (F : Fun K "_law_is_table" "_law_is_table" s__law_is_table f fd) (T : Bt mg) (zA : mg "all" = none)
    (G1 : FnOk P w K mg base CX0 2 f1 fd1 ["_law_d", "_law_standing"] spLawFree) (g1 : mg "_law_free" = some (.ref f1)) (k1 : PySem.W.keepIn K (.ref f1) = true) (b1 : Binds K fd1 ["_law_d", "_law_standing"] [])
    (G2 : FnOk P w K mg base CX0 1 f2 fd2 ["_law_standing", "_law_drawer"] spMoved) (g2 : mg "_law_moved" = some (.ref f2)) (k2 : PySem.W.keepIn K (.ref f2) = true) (b2 : Binds K fd2 ["_law_standing", "_law_drawer"] []) :
    FnOk P w K mg base CX0 4 f fd ["_law_d", "_law_some", "_law_value"] (spIsTable K) := by
  refine F.ok scTab (fun vs H Q E h => ?_) (fun cdv A outer s H vs Q E hr h => ?_)
  · obtain ⟨dd, a, q, bs, n, ns, sts, rfl, _⟩ := h.h
    rfl
  · obtain ⟨dd, a, q, bs, n, ns, sts, rfl, hd, Sa, hlow, hnl, Sq, hl, h1000, k⟩ := h.h
    obtain ⟨t, ks, zs, hdd, hB, ek, O, n1, n7, l100⟩ := id hd.h
    refine ⟨_, pss_cons (ps_if (pt_cmpR op_notIn_seq (pe_op op_mul_str pe_str (pe_ix ix_list (pv 0) pe_int (fun _ _ => rfl))) (pv 2) (by rfl)) (pss_one (ps_ret pe_bl)) pss_nil)
      (pss_cons (ps_for PassesOwn.never rfl (pi_seq (K := K) rfl (pv 2)) (pg_name (i := 3) scTab.nd rfl (Or.inr rfl))
        (pss_cons (ps_if (PW.pt (pw_or (pt_cmpR op_ne (pe_callB call_len_str (by rfl) T.len PySem.boot_len (pa_cons (pv 3) pa_nil)) (pe_ix ix_list (pv 0) pe_int (fun _ _ => rfl)) (nomark _))
          (pw_or1 (pt_not (pt_val (pe_callB (cr_all rfl) (by rfl) zA boot_all_ (pa_cons
            (pe_lc (own := [("_law_sign", 4)]) (g := gName 4) (tt := tYes) (by rfl) scTab.nd (pi_str (pv 3)) (blkOk_by (N := nTab) (sc := defScope s__law_is_table) (by decide +kernel)) (fun _ _ _ _ _ => pg_name (i := 4) scTab.nd rfl (Or.inl rfl)) (fun _ _ _ _ _ => pts_nil)
              (fun _ _ _ _ _ => pe_cmpR op_in_sign (pv 4) pe_str (by rfl))) pa_nil))))))) (pss_one (ps_ret pe_bl)) pss_nil)
        (pss_cons (ps_if (pt_val (pe_callB (cr_all rfl) (by rfl) zA boot_all_ (pa_cons
            (pe_lc (own := [("_law_drawer", 5)]) (g := gName 5) (tt := tYes) (by rfl) scTab.nd (pi_tup (pv 1)) (blkOk_by (N := nTab) (sc := defScope s__law_is_table) (by decide +kernel)) (fun _ _ _ _ _ => pg_name (i := 5) scTab.nd rfl (Or.inl rfl)) (fun _ _ _ _ _ => pts_nil)
              (fun _ _ _ _ _ => pe_cmpR op_eq (pe_ix ix_str (pv 3) (pv 5) (fun _ _ => rfl)) pe_str (nomark _))) pa_nil))) (pss_one (ps_ret pe_bl)) pss_nil)
        (pss_one (ps_if (pt_not (pt_val (pe_callB (cr_all rfl) (by rfl) zA boot_all_ (pa_cons
            (pe_lc (own := [("_law_drawer", 5)]) (g := gName 5) (tt := tYes) (by rfl) scTab.nd (pi_list (pe_call G1 (hr.mono (by decide)) rfl g1 k1 b1 .nil pass0 (pa_cons (pv 0) (pa_cons (pv 3) pa_nil)))) (blkOk_by (N := nTab) (sc := defScope s__law_is_table) (by decide +kernel)) (fun _ _ _ _ _ => pg_name (i := 5) scTab.nd rfl (Or.inl rfl)) (fun _ _ _ _ _ => pts_nil)
              (fun _ _ _ _ _ => pe_cmpR (op_in_seqK (K := K) rfl) (pe_call G2 (hr.mono (by decide)) rfl g2 k2 b2 .nil pass0 (pa_cons (pv 3) (pa_cons (pv 5) pa_nil))) (pv 2) (by rfl))) pa_nil)))) (pss_one (ps_ret pe_bl)) pss_nil)))))
      (pss_one (ps_ret pe_bl))), ?_⟩
    have S' : ∀ {H' : Hp}, Same H H' → (SqL K H' q ((sts.map sstr).map V.str) ∨ SqT K H' q ((sts.map sstr).map V.str)) := fun {H'} s => by
      have := SqA.same s Sq
      rw [strs_map] at this
      exact this
    refine ⟨_, rfl, dd, _, 0, .int n, rfl, rfl, SqL.of hdd, atI_nat (j := 0) rfl, "s", (n : Int), rfl, rfl, mulOk_one (by decide +kernel) (by omega) (by omega), ?_⟩
    rw [mul_shut (by omega) (by omega)]
    refine ⟨_, rfl, q, _, rfl, S' (Same.refl H), rfl, flat_strs _, _, rfl, ?_⟩
    rw [if_pos rfl, inV_strs, decide_eq_decide.mpr mem_strs]
    rw [tab_eq] at k
    by_cases hin : shutS n ∈ sts
    · rw [decide_eq_true hin] at k ⊢
      refine iteF ?_
      unfold tNext
      dsimp only
      unfold tSeq
      refine for_seq rfl Sq fun J Gd Y wk hG hY => ?_
      refine for_itJ wk (fun i σ H' => (∃ u3 : Option V, σ = [some (.ref dd), some (.ref a), some (.ref q), u3, none, none]) ∧ Same H H' ∧ (sts.take i).all (okSt bs ns sts) = true) ⟨⟨_, rfl⟩, Same.refl H, rfl⟩ (fun i σ H' _ p => hG H' p.2.1) ?_ ?_
      · rintro i x σ H1 H1' hi ⟨⟨u3, rfl⟩, s1, hall⟩ y
        obtain ⟨rfl, st, ez, rfl⟩ := hY _ _ _ _ y
        have hm := List.mem_of_getElem? ez
        have hst := hl st hm
        have hd1 := hd.same s1
        have bad : okSt bs ns sts st = false → ∀ H', Same H H' → Q (.bl false) H' := fun e H' s => by
          have := k H' s
          rw [show sts.all (okSt bs ns sts) = false from List.all_eq_false.mpr ⟨st, hm, by rw [e]; exact Bool.false_ne_true⟩] at this
          exact this
        have hdd1 := s1 _ _ hdd
        have hz : st.length ≤ 7 := by omega
        refine ⟨_, rfl, _, rfl, str_small hz, _, rfl, dd, _, 0, .int n, rfl, rfl, SqL.of hdd1, atI_nat (j := 0) rfl, rfl, _, rfl, ?_⟩
        rw [show decide (V.int ((sstr st).length : Int) = V.int (n : Int)) = true from decide_eq_true (by rw [sstr_len, hst])]
        refine iteF ?_
        refine ⟨_, rfl, _, rfl, fun D hD => ?_⟩
        have hcl : (sstr st).cps.toList.length = (sstr st).cps.size := Array.length_toList
        have hsz : (sstr st).cps.size ≤ 7 := by
          have : (sstr st).length = (sstr st).cps.size := rfl
          rw [sstr_len] at this
          omega
        refine lc_pick walk_str (sstr st).cps.toList hcl (by omega) (fun _ => true) (fun _ => V.bl true) hD (fun _ _ => trivial) ?_ ?_
        · rintro j x c H2 H2' Tk Nk ec s2 ⟨rfl, c', hc', rfl⟩ kT kF
          rw [Array.getElem?_toList, hc'] at ec
          cases ec
          have hcm : c ∈ ("os" : Str).cps.toList := sstr_codes c (List.mem_of_getElem? (by rw [Array.getElem?_toList]; exact hc'))
          refine ⟨rfl, tYes_of (iteT ?_)⟩
          refine ⟨_, rfl, c, "os", rfl, rfl, ?_⟩
          rw [decide_eq_true hcm]
          exact kT _ rfl (Same.refl _)
        · intro H2 s2 hD2
          rw [List.filter_eq_self.mpr fun _ _ => rfl] at hD2
          refine ⟨D, (sstr st).cps.toList.map fun _ => true, rfl, SqL.of (by rw [hD2, List.map_map]; rfl), _, rfl, ?_⟩
          rw [bl_all, show ((sstr st).cps.toList.all fun _ => true) = true by simp]
          refine iteF ?_
          have s12 := s1.trans s2
          have Sa2 := SqT.same s12 Sa
          -- open drawers
          refine ⟨_, rfl, a, rfl, ⟨_, Sa2⟩, fun D2 hDn2 => ?_⟩
          refine lc_pick (walk_bars (K := K) (a := a) (l := ns) (f := V.int)) ns rfl (by omega) (fun _ => true) (fun d => V.bl (sat st d)) hDn2 (fun H' s => SqT.same s Sa2) ?_ ?_
          · rintro j x d H3 H3' Tk Nk ed s3 ⟨rfl, d', ed', rfl⟩ kT kF
            rw [ed] at ed'
            cases ed'
            obtain ⟨d0, d1⟩ := hlow d (List.mem_of_getElem? ed)
            refine ⟨rfl, tYes_of (iteT ?_)⟩
            refine ⟨_, rfl, _, rfl, _, d, _, rfl, rfl, str_small hz, sstr_at d0 (by omega), rfl, ?_⟩
            rw [sgs_o]
            exact kT _ rfl (Same.refl _)
          · intro H3 s3 hD3
            rw [List.filter_eq_self.mpr fun _ _ => rfl] at hD3
            have s13 := s12.trans s3
            refine ⟨D2, ns.map fun d => sat st d, rfl, SqL.of (by rw [hD3, List.map_map]; rfl), _, rfl, ?_⟩
            rw [bl_all]
            cases eo : ns.all fun d => sat st d with
            | true => exact iteT (bad (by unfold okSt; rw [eo]; rfl) H3 s13)
            | false =>
              refine iteF ?_
              -- pulls that go
              have hd3 := hd.same s13
              rw [← hst] at hd3
              refine ⟨_, rfl, _, rfl, ⟨⟨dd, bs, st, rfl, hd3, fun fq H4 nfq s4 h4 => ?_⟩⟩⟩
              have s14 := s13.trans s4
              refine ⟨fq, rfl, ⟨_, SqL.of h4⟩, fun D3 hDn3 => ?_⟩
              have hfl : (freeL bs st).length ≤ 7 := by
                unfold freeL
                have := List.length_filter_le (fun d => goesB bs st d) (drs st.length)
                rw [drs_len] at this
                omega
              refine lc_pick (walk_lst (K := K) (a := fq) (l := freeL bs st) (f := V.int)) (freeL bs st) rfl (by omega) (fun _ => true) (fun d => V.bl (decide (flip st d ∈ sts))) hDn3 (fun H' s => SqL.of (s _ _ h4)) ?_ ?_
              · rintro j x d H5 H5' Tk Nk ed s5 ⟨rfl, d', ed', rfl⟩ kT kF
                rw [ed] at ed'
                cases ed'
                obtain ⟨⟨d0, d1⟩, _⟩ := free_mem.mp (List.mem_of_getElem? ed)
                refine ⟨rfl, tYes_of (iteT ?_)⟩
                refine ⟨_, rfl, _, rfl, ⟨⟨st, d, rfl, hz, d0, d1, fun H6 s6 => ?_⟩⟩⟩
                refine ⟨_, rfl, q, _, rfl, S' ((s14.trans s5).trans s6), rfl, flat_strs _, ?_⟩
                rw [if_neg Bool.false_ne_true, inV_strs, decide_eq_decide.mpr mem_strs]
                exact kT _ rfl s6
              · intro H5 s5 hD5
                rw [List.filter_eq_self.mpr fun _ _ => rfl] at hD5
                have s15 := s14.trans s5
                refine ⟨D3, (freeL bs st).map fun d => decide (flip st d ∈ sts), rfl, SqL.of (by rw [hD5, List.map_map]; rfl), _, rfl, ?_⟩
                rw [bl_all]
                cases ef : (freeL bs st).all fun d => decide (flip st d ∈ sts) with
                | false => exact iteT (bad (by unfold okSt; rw [eo, ef]; rfl) H5 s15)
                | true =>
                  refine iteF ⟨⟨_, rfl⟩, s15, ?_⟩
                  obtain ⟨hil, e⟩ := List.getElem?_eq_some_iff.mp ez
                  rw [List.take_succ_eq_append_getElem hil, List.all_append, hall, e]
                  simp only [List.all_cons, List.all_nil, Bool.and_true, Bool.true_and]
                  unfold okSt
                  rw [eo, ef]
                  rfl
      · rintro σ H' ⟨⟨u3, rfl⟩, s1, hall⟩
        rw [List.take_length] at hall
        have := k H' s1
        rw [hall] at this
        exact this
    · rw [decide_eq_false hin] at k ⊢
      exact iteT (k H (Same.refl H))
end
end DL

set_option Elab.async false
set_option maxRecDepth 100000
set_option maxHeartbeats 1000000
namespace DL
open PySem PySem.Spec PyProof.Rows L2 HT TL
/-! ### a tuple taken once -/
theorem mulOk_8 {z : Str} {n : Int} (hz : z.length = 1) (h0 : 0 ≤ n) (h8 : n ≤ 8) : MulOk z n := by
  by_cases e : n = 0
  · subst e
    exact ⟨by decide, fun h => absurd (by decide) h, fun h => absurd (by decide) h⟩
  refine ⟨?_, fun _ _ => ?_, fun _ _ => ?_⟩
  · rw [decide_eq_false (by omega), decide_eq_false (by omega)]; rfl
  · rw [hz]
    have : n = 1 ∨ n = 2 ∨ n = 3 ∨ n = 4 ∨ n = 5 ∨ n = 6 ∨ n = 7 ∨ n = 8 := by omega
    rcases this with rfl | rfl | rfl | rfl | rfl | rfl | rfl | rfl <;> decide
  · rw [hz]
    have : n = 1 ∨ n = 2 ∨ n = 3 ∨ n = 4 ∨ n = 5 ∨ n = 6 ∨ n = 7 ∨ n = 8 := by omega
    rcases this with rfl | rfl | rfl | rfl | rfl | rfl | rfl | rfl <;> decide +kernel
/-! ### odd standings and patterns -/
theorem odd_txt {n : Int} {z : Str} (h1 : 1 ≤ n) (h7 : n ≤ 7) (hz : z = "os" ∨ z = "os?") :
    ((Txt.mul "s" (n + 1)).length ≤ 1000 ∧ sgnB n z (.str (Txt.mul "s" (n + 1))) = false) ∧ ((Txt.mul "s" (n - 1)).length ≤ 1000 ∧ sgnB n z (.str (Txt.mul "s" (n - 1))) = false) ∧
    ((Txt.mul "S" n).length ≤ 1000 ∧ sgnB n z (.str (Txt.mul "S" n)) = false) ∧ ((Txt.mul "x" n).length ≤ 1000 ∧ sgnB n z (.str (Txt.mul "x" n)) = false) ∧ ((Txt.mul "?" n).length ≤ 1000 ∧ sgnB n "os" (.str (Txt.mul "?" n)) = false) := by
  have : n = 1 ∨ n = 2 ∨ n = 3 ∨ n = 4 ∨ n = 5 ∨ n = 6 ∨ n = 7 := by omega
  rcases hz with rfl | rfl <;> rcases this with rfl | rfl | rfl | rfl | rfl | rfl | rfl <;> exact ⟨⟨by decide +kernel, by decide +kernel⟩, ⟨by decide +kernel, by decide +kernel⟩, ⟨by decide +kernel, by decide +kernel⟩, ⟨by decide +kernel, by decide +kernel⟩, ⟨by decide +kernel, by decide +kernel⟩⟩
theorem sqT_but {K : PySem.W.Frag} {r : Addr} {H H' : Hp} {a : Addr} {xs ys : List V} (hr : H r = some (.lst ys)) (B : But r H H') (h : SqT K H a xs) : SqT K H' a xs := by
  rcases h with (h | ⟨o, h⟩) | h
  · exact .inl (.inl (B.tup hr h))
  · exact .inl (.inr ⟨o, B _ _ (ne_of h hr (by intro z; cases z)) h⟩)
  · exact .inr h
end DL

set_option Elab.async false
set_option maxRecDepth 100000
set_option maxHeartbeats 4000000
namespace DL
open PySem L2 HT TL RZ
def spLaw09 (K : PySem.W.Frag) : Sp := fun vs H Q _ => ∃ (a : Addr) (ns : List Int), vs = [.ref a] ∧ SqL K H a (ns.map V.int) ∧ ns.length ≤ 63 ∧ ∀ H', Q (.bl true) H'
/-- reached standings are a table where the set is never open -/
theorem tab_reached {n : Nat} {bs : List Bar} {ds : List Int} {es : List Ent} {sts : List (List Bool)} (I : BI bs (shutS n) es.length es) (hp : sts.Perm (es.map (·.1))) (ha : (es.any fun e => ds.all fun d => sat e.1 d) = false) : tabB n bs ds sts = true := by
  unfold tabB
  have h1 : shutS n ∈ sts := hp.mem_iff.mpr (List.mem_map_of_mem (f := (·.1)) I.root)
  have h2 : (sts.any fun st => ds.all fun d => sat st d) = false := by
    rw [List.any_eq_false]
    intro st hm
    obtain ⟨e, he, rfl⟩ := List.mem_map.mp (hp.mem_iff.mp hm)
    rw [List.any_eq_false] at ha
    exact ha e he
  have h3 : closedB bs sts = true := by
    unfold closedB
    rw [List.all_eq_true]
    intro st hm
    obtain ⟨e, he, rfl⟩ := List.mem_map.mp (hp.mem_iff.mp hm)
    rw [List.all_eq_true]
    intro d hd
    obtain ⟨j, hj⟩ := List.getElem?_of_mem he
    obtain ⟨e', he', h, _⟩ := I.ex j e (List.getElem?_eq_some_iff.mp hj).1 hj d hd
    rw [← h]
    exact decide_eq_true (hp.mem_iff.mpr (List.mem_map_of_mem (f := (·.1)) he'))
  rw [decide_eq_true h1, h2, h3]
  rfl
theorem find_non (ks : List KEnt) (f : Ent → Bool) : decide ((match ks.find? (fun k => f k.2) with | some k => V.ref k.1 | none => V.non) = V.non) = !((ks.map (·.2)).any f) := by
  induction ks with
  | nil => rfl
  | cons k ks ih =>
    rw [List.find?_cons, List.map_cons, List.any_cons]
    cases e : f k.2 with
    | true => rfl
    | false =>
      rw [Bool.false_or]
      exact ih
theorem cut_map {α : Type} (l : List α) (f : α → V) (lo hi : Option Int) : ∃ l' : List α, cutV (l.map f) lo hi = l'.map f ∧ (∀ x ∈ l', x ∈ l) ∧ l'.length ≤ l.length := by
  unfold cutV
  refine ⟨(l.drop (HT.sIx (l.map f).length 0 lo)).take (HT.sIx (l.map f).length (l.map f).length hi - HT.sIx (l.map f).length 0 lo), ?_, fun x hx => List.mem_of_mem_drop (List.mem_of_mem_take hx), ?_⟩
  · rw [List.map_take, List.map_drop]
  · rw [List.length_take, List.length_drop]
    omega
theorem cut_len (xs : List V) (k e : Nat) : (cutV xs none (some (k : Int))).length + (cutV xs (some ((k : Int) + (e : Nat))) none).length ≤ xs.length := by
  unfold cutV
  rw [show (k : Int) + (e : Nat) = ((k + e : Nat) : Int) by omega, HT.sIx_nat, HT.sIx_nat, HT.sIx_none, HT.sIx_none, List.length_take, List.length_take, List.length_drop, List.length_drop]
  omega
/-- what stays while a turn goes -/
structure E9 (K : PySem.W.Frag) (r a sm : Addr) (N : Nat) (bs : List Bar) (ds : List Int) (tv : V) (Hb H : Hp) : Prop where
  R : RowOk H r a
  B : But r Hb H
  sm' : SqT K H sm (ds.map V.int)
  told : tv = .non ∨ ∃ (q : Addr) (sts : List (List Bool)), tv = .ref q ∧ H q = some (.tup (sts.map fun st => V.str (sstr st))) ∧ (∀ st ∈ sts, st.length = N) ∧ sts.length ≤ 128 ∧ tabB N bs ds sts = true
theorem E9.same {K : PySem.W.Frag} {r a sm : Addr} {N : Nat} {bs : List Bar} {ds : List Int} {tv : V} {Hb H H' : Hp} (h : E9 K r a sm N bs ds tv Hb H) (s : Same H H') : E9 K r a sm N bs ds tv Hb H' := by
  refine ⟨h.R.same s, h.B.trans (sbut s), SqT.same s h.sm', ?_⟩
  rcases h.told with e | ⟨q, sts, e, h1, h2⟩
  · exact .inl e
  · exact .inr ⟨q, sts, e, s _ _ h1, h2⟩
theorem E9.but {K : PySem.W.Frag} {r a sm : Addr} {N : Nat} {bs : List Bar} {ds : List Int} {tv : V} {Hb H H' : Hp} (h : E9 K r a sm N bs ds tv Hb H) (R : RowOk H' r a) (B : But r H H') : E9 K r a sm N bs ds tv Hb H' := by
  obtain ⟨_, _, _, hR, _⟩ := id h.R.h
  refine ⟨R, h.B.trans B, sqT_but hR B h.sm', ?_⟩
  rcases h.told with e | ⟨q, sts, e, h1, h2⟩
  · exact .inl e
  · exact .inr ⟨q, sts, e, B.tup hR h1, h2⟩
/-- the law's list of standings at lv -/
structure Lv (r lv : Addr) (N m : Nat) (H : Hp) (sts : List (List Bool)) : Prop where
  at' : H lv = some (.lst (sts.map fun st => V.str (sstr st)))
  nr : lv ≠ r
  len : ∀ st ∈ sts, st.length = N
  few : sts.length ≤ m
theorem Lv.same {r lv : Addr} {N m : Nat} {H H' : Hp} {sts : List (List Bool)} (h : Lv r lv N m H sts) (s : Same H H') : Lv r lv N m H' sts := ⟨s _ _ h.at', h.nr, h.len, h.few⟩
theorem Lv.but {r lv : Addr} {N m : Nat} {H H' : Hp} {sts : List (List Bool)} (h : Lv r lv N m H sts) (B : But r H H') : Lv r lv N m H' sts := ⟨B _ _ h.nr h.at', h.nr, h.len, h.few⟩
section
variable {P : Program} {w : World} {K : PySem.W.Frag} {mg : Str → Option Value} {base : Heap}
abbrev nLaw : List Str := ["_law_script", "_law_row", "_law_d", "_law_cabinet", "_law_turn", "_law_some", "_law_told", "_law_again", "_law_value", "_law_k", "_law_at", "_law_kind", "_law_more", "_law_answer", "_law_odd", "_law_drawer"]
theorem scLaw : FnScope nLaw ["_law_script"] (defScope s_law) := ⟨rfl, rfl, rfl, by decide +kernel, rfl, by decide +kernel, by decide +kernel⟩
theorem ok_law {f fT fP fM fLr fLa fPt fO fPa fRp fTb C : Addr} {fd dT dP dM dLr dLa dPt dO dPa dRp dTb : FuncData} (F : Fun K "law" "law" s_law f fd) (T : Bt mg) (zL : mg "list" = none)
    (GT : FnOk P w K mg base CX0 1 fT dT ["_law_row", "_law_many"] (spTaken K)) (gT : mg "_law_taken" = some (.ref fT)) (kT : PySem.W.keepIn K (.ref fT) = true) (bT : Binds K dT ["_law_row", "_law_many"] [])
    (GP : FnOk P w K mg base CX0 2 fP dP ["_law_row", "_law_most"] (spParts K)) (gP : mg "_law_parts" = some (.ref fP)) (kP : PySem.W.keepIn K (.ref fP) = true) (bP : Binds K dP ["_law_row", "_law_most"] [])
    (GM : FnOk P w K mg base CX0 7 fM dM ["_law_d"] (spMade C)) (gM : mg "_law_made" = some (.ref fM)) (kM : PySem.W.keepIn K (.ref fM) = true) (bM : Binds K dM ["_law_d"] [])
    (GLr : FnOk P w K mg base CX0 3 fLr dLr ["_law_d", "_law_begin"] spLawRows) (gLr : mg "_law_rows" = some (.ref fLr)) (kLr : PySem.W.keepIn K (.ref fLr) = true) (bLr : Binds K dLr ["_law_d", "_law_begin"] [])
    (GLa : FnOk P w K mg base CX0 1 fLa dLa ["_law_many"] spLawAll) (gLa : mg "_law_all" = some (.ref fLa)) (kLa : PySem.W.keepIn K (.ref fLa) = true) (bLa : Binds K dLa ["_law_many"] [])
    (GPt : FnOk P w K mg base CX0 2 fPt dPt ["_law_row", "_law_many", "_law_signs"] (spPattern K)) (gPt : mg "_law_pattern" = some (.ref fPt)) (kPt : PySem.W.keepIn K (.ref fPt) = true) (bPt : Binds K dPt ["_law_row", "_law_many", "_law_signs"] [])
    (GO : FnOk P w K mg base CX0 14 fO dO ["cabinet", "some"] (spOpenT K C)) (gO : mg "open_together" = some (.ref fO)) (kO : PySem.W.keepIn K (.ref fO) = true) (bO : Binds K dO ["cabinet", "some"] [])
    (GPa : FnOk P w K mg base CX0 16 fPa dPa ["cabinet", "some"] (spPaper K C)) (gPa : mg "paper" = some (.ref fPa)) (kPa : PySem.W.keepIn K (.ref fPa) = true) (bPa : Binds K dPa ["cabinet", "some"] [])
    (GRp : FnOk P w K mg base CX0 14 fRp dRp ["cabinet", "some", "value"] (spRightP K C)) (gRp : mg "right_paper" = some (.ref fRp)) (kRp : PySem.W.keepIn K (.ref fRp) = true) (bRp : Binds K dRp ["cabinet", "some", "value"] [])
    (GTb : FnOk P w K mg base CX0 4 fTb dTb ["_law_d", "_law_some", "_law_value"] (spIsTable K)) (gTb : mg "_law_is_table" = some (.ref fTb)) (kTb : PySem.W.keepIn K (.ref fTb) = true) (bTb : Binds K dTb ["_law_d", "_law_some", "_law_value"] []) :
    FnOk P w K mg base CX0 20 f fd ["_law_script"] (spLaw09 K) := by
  refine F.ok scLaw (fun vs H Q E h => ?_) (fun cdv A outer s H vs Q E hr h => ?_)
  · obtain ⟨a, ns, rfl, _⟩ := h
    rfl
  · obtain ⟨a, ns, rfl, hS, hlen, k⟩ := h
    refine ⟨_, pss_cons (ps_set (i := 1) scLaw.nd rfl (Or.inr rfl) (pe_lst (pa_cons (pv 0) (pa_cons pe_int (pa_cons pe_int (pa_cons pe_int pa_nil))))))
      (pss_cons (ps_set (i := 2) scLaw.nd rfl (Or.inl rfl) (pe_call GP (hr.mono (by decide)) rfl gP kP bP .nil pass0 (pa_cons (pv 1) (pa_cons pe_int pa_nil))))
      (pss_cons (ps_set (i := 3) scLaw.nd rfl (Or.inl rfl) (pe_call GM (hr.mono (by decide)) rfl gM kM bM .nil pass0 (pa_cons (pv 2) pa_nil)))
      (pss_cons (ps_for PassesOwn.never rfl (pi_range1 rfl T.range (pa_cons pe_int pa_nil)) (pg_name (i := 4) scLaw.nd rfl (Or.inl rfl))
        (pss_cons (ps_set (i := 5) scLaw.nd rfl (Or.inl rfl) (pe_tupleOf (by rfl) T.tuple
          (pe_lc (own := [("_law_drawer", 15)]) (g := gName 15) (by rfl) scLaw.nd (pi_range1 (by rfl) T.range (pa_cons (pe_ix ix_list (pv 2) pe_int (fun _ _ => rfl)) pa_nil)) (blkOk_by (N := nLaw) (sc := defScope s_law) (by decide +kernel)) (fun _ _ _ _ _ => pg_name (i := 15) scLaw.nd rfl (Or.inl rfl))
            (fun _ _ _ _ _ => pts_one (pt_cmpR op_eq (pe_call GT (hr.mono (by decide)) rfl gT kT bT .nil pass0 (pa_cons (pv 1) (pa_cons pe_int pa_nil))) pe_int (nomark _))) (fun _ _ _ _ _ => pv 15))))
        (C8.pss_cut (ps_set (i := 6) scLaw.nd rfl (Or.inl rfl) (pe_call GPa (hr.mono (by decide)) rfl gPa kPa bPa .nil pass0 (pa_cons (pv 3) (pa_cons (pv 5) pa_nil))))
        (pss_cons (ps_if (pt_cmpR op_ne (pe_cmp (pc_isN (pv 6))) (pe_cmp (pc_notN (pe_call GO (hr.mono (by decide)) rfl gO kO bO .nil pass0 (pa_cons (pv 3) (pa_cons (pv 5) pa_nil))))) (nomark _)) (pss_one (ps_ret pe_bl)) pss_nil)
        (C8.pss_cut (ps_if (pt_cmp (pc_notN (pv 6)))
          (pss_one (ps_if (PW.pt (pw_or (pt_not (pt_val (pe_callB call_isi (by rfl) T.isinstance (by decide +kernel) (pa_cons (pv 6) (pa_cons (pe_bltn (v := .ty "tuple") (by rfl) T.tuple (by decide +kernel) rfl) pa_nil)))))
            (pw_or (pt_not (pt_val (pe_call GTb (hr.mono (by decide)) rfl gTb kTb bTb .nil pass0 (pa_cons (pv 2) (pa_cons (pv 5) (pa_cons (pv 6) pa_nil))))))
              (pw_or1 (pt_not (pt_val (pe_call GRp (hr.mono (by decide)) rfl gRp kRp bRp .nil pass0 (pa_cons (pv 3) (pa_cons (pv 5) (pa_cons (pv 6) pa_nil)))))))))) (pss_one (ps_ret pe_bl)) pss_nil)) pss_nil)
        (pss_one (ps_for PassesOwn.never rfl (pi_range1 (by rfl) T.range (pa_cons pe_int pa_nil)) (pg_name (i := 7) scLaw.nd rfl (Or.inl rfl))
          (C8.pss_cut (ps_set (i := 8) scLaw.nd rfl (Or.inl rfl) (pe_ifExp (pt_cmp (pc_notN (pv 6))) (pe_callTy call_list_of (by rfl) zL (by decide +kernel) (pa_cons (pv 6) pa_nil))
              (pe_callB (cr_sortDK rfl) (by rfl) T.sorted (by decide +kernel) (pa_cons (pe_call GLr (hr.mono (by decide)) rfl gLr kLr bLr .nil pass0 (pa_cons (pv 2) (pa_cons (pe_op op_mul_str pe_str (pe_ix ix_list (pv 2) pe_int (fun _ _ => rfl))) pa_nil))) pa_nil))))
          (pss_cons (ps_for PassesOwn.never rfl (pi_range1 (by rfl) T.range (pa_cons (pe_call GT (hr.mono (by decide)) rfl gT kT bT .nil pass0 (pa_cons (pv 1) (pa_cons pe_int pa_nil))) pa_nil)) (pg_name (i := 9) scLaw.nd rfl (Or.inl rfl))
            (pss_cons (ps_par (i := 10) (j := 11) (by rfl) scLaw.nd rfl rfl (by decide) rfl rfl (pa_cons (pe_call GT (hr.mono (by decide)) rfl gT kT bT .nil pass0 (pa_cons (pv 1) (pa_cons (pe_op op_add (pe_callB call_len_seq (by rfl) T.len (by decide +kernel) (pa_cons (pv 8) pa_nil)) pe_int) pa_nil)))
                (pa_cons (pe_call GT (hr.mono (by decide)) rfl gT kT bT .nil pass0 (pa_cons (pv 1) (pa_cons pe_int pa_nil))) pa_nil)) (by rfl))
            (C8.pss_cut (ps_set (i := 12) scLaw.nd rfl (Or.inl rfl) (pe_ifExp (pt_cmpR op_gt (pv 11) pe_int (nomark _)) (pe_lst (pa_cons (pe_call GPt (hr.mono (by decide)) rfl gPt kPt bPt .nil pass0 (pa_cons (pv 1) (pa_cons (pe_ix ix_list (pv 2) pe_int (fun _ _ => rfl)) (pa_cons pe_str pa_nil)))) pa_nil)) (pe_lst pa_nil)))
            (pss_one (ps_set (i := 8) scLaw.nd rfl (Or.inl rfl) (pe_op op_cat (pe_op op_cat (pe_slice sl_list (pv 8) po_none (po_some (pv 10))) (pv 12))
              (pe_slice sl_list (pv 8) (po_some (pe_op op_add (pv 10) (pe_callTy call_int1 (by rfl) T.int (by decide +kernel) (pa_cons (pe_cmpR op_lt (pv 11) pe_int (nomark _)) pa_nil)))) po_none)))))))
          (C8.pss_cut (ps_if (pt_cmpR op_eq (pe_call GT (hr.mono (by decide)) rfl gT kT bT .nil pass0 (pa_cons (pv 1) (pa_cons pe_int pa_nil))) pe_int (nomark _)) (pss_one (ps_set (i := 8) scLaw.nd rfl (Or.inl rfl) (pe_call GLa (hr.mono (by decide)) rfl gLa kLa bLa .nil pass0 (pa_cons (pe_ix ix_list (pv 2) pe_int (fun _ _ => rfl)) pa_nil)))) pss_nil)
          (pss_cons (ps_set (i := 13) scLaw.nd rfl (Or.inl rfl) (pe_call GRp (hr.mono (by decide)) rfl gRp kRp bRp .nil pass0 (pa_cons (pv 3) (pa_cons (pv 5) (pa_cons (pe_callTy call_tuple_of (by rfl) T.tuple (by decide +kernel) (pa_cons (pv 8) pa_nil)) pa_nil)))))
          (pss_one (ps_if (PW.pt (pw_or (pt_not (pt_val (pe_callB call_isi (by rfl) T.isinstance (by decide +kernel) (pa_cons (pv 13) (pa_cons (pe_bltn (v := .ty "bool") (by rfl) T.bool (by decide +kernel) rfl) pa_nil)))))
            (pw_or1 (pt_cmpR op_ne (pv 13) (pe_call GTb (hr.mono (by decide)) rfl gTb kTb bTb .nil pass0 (pa_cons (pv 2) (pa_cons (pv 5) (pa_cons (pv 8) pa_nil)))) (nomark _))))) (pss_one (ps_ret pe_bl)) pss_nil)))))))))))))
      (pss_cons (ps_set (i := 14) scLaw.nd rfl (Or.inl rfl) (pe_lst (pa_cons pe_non (pa_cons (pe_tup pa_nil) (pa_cons (pe_lst (pa_cons (pe_op op_mul_str pe_str (pe_ix ix_list (pv 2) pe_int (fun _ _ => rfl))) pa_nil)) (pa_cons (pe_op op_mul_str pe_str (pe_ix ix_list (pv 2) pe_int (fun _ _ => rfl))) (pa_cons (pe_tup (pa_cons pe_int pa_nil))
          (pa_cons (pe_tup (pa_cons (pe_op op_mul_str pe_str (pe_ix ix_list (pv 2) pe_int (fun _ _ => rfl))) (pa_cons pe_non pa_nil))) (pa_cons (pe_tup (pa_cons (pe_op op_mul_str pe_str (pe_ix ix_list (pv 2) pe_int (fun _ _ => rfl))) (pa_cons (pe_op op_mul_str pe_str (pe_ix ix_list (pv 2) pe_int (fun _ _ => rfl))) pa_nil)))
          (pa_cons pe_dnewT (pa_cons pe_int pa_nil)))))))))))
      (pss_cons (ps_expr (pe_bm PySem.F.plainAttrs_list PySem.F.slot_list_append PySem.F.type_list_append mt_append (pv 14) (pa_cons (pe_tup (pa_cons (pe_op op_mul_str pe_str (pe_ix ix_list (pv 2) pe_int (fun _ _ => rfl))) (pa_cons (pe_op op_mul_str pe_str (pe_op op_add (pe_ix ix_list (pv 2) pe_int (fun _ _ => rfl)) pe_int)) pa_nil))) pa_nil)))
      (pss_one (ps_ret (pe_and (pe_not (pe_call GRp (hr.mono (by decide)) rfl gRp kRp bRp .nil pass0 (pa_cons (pv 3) (pa_cons (pe_tup pa_nil) (pa_cons (pe_tup pa_nil) pa_nil)))))
        (pe_one (pe_not (pe_call GRp (hr.mono (by decide)) rfl gRp kRp bRp .nil pass0 (pa_cons (pv 3) (pa_cons (pe_tup (pa_cons pe_int pa_nil)) (pa_cons (pe_ix ix_list (pv 14) (pe_call GT (hr.mono (by decide)) rfl gT kT bT .nil pass0 (pa_cons (pv 1) (pa_cons (pe_callB call_len_seq (by rfl) T.len (by decide +kernel) (pa_cons (pv 14) pa_nil)) pa_nil))) (fun _ _ => rfl)) pa_nil)))))))))))))), ?_⟩
    refine ⟨_, rfl, (by show 4 ≤ sizeLine; decide), fun r hr0 => ?_⟩
    have R0 : RowOk (upd H r (.lst [.ref a, .int 0, .int 209, .int 0])) r a := ⟨⟨0, 209, 0, upd_same, by decide, by decide, by decide, by decide⟩⟩
    have S0 : SqL K (upd H r (.lst [.ref a, .int 0, .int 209, .int 0])) a (ns.map V.int) := (same_upd hr0).seq hS
    generalize (upd H r (.lst [.ref a, .int 0, .int 209, .int 0])) = H0 at R0 S0 ⊢
    refine ⟨_, rfl, ⟨⟨r, a, ns, 5, rfl, R0, S0, by decide, by decide, fun p t n ks0 H2 hp0 ht0 n1 n5 hp hB O h13 R2 B2 => ?_⟩⟩⟩
    obtain ⟨N, rfl⟩ : ∃ N : Nat, n = N := ⟨n.toNat, by omega⟩
    refine ⟨_, rfl, ⟨⟨p, t, N, ks0, [], rfl, hp, n1, by omega, hB, O, fun c H3 hc0 hcab s3 => ?_⟩⟩⟩
    have R3 := R2.same s3
    have S3 : SqL K H3 a (ns.map V.int) := (B2.trans (sbut s3)).seqR R0 S0
    have L3 : Lay C r p c H3 N (ks0.map (·.2)) := Lay.mk' R0 hp0 (s3 _ _ hp) hcab hB s3 O n1 (by omega) h13
    generalize (ks0.map (·.2)) = bs at L3
    clear hp hB O h13 hcab hc0 ht0 hp0 R2 B2
    have hshut : (shutS N).length = N := List.length_replicate
    have h7 : (shutS N).length ≤ 7 := by omega
    have SC : ∀ {H'}, But r H3 H' → SqL K H' a (ns.map V.int) := fun B => B.seqR R3 S3
    have LC : ∀ {H'}, But r H3 H' → Lay C r p c H' N bs := fun B => L3.but R3 B
    refine ⟨3, rfl, by decide, by decide, ?_⟩
    refine for_range (lo := 0) (n := 3) (fun i σ H' => ∃ v4 v5 v6 v7 v8 v9 v10 v11 v12 v13 v14 v15 : Option V, σ = [some (.ref a), some (.ref r), some (.ref p), some (.ref c), v4, v5, v6, v7, v8, v9, v10, v11, v12, v13, v14, v15] ∧ RowOk H' r a ∧ But r H3 H')
      ⟨_, _, _, _, _, _, _, _, _, _, _, _, rfl, R3, But.refl _ _⟩ ?_ ?_
    · rintro i σ J1 hi ⟨v4, v5, v6, v7, v8, v9, v10, v11, v12, v13, v14, v15, rfl, R1', B1'⟩
      have L1 := LC B1'
      obtain ⟨xs1, hx1, hx1'⟩ := L1.at0 K
      refine ⟨_, rfl, p, _, 0, .int N, rfl, rfl, hx1, hx1', _, rfl, by omega, by omega, fun D hD => ?_⟩
      rw [Int.toNat_natCast]
      have nDr : D ≠ r := by
        obtain ⟨_, _, _, q', _⟩ := id R1'.h
        exact (ne_of_none q' hD).symm
      refine lc_range (lo := 0) (n := N) (fun j H' => RowOk H' r a ∧ But r H3 H' ∧ ∃ ds : List Int, H' D = some (.lst (ds.map V.int)) ∧ (∀ d ∈ ds, 0 ≤ d ∧ d < j) ∧ ds.Pairwise (· < ·) ∧ ds.length ≤ j)
        ⟨R1'.same (same_upd hD), B1'.trans (sbut (same_upd hD)), [], upd_same, (fun d hd => by cases hd), List.Pairwise.nil, Nat.le_refl _⟩ ?_ ?_
      · rintro j J2 hj ⟨R2, B2, ds, hD2, hlow, hasc, hlen2⟩
        refine ⟨rfl, ?_⟩
        refine ⟨_, rfl, ⟨⟨r, a, ns, 2, rfl, R2, SC B2, by decide, by decide, fun v J3 w0 w1 R4 B4 => ?_⟩⟩⟩
        refine ⟨rfl, _, rfl, ?_⟩
        have hD3 := B4 _ _ nDr hD2
        have e0 : decide ((V.int v) = V.int 0) = decide (v = 0) := decide_eq_decide.mpr ⟨fun z => by injection z, fun z => by rw [z]⟩
        show if decide ((V.int v) = V.int 0) = true then _ else _
        rw [e0]
        cases e : decide (v = 0) with
        | false =>
          refine iteF ⟨R4, B2.trans B4, ds, hD3, fun d hd => ?_, hasc, by omega⟩
          have := hlow d hd
          omega
        | true =>
          refine iteT ⟨_, rfl, _, hD3, by rw [List.length_map]; exact small1000 (by omega), ?_, ?_, ds ++ [(j : Int)], ?_, fun d hd => ?_, ?_, by rw [List.length_append]; show ds.length + 1 ≤ _; omega⟩
          · obtain ⟨i', m', e', q1, q2⟩ := R4.h
            exact ⟨⟨i', m', e', by rw [upd_ne (Ne.symm nDr)]; exact q1, q2⟩⟩
          · intro b o hb hH
            by_cases z : b = D
            · subst z
              exfalso
              have := B1' b o hb hH
              rw [hD] at this
              cases this
            · rw [upd_ne z]
              exact B4 _ _ hb (B2 _ _ hb hH)
          · rw [upd_same, List.map_append, show (0 : Int) + (j : Nat) = (j : Int) by omega]
            rfl
          · rcases List.mem_append.mp hd with hd | hd
            · have := hlow d hd
              omega
            · rw [List.mem_singleton.mp hd]
              omega
          · rw [List.pairwise_append]
            refine ⟨hasc, List.pairwise_singleton _ _, fun x hx y hy => ?_⟩
            rw [List.mem_singleton.mp hy]
            exact (hlow x hx).2
      · rintro J2 ⟨R2, B2, ds, hD2, hlow, hasc, hlen2⟩
        refine .inl ⟨D, _, rfl, SqL.of hD2, fun sm hsm => ?_⟩
        obtain ⟨s4, f4⟩ := new_at (o := .tup (ds.map V.int)) hsm
        generalize upd J2 sm (.tup (ds.map V.int)) = J3 at s4 f4 ⊢
        have R4 := R2.same s4
        have B4 := B2.trans (sbut s4)
        have hdl : ds.length ≤ 1000 := by omega
        have SA : ∀ {H'}, SqT K H' sm (ds.map V.int) → SetAt K H' N sm ds := fun h => ⟨h, hlow, hasc⟩
        clear hD2 s4 hsm R2 B2 hx1 hx1' hD L1 R1' B1' nDr J1 J2
        -- the turn's rest from a told value on
        have hsame : ∀ {ks : List KEnt} {es : List Ent}, BI bs (shutS N) ks.length (ks.map (·.2)) → BI bs (shutS N) es.length es → ks.map (·.2) = es := fun {ks es} I1 I2 => by
          have I1' : BI bs (shutS N) (ks.map (·.2)).length (ks.map (·.2)) := by rw [List.length_map]; exact I1
          exact I1'.same I2 h7
        have hfew : ∀ {es : List Ent}, BI bs (shutS N) es.length es → es.length ≤ 128 := fun I => led_few I.nd I.led h7
        refine ⟨fun σ' H' => ∃ (tv : V) (es : List Ent) (v7 v8 v9 v10 v11 v12 v13 v14 v15 : Option V), σ' = [some (.ref a), some (.ref r), some (.ref p), some (.ref c), some (.int ((0 : Int) + (i : Nat))), some (.ref sm), some tv, v7, v8, v9, v10, v11, v12, v13, v14, v15] ∧ E9 K r a sm N bs ds tv H3 H' ∧ BI bs (shutS N) es.length es ∧ decide (tv = .non) = es.any fun e => ds.all fun d => sat e.1 d, ?_, ?_⟩
        · refine ⟨_, rfl, _, rfl, ⟨⟨c, sm, bs, N, ds, rfl, (LC B4).cab, SA (SqT.of' f4), fun es J4 s5 I => ⟨fun ea => ?_, fun ea q sts hperm hq => ?_⟩⟩⟩⟩
          · exact ⟨_, es, _, _, _, _, _, _, _, _, _, rfl, ⟨R4.same s5, B4.trans (sbut s5), SqT.same s5 (SqT.of' f4), .inl rfl⟩, I, by rw [ea]; rfl⟩
          · refine ⟨_, es, _, _, _, _, _, _, _, _, _, rfl, ⟨R4.same s5, B4.trans (sbut s5), SqT.same s5 (SqT.of' f4), .inr ⟨q, sts, rfl, hq, fun st hm => ?_, ?_, tab_reached I hperm ea⟩⟩, I, by rw [ea]; rfl⟩
            · obtain ⟨e, he, rfl⟩ := List.mem_map.mp (hperm.mem_iff.mp hm)
              rw [(I.led e he).2.2, hshut]
            · rw [hperm.length_eq, List.length_map]
              exact hfew I
        · rintro σ' J4 ⟨tv, es, v7, v8, v9, v10, v11, v12, v13, v14, v15, rfl, E4, I, et⟩
          clear f4 R4 B4 J3
          refine ⟨_, rfl, _, rfl, _, rfl, ⟨⟨c, sm, bs, N, ds, rfl, (LC E4.B).cab, SA E4.sm', fun ks J5 s6 eR IR => ?_⟩⟩⟩
          have E5 := E4.same s6
          have hn := find_non ks (fun e => ds.all fun d => sat e.1 d)
          rw [hsame IR I] at hn
          refine ⟨rfl, _, rfl, ?_⟩
          refine iteNS (congrArg V.bl (et.trans ?_)) ?_
          · exact ((congrArg Bool.not hn).trans (Bool.not_not _)).symm
          refine ⟨fun σ' H' => ∃ (v7 v8 v9 v10 v11 v12 v13 v14 v15 : Option V), σ' = [some (.ref a), some (.ref r), some (.ref p), some (.ref c), some (.int ((0 : Int) + (i : Nat))), some (.ref sm), some tv, v7, v8, v9, v10, v11, v12, v13, v14, v15] ∧ E9 K r a sm N bs ds tv H3 H', ?_, ?_⟩
          · rcases E5.told with rfl | ⟨q, sts, rfl, hq, hl, h128, htab⟩
            · exact ⟨_, rfl, _, rfl, iteF ⟨_, _, _, _, _, _, _, _, _, rfl, E5⟩⟩
            · refine ⟨_, rfl, _, rfl, iteT ?_⟩
              refine ⟨_, rfl, _, _, _, _, true, rfl, .ty "tuple", tyT (SqT.of' hq), kit_ty (by decide +kernel), _, rfl, iteF ?_⟩
              refine ⟨_, rfl, _, rfl, _, rfl, ⟨⟨p, sm, q, bs, N, ds, sts, rfl, (LC E5.B).dr, E5.sm', hlow, hdl, .inr (SqT.of' hq), hl, by omega, fun J6 s7 => ?_⟩⟩⟩
              rw [htab]
              refine ⟨_, rfl, iteF ?_⟩
              have E6 := E5.same s7
              refine ⟨_, rfl, _, rfl, _, rfl, ⟨⟨c, sm, _, bs, N, ds, rfl, (LC E6.B).cab, SA E6.sm', .inr (.inr ⟨q, sts, rfl, SqT.of' (s7 _ _ hq), hl, by omega, fun J7 s8 => ?_⟩)⟩⟩⟩
              rw [htab]
              refine ⟨_, rfl, iteF ?_⟩
              exact ⟨_, _, _, _, _, _, _, _, _, rfl, E6.same s8⟩
          · clear E5 hn IR eR s6 ks J5 et I es E4 J4 v7 v8 v9 v10 v11 v12 v13 v14 v15
            rintro σ' J4 ⟨v7, v8, v9, v10, v11, v12, v13, v14, v15, rfl, E4⟩
            refine ⟨6, rfl, by decide, by decide, ?_⟩
            refine for_range (lo := 0) (n := 6) (fun m σ H' => ∃ v7 v8 v9 v10 v11 v12 v13 v14 v15 : Option V, σ = [some (.ref a), some (.ref r), some (.ref p), some (.ref c), some (.int ((0 : Int) + (i : Nat))), some (.ref sm), some tv, v7, v8, v9, v10, v11, v12, v13, v14, v15] ∧ E9 K r a sm N bs ds tv H3 H')
              ⟨_, _, _, _, _, _, _, _, _, rfl, E4⟩ ?_ ?_
            · rintro m σ J5 hm ⟨v7, v8, v9, v10, v11, v12, v13, v14, v15, rfl, E5⟩
              refine ⟨fun σ' H' => ∃ (lv : Addr) (sts : List (List Bool)) (v9 v10 v11 v12 v13 v14 v15 : Option V), σ' = [some (.ref a), some (.ref r), some (.ref p), some (.ref c), some (.int ((0 : Int) + (i : Nat))), some (.ref sm), some tv, some (.int ((0 : Int) + (m : Nat))), some (.ref lv), v9, v10, v11, v12, v13, v14, v15] ∧ E9 K r a sm N bs ds tv H3 H' ∧ Lv r lv N 128 H' sts, ?_, ?_⟩
              · rcases E5.told with rfl | ⟨q, sts, rfl, hq, hl, h128, htab⟩
                · refine ⟨_, rfl, _, rfl, iteF ?_⟩
                  have L5 := LC E5.B
                  obtain ⟨xs5, hx5, hx5'⟩ := L5.at0 K
                  refine ⟨_, rfl, _, rfl, p, _, 0, .int N, rfl, rfl, hx5, hx5', "s", (N : Int), rfl, rfl, mulOk_one (by decide +kernel) (by omega) (by omega), ?_⟩
                  rw [mul_shut (by omega) (by omega)]
                  refine ⟨⟨p, bs, shutS N, rfl, by rw [hshut]; exact L5.dr, fun fa ks J6 hfa s6 hF hE I => ?_⟩⟩
                  have I' : BI bs (shutS N) (ks.map (·.2)).length (ks.map (·.2)) := by rw [List.length_map]; exact I
                  refine ⟨fa, kvsOf ks, ks.map fun k => sstr k.2.1, rfl, .inl hF, by unfold kvsOf; rw [List.map_map, List.map_map]; rfl, fun ys l hperm hsrt nl => ?_⟩
                  have hperm2 : ys.Perm ((ks.map (·.2)).map fun e => sstr e.1) := by rw [List.map_map]; exact hperm
                  obtain ⟨sts, rfl, hp2⟩ := any_perm hperm2
                  obtain ⟨s7, f7⟩ := new_at (o := .lst ((sts.map sstr).map V.str)) nl
                  generalize upd J6 l (.lst ((sts.map sstr).map V.str)) = J7 at s7 f7 ⊢
                  have E7 := (E5.same s6).same s7
                  obtain ⟨_, _, _, hR6, _⟩ := id (E5.same s6).R.h
                  refine ⟨l, sts, _, _, _, _, _, _, _, rfl, E7, ⟨by rw [strs_map]; exact f7, (ne_of_none hR6 nl).symm, fun st hm => ?_, ?_⟩⟩
                  · obtain ⟨e, he, rfl⟩ := List.mem_map.mp (hp2.mem_iff.mp hm)
                    rw [(I'.led e he).2.2, hshut]
                  · rw [hp2.length_eq, List.length_map]
                    exact hfew I'
                · refine ⟨_, rfl, _, rfl, iteT ?_⟩
                  refine ⟨_, rfl, q, _, rfl, .inr (SqT.of' hq), fun l nl => ?_⟩
                  obtain ⟨s7, f7⟩ := new_at (o := .lst (sts.map fun st => V.str (sstr st))) nl
                  generalize upd J5 l (.lst (sts.map fun st => V.str (sstr st))) = J7 at s7 f7 ⊢
                  obtain ⟨_, _, _, hR5, _⟩ := id E5.R.h
                  exact ⟨l, sts, _, _, _, _, _, _, _, rfl, E5.same s7, ⟨f7, (ne_of_none hR5 nl).symm, hl, h128⟩⟩
              · clear E5 J5 v7 v8 v9 v10 v11 v12 v13 v14 v15 E4 J4
                rintro σ' J5 ⟨lv, sts, v9, v10, v11, v12, v13, v14, v15, rfl, E5, V5⟩
                refine ⟨_, rfl, ⟨⟨r, a, ns, 3, rfl, E5.R, SC E5.B, by decide, by decide, fun kk J6 k0 k3 R6 B6 => ?_⟩⟩⟩
                have E6 := E5.but R6 B6
                have V6 := V5.but B6
                obtain ⟨kn, rfl⟩ : ∃ kn : Nat, kk = kn := ⟨kk.toNat, by omega⟩
                refine ⟨_, rfl, by omega, by omega, ?_⟩
                rw [Int.toNat_natCast]
                refine for_range (lo := 0) (n := kn) (fun x σ H' => ∃ (lv : Addr) (sts : List (List Bool)) (v9 v10 v11 v12 v13 v14 v15 : Option V), σ = [some (.ref a), some (.ref r), some (.ref p), some (.ref c), some (.int ((0 : Int) + (i : Nat))), some (.ref sm), some tv, some (.int ((0 : Int) + (m : Nat))), some (.ref lv), v9, v10, v11, v12, v13, v14, v15] ∧ E9 K r a sm N bs ds tv H3 H' ∧ Lv r lv N (128 + x) H' sts)
                  ⟨lv, sts, _, _, _, _, _, _, _, rfl, E6, V6⟩ ?_ ?_
                · clear E6 V6 E5 V5 R6 B6 J5 J6 lv sts v9 v10 v11 v12 v13 v14 v15
                  rintro x σ J5 hx ⟨lv, sts, v9, v10, v11, v12, v13, v14, v15, rfl, E5, V5⟩
                  have fw := V5.few
                  refine ⟨_, rfl, _, rfl, lv, _, rfl, .inl (SqL.of V5.at'), _, _, rfl, rfl, ⟨⟨r, a, ns, _, rfl, E5.R, SC E5.B, by omega, by rw [List.length_map]; omega, fun at' J6 a0 a1 R6 B6 => ?_⟩⟩⟩
                  have E6 := E5.but R6 B6
                  have V6 := V5.but B6
                  refine ⟨_, rfl, ⟨⟨r, a, ns, 3, rfl, E6.R, SC E6.B, by decide, by decide, fun kd J7 d0 d3 R7 B7 => ?_⟩⟩⟩
                  have E7 := E6.but R7 B7
                  have V7 := V6.but B7
                  refine ⟨_, _, rfl, ?_⟩
                  refine ⟨fun σ' H' => ∃ (lm : Addr) (ms : List (List Bool)), σ' = [some (.ref a), some (.ref r), some (.ref p), some (.ref c), some (.int ((0 : Int) + (i : Nat))), some (.ref sm), some tv, some (.int ((0 : Int) + (m : Nat))), some (.ref lv), some (.int ((0 : Int) + (x : Nat))), some (.int at'), some (.int kd), some (.ref lm), v13, v14, v15] ∧ E9 K r a sm N bs ds tv H3 H' ∧ Lv r lv N (128 + x) H' sts ∧ Lv r lm N 1 H' ms, ?_, ?_⟩
                  · refine ⟨_, rfl, _, _, rfl, rfl, _, rfl, ite2 (fun _ => ?_) (fun _ => ?_)⟩
                    · have L7 := LC E7.B
                      obtain ⟨xs7, hx7, hx7'⟩ := L7.at0 K
                      refine ⟨_, rfl, _, rfl, p, _, 0, .int N, rfl, rfl, hx7, hx7', ⟨⟨r, a, ns, N, "os", rfl, E7.R, SC E7.B, n1, by omega, by decide, by decide, fun cs J8 hl8 hm8 R8 B8 => ?_⟩⟩⟩
                      obtain ⟨st, est, lst⟩ := os_codes hm8
                      rw [est]
                      have E8 := E7.but R8 B8
                      have V8 := V7.but B8
                      refine ⟨(by show 1 ≤ sizeLine; decide), fun lm nlm => ?_⟩
                      obtain ⟨s9, f9⟩ := new_at (o := .lst [V.str (sstr st)]) nlm
                      generalize upd J8 lm (.lst [V.str (sstr st)]) = J9 at s9 f9 ⊢
                      obtain ⟨_, _, _, hR8, _⟩ := id E8.R.h
                      exact ⟨lm, [st], rfl, E8.same s9, V8.same s9, ⟨f9, (ne_of_none hR8 nlm).symm, fun z hz => by rw [List.mem_singleton.mp hz, lst]; omega, Nat.le_refl _⟩⟩
                    · refine ⟨(by show 0 ≤ sizeLine; decide), fun lm nlm => ?_⟩
                      obtain ⟨s9, f9⟩ := new_at (o := .lst []) nlm
                      generalize upd J7 lm (.lst []) = J9 at s9 f9 ⊢
                      obtain ⟨_, _, _, hR7, _⟩ := id E7.R.h
                      exact ⟨lm, [], rfl, E7.same s9, V7.same s9, ⟨f9, (ne_of_none hR7 nlm).symm, fun z hz => (by cases hz), Nat.zero_le _⟩⟩
                  · rintro σ' J8 ⟨lm, ms, rfl, E8, V8, M8⟩
                    obtain ⟨k1, rfl⟩ : ∃ k1 : Nat, at' = k1 := ⟨at'.toNat, by omega⟩
                    obtain ⟨e1, he1⟩ : ∃ e1 : Nat, (if decide (kd < 2) = true then (1 : Int) else 0) = e1 := by
                      by_cases z : kd < 2
                      · exact ⟨1, by rw [if_pos (decide_eq_true z)]; rfl⟩
                      · exact ⟨0, by rw [if_neg (by simpa using z)]; rfl⟩
                    obtain ⟨t1, et1, mt1, lt1⟩ := cut_map sts (fun st => V.str (sstr st)) none (some (k1 : Int))
                    obtain ⟨t2, et2, mt2, lt2⟩ := cut_map sts (fun st => V.str (sstr st)) (some ((k1 : Int) + (e1 : Nat))) none
                    have hcl := cut_len (sts.map fun st => V.str (sstr st)) k1 e1
                    rw [et1, et2, List.length_map, List.length_map, List.length_map] at hcl
                    have f8 := V8.few
                    have fm := M8.few
                    refine ⟨_, rfl, _, rfl, (k1 : Int), rfl, lv, _, rfl, SqL.of V8.at', fun l1 nl1 => ?_⟩
                    rw [et1]
                    obtain ⟨s9, f9⟩ := new_at (o := .lst (t1.map fun st => V.str (sstr st))) nl1
                    generalize upd J8 l1 (.lst (t1.map fun st => V.str (sstr st))) = J9 at s9 f9 ⊢
                    refine ⟨_, rfl, l1, lm, _, _, rfl, rfl, f9, s9 _ _ M8.at', (by rw [List.length_map, List.length_map]; exact Nat.le_of_lt (small1000 (by omega))), fun l2 nl2 => ?_⟩
                    rw [← List.map_append]
                    obtain ⟨s10, f10⟩ := new_at (o := .lst ((t1 ++ ms).map fun st => V.str (sstr st))) nl2
                    generalize upd J9 l2 (.lst ((t1 ++ ms).map fun st => V.str (sstr st))) = J10 at s10 f10 ⊢
                    have s810 := s9.trans s10
                    refine ⟨_, rfl, _, rfl, _, rfl, _, _, rfl, rfl, .inr ⟨_, rfl, _, _, rfl, rfl, ?_⟩⟩
                    rw [he1]
                    refine ⟨_, rfl, lv, _, rfl, SqL.of (s810 _ _ V8.at'), fun l3 nl3 => ?_⟩
                    rw [et2]
                    obtain ⟨s11, f11⟩ := new_at (o := .lst (t2.map fun st => V.str (sstr st))) nl3
                    generalize upd J10 l3 (.lst (t2.map fun st => V.str (sstr st))) = J11 at s11 f11 ⊢
                    refine ⟨l2, l3, _, _, rfl, rfl, s11 _ _ f10, f11, (by rw [List.length_map, List.length_map, List.length_append]; exact Nat.le_of_lt (small1000 (by omega))), fun l4 nl4 => ?_⟩
                    rw [← List.map_append]
                    obtain ⟨s12, f12⟩ := new_at (o := .lst ((t1 ++ ms ++ t2).map fun st => V.str (sstr st))) nl4
                    generalize upd J11 l4 (.lst ((t1 ++ ms ++ t2).map fun st => V.str (sstr st))) = J12 at s12 f12 ⊢
                    have s812 := (s810.trans s11).trans s12
                    have E12 := E8.same s812
                    obtain ⟨_, _, _, hR11, _⟩ := id (E8.same (s810.trans s11)).R.h
                    refine ⟨l4, t1 ++ ms ++ t2, _, _, _, _, _, _, _, rfl, E12, ⟨f12, (ne_of_none hR11 nl4).symm, fun z hz => ?_, by rw [List.length_append, List.length_append]; omega⟩⟩
                    rcases List.mem_append.mp hz with hz | hz
                    · rcases List.mem_append.mp hz with hz | hz
                      · exact V8.len z (mt1 z hz)
                      · exact M8.len z hz
                    · exact V8.len z (mt2 z hz)
                · clear E6 V6 E5 V5 R6 B6 J5 J6 lv sts v9 v10 v11 v12 v13 v14 v15
                  rintro σ J5 ⟨lv, sts, v9, v10, v11, v12, v13, v14, v15, rfl, E5, V5⟩
                  refine ⟨fun σ' H' => ∃ (lv : Addr) (sts : List (List Bool)) (v9 v10 v11 v12 v13 v14 v15 : Option V), σ' = [some (.ref a), some (.ref r), some (.ref p), some (.ref c), some (.int ((0 : Int) + (i : Nat))), some (.ref sm), some tv, some (.int ((0 : Int) + (m : Nat))), some (.ref lv), v9, v10, v11, v12, v13, v14, v15] ∧ E9 K r a sm N bs ds tv H3 H' ∧ Lv r lv N 1000 H' sts, ?_, ?_⟩
                  · refine ⟨_, rfl, ⟨⟨r, a, ns, 6, rfl, E5.R, SC E5.B, by decide, by decide, fun v J6 w0 w6 R6 B6 => ?_⟩⟩⟩
                    have E6 := E5.but R6 B6
                    have V6 := V5.but B6
                    refine ⟨rfl, _, rfl, ?_⟩
                    refine ite2 (fun _ => ?_) (fun _ => ?_)
                    · have L6 := LC E6.B
                      obtain ⟨xs6, hx6, hx6'⟩ := L6.at0 K
                      refine ⟨_, rfl, p, _, 0, .int N, rfl, rfl, hx6, hx6', ⟨⟨N, rfl, by omega, fun l sts' J7 nl s7 hl' f7 h32 => ?_⟩⟩⟩
                      obtain ⟨_, _, _, hR6, _⟩ := id E6.R.h
                      exact ⟨l, sts', _, _, _, _, _, _, _, rfl, E6.same s7, ⟨f7, (ne_of_none hR6 nl).symm, hl', by omega⟩⟩
                    · exact ⟨lv, sts, _, _, _, _, _, _, _, rfl, E6, ⟨V6.at', V6.nr, V6.len, by have := V6.few; omega⟩⟩
                  · clear E5 V5 J5 lv sts v9 v10 v11 v12 v13 v14 v15
                    rintro σ' J5 ⟨lv, sts, v9, v10, v11, v12, v13, v14, v15, rfl, E5, V5⟩
                    refine ⟨_, rfl, _, rfl, _, rfl, lv, _, rfl, .inl ⟨SqL.of V5.at', fun tq nt => ?_⟩⟩
                    obtain ⟨s6, f6⟩ := new_at (o := .tup (sts.map fun st => V.str (sstr st))) nt
                    generalize upd J5 tq (.tup (sts.map fun st => V.str (sstr st))) = J6 at s6 f6 ⊢
                    have E6 := E5.same s6
                    have V6 := V5.same s6
                    refine ⟨⟨c, sm, _, bs, N, ds, rfl, (LC E6.B).cab, SA E6.sm', .inr (.inr ⟨tq, sts, rfl, SqT.of' f6, V6.len, V6.few, fun J7 s7 => ?_⟩)⟩⟩
                    have E7 := E6.same s7
                    have V7 := V6.same s7
                    refine ⟨_, rfl, _, _, _, _, true, rfl, .ty "bool", .base (.bl _), kit_ty (by decide +kernel), _, rfl, iteF ?_⟩
                    refine ⟨_, rfl, _, rfl, _, rfl, _, rfl, ⟨⟨p, sm, lv, bs, N, ds, sts, rfl, (LC E7.B).dr, E7.sm', hlow, hdl, .inl (SqL.of V7.at'), V7.len, V7.few, fun J8 s8 => ?_⟩⟩⟩
                    refine ⟨rfl, _, rfl, iteNS rfl ?_⟩
                    exact ⟨_, _, _, _, _, _, _, _, _, rfl, E7.same s8⟩
            · rintro σ J5 ⟨v7, v8, v9, v10, v11, v12, v13, v14, v15, rfl, E5⟩
              exact ⟨_, _, _, _, _, _, _, _, _, _, _, _, rfl, E5.R, E5.B⟩
    · rintro σ J1 ⟨v4, v5, v6, v7, v8, v9, v10, v11, v12, v13, v14, v15, rfl, R1', B1'⟩
      clear hS hlen
      obtain ⟨⟨oa1, oa2⟩, _, _, ⟨ox1, ox2⟩, _⟩ := odd_txt (n := N) (z := "os") n1 (by omega) (.inl rfl)
      have mo : MulOk "s" (N : Int) := mulOk_8 rfl (by omega) (by omega)
      have mx : MulOk "x" (N : Int) := mulOk_8 rfl (by omega) (by omega)
      have mo1 : MulOk "s" ((N : Int) + 1) := mulOk_8 rfl (by omega) (by omega)
      have es : Txt.mul "s" (N : Int) = sstr (shutS N) := mul_shut (by omega) (by omega)
      have gs : GoodSgn "os" N (.str (sstr (shutS N))) := good_st (by rw [hshut]) (by omega)
      have gs' : sgnB N "os" (.str (sstr (shutS N))) = true := by
        obtain ⟨y, e, _, h⟩ := gs
        injection e with e
        rw [e]
        exact h
      refine ⟨(by show 0 ≤ sizeLine; decide), fun t0 nt0 => ?_⟩
      obtain ⟨s1, f1⟩ := new_at (o := .tup []) nt0
      generalize upd J1 t0 (.tup []) = J2 at s1 f1 ⊢
      have B2 := B1'.trans (sbut s1)
      obtain ⟨xs2, hx2, hx2'⟩ := (LC B2).at0 K
      refine ⟨_, rfl, p, _, 0, .int N, rfl, rfl, hx2, hx2', "s", (N : Int), rfl, rfl, mo, ?_⟩
      rw [es]
      refine ⟨(by show 1 ≤ sizeLine; decide), fun l2 nl2 => ?_⟩
      obtain ⟨s2, f2⟩ := new_at (o := .lst [V.str (sstr (shutS N))]) nl2
      generalize upd J2 l2 (.lst [V.str (sstr (shutS N))]) = J3 at s2 f2 ⊢
      have B3 := B2.trans (sbut s2)
      obtain ⟨xs3, hx3, hx3'⟩ := (LC B3).at0 K
      refine ⟨_, rfl, p, _, 0, .int N, rfl, rfl, hx3, hx3', "s", (N : Int), rfl, rfl, mo, ?_⟩
      rw [es]
      refine ⟨(by show 1 ≤ sizeLine; decide), fun t4 nt4 => ?_⟩
      obtain ⟨s4, f4⟩ := new_at (o := .tup [.int 0]) nt4
      generalize upd J3 t4 (.tup [.int 0]) = J4 at s4 f4 ⊢
      have B4 := B3.trans (sbut s4)
      obtain ⟨xs4, hx4, hx4'⟩ := (LC B4).at0 K
      refine ⟨_, rfl, p, _, 0, .int N, rfl, rfl, hx4, hx4', "s", (N : Int), rfl, rfl, mo, ?_⟩
      rw [es]
      refine ⟨(by show 2 ≤ sizeLine; decide), fun t5 nt5 => ?_⟩
      obtain ⟨s5, f5⟩ := new_at (o := .tup [V.str (sstr (shutS N)), .non]) nt5
      generalize upd J4 t5 (.tup [V.str (sstr (shutS N)), .non]) = J5 at s5 f5 ⊢
      have B5 := B4.trans (sbut s5)
      obtain ⟨xs5, hx5, hx5'⟩ := (LC B5).at0 K
      refine ⟨_, rfl, p, _, 0, .int N, rfl, rfl, hx5, hx5', "s", (N : Int), rfl, rfl, mo, ?_⟩
      rw [es]
      refine ⟨_, rfl, p, _, 0, .int N, rfl, rfl, hx5, hx5', "x", (N : Int), rfl, rfl, mx, ?_⟩
      refine ⟨(by show 2 ≤ sizeLine; decide), fun t6 nt6 => ?_⟩
      obtain ⟨s6, f6⟩ := new_at (o := .tup [V.str (sstr (shutS N)), .str (Txt.mul "x" N)]) nt6
      generalize upd J5 t6 (.tup [V.str (sstr (shutS N)), .str (Txt.mul "x" N)]) = J6 at s6 f6 ⊢
      refine fun d7 nd7 => ?_
      obtain ⟨s7, f7⟩ := new_at (o := .dT []) nd7
      generalize upd J6 d7 (.dT []) = J7 at s7 f7 ⊢
      refine ⟨(by show 9 ≤ sizeLine; decide), fun lo nlo => ?_⟩
      obtain ⟨s8, f8⟩ := new_at (o := .lst [.non, .ref t0, .ref l2, .str (sstr (shutS N)), .ref t4, .ref t5, .ref t6, .ref d7, .int 0]) nlo
      simp only [] at s8 f8 ⊢
      generalize upd J7 lo (.lst [.non, .ref t0, .ref l2, .str (sstr (shutS N)), .ref t4, .ref t5, .ref t6, .ref d7, .int 0]) = J8 at s8 f8 ⊢
      have B8 := ((B5.trans (sbut s6)).trans (sbut s7)).trans (sbut s8)
      obtain ⟨xs8, hx8, hx8'⟩ := (LC B8).at0 K
      refine ⟨_, rfl, .inl ⟨rfl, _, SqL.of f8⟩, ?_⟩
      refine ⟨_, rfl, p, _, 0, .int N, rfl, rfl, hx8, hx8', "s", (N : Int), rfl, rfl, mo, ?_⟩
      rw [es]
      refine ⟨_, rfl, p, _, 0, .int N, rfl, rfl, hx8, hx8', _, _, rfl, rfl, "s", (N : Int) + 1, rfl, rfl, mo1, ?_⟩
      refine ⟨(by show 2 ≤ sizeLine; decide), fun t9 nt9 => ?_⟩
      obtain ⟨s9, f9⟩ := new_at (o := .tup [V.str (sstr (shutS N)), .str (Txt.mul "s" ((N : Int) + 1))]) nt9
      generalize upd J8 t9 (.tup [V.str (sstr (shutS N)), .str (Txt.mul "s" ((N : Int) + 1))]) = J9 at s9 f9 ⊢
      refine ⟨lo, _, _, rfl, rfl, s9 _ _ f8, (by show 9 < sizeLine; decide), ?_⟩
      have n8 : N ≤ 7 := by omega
      have B7 := ((B5.trans (sbut s6)).trans (sbut s7))
      have R7 := ((((((R1'.same s1).same s2).same s4).same s5).same s6).same s7)
      have g0 := s7 _ _ (s6 _ _ (s5 _ _ (s4 _ _ (s2 _ _ f1))))
      have g2 := s7 _ _ (s6 _ _ (s5 _ _ (s4 _ _ f2)))
      have g4 := s7 _ _ (s6 _ _ (s5 _ _ f4))
      have g5 := s7 _ _ (s6 _ _ f5)
      have g6 := s7 _ _ f6
      have s89 := s8.trans s9
      have n9 : t9 ≠ lo := (ne_of_none f8 nt9).symm
      have nr : r ≠ lo := by
        obtain ⟨_, _, _, q, _⟩ := id R7.h
        exact ne_of_none q nlo
      obtain ⟨H10, eH⟩ : ∃ H10, H10 = upd J9 lo (.lst ([V.non, .ref t0, .ref l2, .str (sstr (shutS N)), .ref t4, .ref t5, .ref t6, .ref d7, .int 0] ++ [.ref t9])) := ⟨_, rfl⟩
      have keep : ∀ {b : Addr} {o : HO}, J7 b = some o → H10 b = some o := fun {b o} h => by
        rw [eH, upd_ne (ne_of_none h nlo)]
        exact s89 _ _ h
      have k9 : H10 t9 = some (.tup [V.str (sstr (shutS N)), .str (Txt.mul "s" ((N : Int) + 1))]) := by
        rw [eH, upd_ne n9]
        exact f9
      have kl : H10 lo = some (.lst [V.non, .ref t0, .ref l2, .str (sstr (shutS N)), .ref t4, .ref t5, .ref t6, .ref d7, .int 0, .ref t9]) := by
        rw [eH, upd_same]
        rfl
      have B10 : But r H3 H10 := fun b o hb h => keep (B7 b o hb h)
      have R10 : RowOk H10 r a := by
        obtain ⟨i', m', e', q1, q2⟩ := R7.h
        exact ⟨⟨i', m', e', keep q1, q2⟩⟩
      have w0 := keep g0
      have w2 := keep g2
      have w4 := keep g4
      have w5 := keep g5
      have w6 := keep g6
      have w7 := keep f7
      show _
      rw [← eH]
      have nlr := nr.symm
      clear eH keep n9 nr s89 g0 g2 g4 g5 g6 R7 B7 B8 hx8 hx8' xs8 s9 f9 nt9 s8 f8 nlo s7 f7 nd7 s6 f6 nt6 s5 f5 nt5 B5 hx5 hx5' xs5 s4 f4 nt4 B4 hx4 hx4' xs4 s2 f2 nl2 B3 hx3 hx3' xs3 s1 f1 nt0 B2 hx2 hx2' xs2 R1' B1'
      refine ⟨_, rfl, (by show 0 ≤ sizeLine; decide), fun e1 ne1 => ?_⟩
      obtain ⟨s1, f1⟩ := new_at (o := .tup []) ne1
      generalize upd H10 e1 (.tup []) = H11 at s1 f1 ⊢
      refine ⟨(by show 0 ≤ sizeLine; decide), fun e2 ne2 => ?_⟩
      obtain ⟨s2, f2⟩ := new_at (o := .tup []) ne2
      generalize upd H11 e2 (.tup []) = H12 at s2 f2 ⊢
      have B12 := (B10.trans (sbut s1)).trans (sbut s2)
      have S0 : SetAt K H12 N e1 [] := ⟨SqT.of' (s2 _ _ f1), fun d hd => (by cases hd), List.Pairwise.nil⟩
      refine ⟨⟨c, e1, .ref e2, bs, N, [], rfl, (LC B12).cab, S0, .inr (.inr ⟨e2, [], rfl, SqT.of' f2, fun st hst => (by cases hst), by decide, fun H13 s3 => ?_⟩)⟩⟩
      rw [show tabB N bs [] [] = false by unfold tabB; simp]
      refine ⟨_, rfl, ?_⟩
      refine ⟨_, rfl, iteT ?_⟩
      have s13 := (s1.trans s2).trans s3
      have R13 := R10.same s13
      have B13 := B10.trans (sbut s13)
      refine ⟨_, rfl, (by show 1 ≤ sizeLine; decide), fun e3 ne3 => ?_⟩
      obtain ⟨s4, f4⟩ := new_at (o := .tup [.int 0]) ne3
      generalize upd H13 e3 (.tup [.int 0]) = H14 at s4 f4 ⊢
      have R14 := R13.same s4
      have B14 := B13.trans (sbut s4)
      have s14 := s13.trans s4
      refine ⟨_, rfl, _, rfl, _, rfl, lo, _, rfl, .inl (SqL.of (s14 _ _ kl)), ⟨⟨r, a, ns, 10, rfl, R14, SC B14, by decide, by decide, fun v H15 v0 v10 R15 B15 => ?_⟩⟩⟩
      have B35 := B14.trans B15
      obtain ⟨_, _, _, hR14, _⟩ := id R14.h
      have S3 : SetAt K H15 N e3 [0] := ⟨sqT_but hR14 B15 (SqT.of' f4), fun d hd => by
        rw [List.mem_singleton.mp hd]
        omega, List.pairwise_singleton _ _⟩
      have kl15 := B15 _ _ nlr (s14 _ _ kl)
      have y0 := B15.tup hR14 (s14 _ _ w0)
      have y4 := B15.tup hR14 (s14 _ _ w4)
      have y5 := B15.tup hR14 (s14 _ _ w5)
      have y6 := B15.tup hR14 (s14 _ _ w6)
      have y9 := B15.tup hR14 (s14 _ _ k9)
      have y2 := B15 _ _ (ne_of (s14 _ _ w2) hR14 (by intro z; cases z)) (s14 _ _ w2)
      have y7 := B15 _ _ (ne_of (s14 _ _ w7) hR14 (by intro z; cases z)) (s14 _ _ w7)
      have nt : ∀ {x : V} {t : Value} {Q : VK} {X : XK}, (∀ H', Same H15 H' → TyX K H' x t) → PySem.W.kitOne K t (.type "tuple") = some false → (∀ H', Same H15 H' → Q (.bl false) H') → spRightP K C [.ref c, .ref e3, x] H15 Q X := fun ht hk k => ⟨⟨c, e3, _, bs, N, [0], rfl, (LC B35).cab, S3, .inl ⟨_, ht, hk, k⟩⟩⟩
      have bt : ∀ {q : Addr} {xs : List V} {Q : VK} {X : XK}, SqT K H15 q xs → xs.length ≤ 1000 → (∀ x ∈ xs, (sgnB N "os" x = false ∧ BadSgn K "os" H15 N x) ∨ (sgnB N "os" x = true ∧ GoodSgn "os" N x)) → xs.all (sgnB N "os") = false → (∀ H', Same H15 H' → Q (.bl false) H') → spRightP K C [.ref c, .ref e3, .ref q] H15 Q X := fun {q xs _ _} h1 h2 h3 h4 k => ⟨⟨c, e3, _, bs, N, [0], rfl, (LC B35).cab, S3, .inr (.inl ⟨q, xs, _, rfl, h1, h2, h3, h4, k⟩)⟩⟩
      have hv : v = 0 ∨ v = 1 ∨ v = 2 ∨ v = 3 ∨ v = 4 ∨ v = 5 ∨ v = 6 ∨ v = 7 ∨ v = 8 ∨ v = 9 := by omega
      rcases hv with rfl | rfl | rfl | rfl | rfl | rfl | rfl | rfl | rfl | rfl
      · exact ⟨lo, _, 0, _, rfl, rfl, SqL.of kl15, rfl, nt (t := .type "NoneType") (fun _ s => .base .non) (kit_ty (by decide +kernel)) fun H' s => ⟨_, rfl, k H'⟩⟩
      · refine ⟨lo, _, 1, _, rfl, rfl, SqL.of kl15, rfl, ⟨⟨c, e3, _, bs, N, [0], rfl, (LC B35).cab, S3, .inr (.inr ⟨t0, [], rfl, SqT.of' y0, fun st hst => (by cases hst), by decide, fun H' s => ?_⟩)⟩⟩⟩
        rw [show tabB N bs [0] [] = false by unfold tabB; simp]
        exact ⟨_, rfl, k H'⟩
      · exact ⟨lo, _, 2, _, rfl, rfl, SqL.of kl15, rfl, nt (t := .type "list") (fun _ s => .base (.lst (s _ _ y2))) (kit_ty (by decide +kernel)) fun H' s => ⟨_, rfl, k H'⟩⟩
      · exact ⟨lo, _, 3, _, rfl, rfl, SqL.of kl15, rfl, nt (t := .type "str") (fun _ s => .base (.str _)) (kit_ty (by decide +kernel)) fun H' s => ⟨_, rfl, k H'⟩⟩
      · refine ⟨lo, _, 4, _, rfl, rfl, SqL.of kl15, rfl, bt (SqT.of' y4) (by decide) (fun x hx => ?_) rfl fun H' s => ⟨_, rfl, k H'⟩⟩
        rw [List.mem_singleton.mp hx]
        exact .inl ⟨rfl, .inl ⟨.type "int", fun _ _ => .base (.int _), (kit_ty (by decide +kernel))⟩⟩
      · refine ⟨lo, _, 5, _, rfl, rfl, SqL.of kl15, rfl, bt (SqT.of' y5) (by show 2 ≤ 1000; decide) (fun x hx => ?_) ?_ fun H' s => ⟨_, rfl, k H'⟩⟩
        · rcases List.mem_cons.mp hx with rfl | hx
          · exact .inr ⟨gs', gs⟩
          · rw [List.mem_singleton.mp hx]
            exact .inl ⟨rfl, .inl ⟨.type "NoneType", fun _ _ => .base .non, (kit_ty (by decide +kernel))⟩⟩
        · rw [List.all_cons, List.all_cons, show sgnB N "os" .non = false from rfl]
          simp
      · refine ⟨lo, _, 6, _, rfl, rfl, SqL.of kl15, rfl, bt (SqT.of' y6) (by show 2 ≤ 1000; decide) (fun x hx => ?_) ?_ fun H' s => ⟨_, rfl, k H'⟩⟩
        · rcases List.mem_cons.mp hx with rfl | hx
          · exact .inr ⟨gs', gs⟩
          · rw [List.mem_singleton.mp hx]
            exact .inl ⟨ox2, .inr ⟨_, rfl, ox1, ox2⟩⟩
        · rw [List.all_cons, List.all_cons, ox2]
          simp
      · exact ⟨lo, _, 7, _, rfl, rfl, SqL.of kl15, rfl, nt (t := .type "dict") (fun _ s => .base (.dT (s _ _ y7))) (kit_ty (by decide +kernel)) fun H' s => ⟨_, rfl, k H'⟩⟩
      · exact ⟨lo, _, 8, _, rfl, rfl, SqL.of kl15, rfl, nt (t := .type "int") (fun _ s => .base (.int _)) (kit_ty (by decide +kernel)) fun H' s => ⟨_, rfl, k H'⟩⟩
      · refine ⟨lo, _, 9, _, rfl, rfl, SqL.of kl15, rfl, bt (SqT.of' y9) (by show 2 ≤ 1000; decide) (fun x hx => ?_) ?_ fun H' s => ⟨_, rfl, k H'⟩⟩
        · rcases List.mem_cons.mp hx with rfl | hx
          · exact .inr ⟨gs', gs⟩
          · rw [List.mem_singleton.mp hx]
            exact .inl ⟨oa2, .inr ⟨_, rfl, oa1, oa2⟩⟩
        · rw [List.all_cons, List.all_cons, oa2]
          simp
end
end DL

set_option Elab.async false
set_option maxRecDepth 100000
set_option maxHeartbeats 8000000
namespace DL
open PySem L2 HT TL
/-! ### what the top has written -/
theorem all_mk {l : PySem.W.OpenLaw} {w : World} {K : PySem.W.Frag} {h : Heap} {mg : Str → Option Value} {fa : Addr} (X : K.In h) (G : h.Ns mainGlobals mg) (hfa : mg "law" = some (.ref fa))
    {f_is_integer : Addr} {od_is_integer an_is_integer : Option Addr} {sl_is_integer : Array (Option Value)} {oc_is_integer kV_is_integer dc_is_integer pm_is_integer cd_is_integer ct_is_integer : Value}
    {f_is_drawer_count : Addr} {od_is_drawer_count an_is_drawer_count : Option Addr} {sl_is_drawer_count : Array (Option Value)} {oc_is_drawer_count kV_is_drawer_count dc_is_drawer_count pm_is_drawer_count cd_is_drawer_count ct_is_drawer_count : Value}
    {f_is_drawer : Addr} {od_is_drawer an_is_drawer : Option Addr} {sl_is_drawer : Array (Option Value)} {oc_is_drawer kV_is_drawer dc_is_drawer pm_is_drawer cd_is_drawer ct_is_drawer : Value}
    {f_is_bar : Addr} {od_is_bar an_is_bar : Option Addr} {sl_is_bar : Array (Option Value)} {oc_is_bar kV_is_bar dc_is_bar pm_is_bar cd_is_bar ct_is_bar : Value}
    {f_check_drawers : Addr} {od_check_drawers an_check_drawers : Option Addr} {sl_check_drawers : Array (Option Value)} {oc_check_drawers kV_check_drawers dc_check_drawers pm_check_drawers cd_check_drawers ct_check_drawers : Value}
    {f_check_bars : Addr} {od_check_bars an_check_bars : Option Addr} {sl_check_bars : Array (Option Value)} {oc_check_bars kV_check_bars dc_check_bars pm_check_bars cd_check_bars ct_check_bars : Value}
    {f__law_taken : Addr} {od__law_taken an__law_taken : Option Addr} {sl__law_taken : Array (Option Value)} {oc__law_taken kV__law_taken dc__law_taken pm__law_taken cd__law_taken ct__law_taken : Value}
    {f__law_parts : Addr} {od__law_parts an__law_parts : Option Addr} {sl__law_parts : Array (Option Value)} {oc__law_parts kV__law_parts dc__law_parts pm__law_parts cd__law_parts ct__law_parts : Value}
    {f__law_made : Addr} {od__law_made an__law_made : Option Addr} {sl__law_made : Array (Option Value)} {oc__law_made kV__law_made dc__law_made pm__law_made cd__law_made ct__law_made : Value}
    {f_hinders : Addr} {od_hinders an_hinders : Option Addr} {sl_hinders : Array (Option Value)} {oc_hinders kV_hinders dc_hinders pm_hinders cd_hinders ct_hinders : Value}
    {f_moved : Addr} {od_moved an_moved : Option Addr} {sl_moved : Array (Option Value)} {oc_moved kV_moved dc_moved pm_moved cd_moved ct_moved : Value}
    {f_bars_against : Addr} {od_bars_against an_bars_against : Option Addr} {sl_bars_against : Array (Option Value)} {oc_bars_against kV_bars_against dc_bars_against pm_bars_against cd_bars_against ct_bars_against : Value}
    {f_goes : Addr} {od_goes an_goes : Option Addr} {sl_goes : Array (Option Value)} {oc_goes kV_goes dc_goes pm_goes cd_goes ct_goes : Value}
    {f_free_drawers : Addr} {od_free_drawers an_free_drawers : Option Addr} {sl_free_drawers : Array (Option Value)} {oc_free_drawers kV_free_drawers dc_free_drawers pm_free_drawers cd_free_drawers ct_free_drawers : Value}
    {f__law_hold : Addr} {od__law_hold an__law_hold : Option Addr} {sl__law_hold : Array (Option Value)} {oc__law_hold kV__law_hold dc__law_hold pm__law_hold cd__law_hold ct__law_hold : Value}
    {f__law_free : Addr} {od__law_free an__law_free : Option Addr} {sl__law_free : Array (Option Value)} {oc__law_free kV__law_free dc__law_free pm__law_free cd__law_free ct__law_free : Value}
    {f__law_moved : Addr} {od__law_moved an__law_moved : Option Addr} {sl__law_moved : Array (Option Value)} {oc__law_moved kV__law_moved dc__law_moved pm__law_moved cd__law_moved ct__law_moved : Value}
    {f__law_pattern : Addr} {od__law_pattern an__law_pattern : Option Addr} {sl__law_pattern : Array (Option Value)} {oc__law_pattern kV__law_pattern dc__law_pattern pm__law_pattern cd__law_pattern ct__law_pattern : Value}
    {f_has_signs : Addr} {od_has_signs an_has_signs : Option Addr} {sl_has_signs : Array (Option Value)} {oc_has_signs kV_has_signs dc_has_signs pm_has_signs cd_has_signs ct_has_signs : Value}
    {f_is_standing : Addr} {od_is_standing an_is_standing : Option Addr} {sl_is_standing : Array (Option Value)} {oc_is_standing kV_is_standing dc_is_standing pm_is_standing cd_is_standing ct_is_standing : Value}
    {f_check_cabinet : Addr} {od_check_cabinet an_check_cabinet : Option Addr} {sl_check_cabinet : Array (Option Value)} {oc_check_cabinet kV_check_cabinet dc_check_cabinet pm_check_cabinet cd_check_cabinet ct_check_cabinet : Value}
    {f_first_standing : Addr} {od_first_standing an_first_standing : Option Addr} {sl_first_standing : Array (Option Value)} {oc_first_standing kV_first_standing dc_first_standing pm_first_standing cd_first_standing ct_first_standing : Value}
    {f_fits : Addr} {od_fits an_fits : Option Addr} {sl_fits : Array (Option Value)} {oc_fits kV_fits dc_fits pm_fits cd_fits ct_fits : Value}
    {f_rows_from : Addr} {od_rows_from an_rows_from : Option Addr} {sl_rows_from : Array (Option Value)} {oc_rows_from kV_rows_from dc_rows_from pm_rows_from cd_rows_from ct_rows_from : Value}
    {f_first_rows : Addr} {od_first_rows an_first_rows : Option Addr} {sl_first_rows : Array (Option Value)} {oc_first_rows kV_first_rows dc_first_rows pm_first_rows cd_first_rows ct_first_rows : Value}
    {f_first_row_to : Addr} {od_first_row_to an_first_row_to : Option Addr} {sl_first_row_to : Array (Option Value)} {oc_first_row_to kV_first_row_to dc_first_row_to pm_first_row_to cd_first_row_to ct_first_row_to : Value}
    {f_reached : Addr} {od_reached an_reached : Option Addr} {sl_reached : Array (Option Value)} {oc_reached kV_reached dc_reached pm_reached cd_reached ct_reached : Value}
    {f__law_rows : Addr} {od__law_rows an__law_rows : Option Addr} {sl__law_rows : Array (Option Value)} {oc__law_rows kV__law_rows dc__law_rows pm__law_rows cd__law_rows ct__law_rows : Value}
    {f__law_all : Addr} {od__law_all an__law_all : Option Addr} {sl__law_all : Array (Option Value)} {oc__law_all kV__law_all dc__law_all pm__law_all cd__law_all ct__law_all : Value}
    {f_is_set : Addr} {od_is_set an_is_set : Option Addr} {sl_is_set : Array (Option Value)} {oc_is_set kV_is_set dc_is_set pm_is_set cd_is_set ct_is_set : Value}
    {f_check_set : Addr} {od_check_set an_check_set : Option Addr} {sl_check_set : Array (Option Value)} {oc_check_set kV_check_set dc_check_set pm_check_set cd_check_set ct_check_set : Value}
    {f_open_pattern : Addr} {od_open_pattern an_open_pattern : Option Addr} {sl_open_pattern : Array (Option Value)} {oc_open_pattern kV_open_pattern dc_open_pattern pm_open_pattern cd_open_pattern ct_open_pattern : Value}
    {f_any_fits : Addr} {od_any_fits an_any_fits : Option Addr} {sl_any_fits : Array (Option Value)} {oc_any_fits kV_any_fits dc_any_fits pm_any_fits cd_any_fits ct_any_fits : Value}
    {f_open_together : Addr} {od_open_together an_open_together : Option Addr} {sl_open_together : Array (Option Value)} {oc_open_together kV_open_together dc_open_together pm_open_together cd_open_together ct_open_together : Value}
    {f_is_closed : Addr} {od_is_closed an_is_closed : Option Addr} {sl_is_closed : Array (Option Value)} {oc_is_closed kV_is_closed dc_is_closed pm_is_closed cd_is_closed ct_is_closed : Value}
    {f_paper : Addr} {od_paper an_paper : Option Addr} {sl_paper : Array (Option Value)} {oc_paper kV_paper dc_paper pm_paper cd_paper ct_paper : Value}
    {f_right_paper : Addr} {od_right_paper an_right_paper : Option Addr} {sl_right_paper : Array (Option Value)} {oc_right_paper kV_right_paper dc_right_paper pm_right_paper cd_right_paper ct_right_paper : Value}
    {f__law_is_table : Addr} {od__law_is_table an__law_is_table : Option Addr} {sl__law_is_table : Array (Option Value)} {oc__law_is_table kV__law_is_table dc__law_is_table pm__law_is_table cd__law_is_table ct__law_is_table : Value}
    {f_law : Addr} {od_law an_law : Option Addr} {sl_law : Array (Option Value)} {oc_law kV_law dc_law pm_law cd_law ct_law : Value}
    {C : Addr}
    {f_Cabinet___init__ : Addr} {od_Cabinet___init__ an_Cabinet___init__ : Option Addr} {sl_Cabinet___init__ : Array (Option Value)} {oc_Cabinet___init__ kV_Cabinet___init__ dc_Cabinet___init__ pm_Cabinet___init__ cd_Cabinet___init__ ct_Cabinet___init__ : Value}
    {p_drawers : Addr} {rest_drawers : List Value}
    {f_Cabinet_drawers : Addr} {od_Cabinet_drawers an_Cabinet_drawers : Option Addr} {sl_Cabinet_drawers : Array (Option Value)} {oc_Cabinet_drawers kV_Cabinet_drawers dc_Cabinet_drawers pm_Cabinet_drawers cd_Cabinet_drawers ct_Cabinet_drawers : Value}
    {p_bars : Addr} {rest_bars : List Value}
    {f_Cabinet_bars : Addr} {od_Cabinet_bars an_Cabinet_bars : Option Addr} {sl_Cabinet_bars : Array (Option Value)} {oc_Cabinet_bars kV_Cabinet_bars dc_Cabinet_bars pm_Cabinet_bars cd_Cabinet_bars ct_Cabinet_bars : Value}
    {tM : Tok}
    {fW : Addr}
    {ddW : Option Addr} {tW1 tW2 : Tok} {nW : Nat} {slW : Array (Option Value)}
    {fS : Addr}
    {esS : Array DictEntry} {nS : Nat}
    {tS1 : Tok}
    {tS2 : Tok}
    {tST : Tok}
    (a_is_integer : PySem.W.nsIn K mainGlobals "is_integer" = some (some (.ref f_is_integer)))
    (l_is_integer : K.lookup f_is_integer = some ⟨oc_is_integer, od_is_integer, .func (PySem.W.fnOf "is_integer" "is_integer" (defArgs sIsInt) (defBody sIsInt) (defScope sIsInt) .none kV_is_integer dc_is_integer pm_is_integer an_is_integer cd_is_integer ct_is_integer), sl_is_integer⟩)
    (c_is_integer : PySem.W.codeIn K cd_is_integer "is_integer" = true)
    (k_is_integer : PySem.W.keepIn K (.ref f_is_integer) = true)
    (a_is_drawer_count : PySem.W.nsIn K mainGlobals "is_drawer_count" = some (some (.ref f_is_drawer_count)))
    (l_is_drawer_count : K.lookup f_is_drawer_count = some ⟨oc_is_drawer_count, od_is_drawer_count, .func (PySem.W.fnOf "is_drawer_count" "is_drawer_count" (defArgs sIsCount) (defBody sIsCount) (defScope sIsCount) .none kV_is_drawer_count dc_is_drawer_count pm_is_drawer_count an_is_drawer_count cd_is_drawer_count ct_is_drawer_count), sl_is_drawer_count⟩)
    (c_is_drawer_count : PySem.W.codeIn K cd_is_drawer_count "is_drawer_count" = true)
    (k_is_drawer_count : PySem.W.keepIn K (.ref f_is_drawer_count) = true)
    (a_is_drawer : PySem.W.nsIn K mainGlobals "is_drawer" = some (some (.ref f_is_drawer)))
    (l_is_drawer : K.lookup f_is_drawer = some ⟨oc_is_drawer, od_is_drawer, .func (PySem.W.fnOf "is_drawer" "is_drawer" (defArgs sIsDrawer) (defBody sIsDrawer) (defScope sIsDrawer) .none kV_is_drawer dc_is_drawer pm_is_drawer an_is_drawer cd_is_drawer ct_is_drawer), sl_is_drawer⟩)
    (c_is_drawer : PySem.W.codeIn K cd_is_drawer "is_drawer" = true)
    (k_is_drawer : PySem.W.keepIn K (.ref f_is_drawer) = true)
    (a_is_bar : PySem.W.nsIn K mainGlobals "is_bar" = some (some (.ref f_is_bar)))
    (l_is_bar : K.lookup f_is_bar = some ⟨oc_is_bar, od_is_bar, .func (PySem.W.fnOf "is_bar" "is_bar" (defArgs sIsBar) (defBody sIsBar) (defScope sIsBar) .none kV_is_bar dc_is_bar pm_is_bar an_is_bar cd_is_bar ct_is_bar), sl_is_bar⟩)
    (c_is_bar : PySem.W.codeIn K cd_is_bar "is_bar" = true)
    (k_is_bar : PySem.W.keepIn K (.ref f_is_bar) = true)
    (a_check_drawers : PySem.W.nsIn K mainGlobals "check_drawers" = some (some (.ref f_check_drawers)))
    (l_check_drawers : K.lookup f_check_drawers = some ⟨oc_check_drawers, od_check_drawers, .func (PySem.W.fnOf "check_drawers" "check_drawers" (defArgs sCheckDrawers) (defBody sCheckDrawers) (defScope sCheckDrawers) .none kV_check_drawers dc_check_drawers pm_check_drawers an_check_drawers cd_check_drawers ct_check_drawers), sl_check_drawers⟩)
    (c_check_drawers : PySem.W.codeIn K cd_check_drawers "check_drawers" = true)
    (k_check_drawers : PySem.W.keepIn K (.ref f_check_drawers) = true)
    (a_check_bars : PySem.W.nsIn K mainGlobals "check_bars" = some (some (.ref f_check_bars)))
    (l_check_bars : K.lookup f_check_bars = some ⟨oc_check_bars, od_check_bars, .func (PySem.W.fnOf "check_bars" "check_bars" (defArgs sCheckBars) (defBody sCheckBars) (defScope sCheckBars) .none kV_check_bars dc_check_bars pm_check_bars an_check_bars cd_check_bars ct_check_bars), sl_check_bars⟩)
    (c_check_bars : PySem.W.codeIn K cd_check_bars "check_bars" = true)
    (k_check_bars : PySem.W.keepIn K (.ref f_check_bars) = true)
    (a__law_taken : PySem.W.nsIn K mainGlobals "_law_taken" = some (some (.ref f__law_taken)))
    (l__law_taken : K.lookup f__law_taken = some ⟨oc__law_taken, od__law_taken, .func (PySem.W.fnOf "_law_taken" "_law_taken" (defArgs sTaken) (defBody sTaken) (defScope sTaken) .none kV__law_taken dc__law_taken pm__law_taken an__law_taken cd__law_taken ct__law_taken), sl__law_taken⟩)
    (c__law_taken : PySem.W.codeIn K cd__law_taken "_law_taken" = true)
    (k__law_taken : PySem.W.keepIn K (.ref f__law_taken) = true)
    (a__law_parts : PySem.W.nsIn K mainGlobals "_law_parts" = some (some (.ref f__law_parts)))
    (l__law_parts : K.lookup f__law_parts = some ⟨oc__law_parts, od__law_parts, .func (PySem.W.fnOf "_law_parts" "_law_parts" (defArgs sParts) (defBody sParts) (defScope sParts) .none kV__law_parts dc__law_parts pm__law_parts an__law_parts cd__law_parts ct__law_parts), sl__law_parts⟩)
    (c__law_parts : PySem.W.codeIn K cd__law_parts "_law_parts" = true)
    (k__law_parts : PySem.W.keepIn K (.ref f__law_parts) = true)
    (a__law_made : PySem.W.nsIn K mainGlobals "_law_made" = some (some (.ref f__law_made)))
    (l__law_made : K.lookup f__law_made = some ⟨oc__law_made, od__law_made, .func (PySem.W.fnOf "_law_made" "_law_made" (defArgs sMade) (defBody sMade) (defScope sMade) .none kV__law_made dc__law_made pm__law_made an__law_made cd__law_made ct__law_made), sl__law_made⟩)
    (c__law_made : PySem.W.codeIn K cd__law_made "_law_made" = true)
    (k__law_made : PySem.W.keepIn K (.ref f__law_made) = true)
    (a_hinders : PySem.W.nsIn K mainGlobals "hinders" = some (some (.ref f_hinders)))
    (l_hinders : K.lookup f_hinders = some ⟨oc_hinders, od_hinders, .func (PySem.W.fnOf "hinders" "hinders" (defArgs s_hinders) (defBody s_hinders) (defScope s_hinders) .none kV_hinders dc_hinders pm_hinders an_hinders cd_hinders ct_hinders), sl_hinders⟩)
    (c_hinders : PySem.W.codeIn K cd_hinders "hinders" = true)
    (k_hinders : PySem.W.keepIn K (.ref f_hinders) = true)
    (a_moved : PySem.W.nsIn K mainGlobals "moved" = some (some (.ref f_moved)))
    (l_moved : K.lookup f_moved = some ⟨oc_moved, od_moved, .func (PySem.W.fnOf "moved" "moved" (defArgs s_moved) (defBody s_moved) (defScope s_moved) .none kV_moved dc_moved pm_moved an_moved cd_moved ct_moved), sl_moved⟩)
    (c_moved : PySem.W.codeIn K cd_moved "moved" = true)
    (k_moved : PySem.W.keepIn K (.ref f_moved) = true)
    (a_bars_against : PySem.W.nsIn K mainGlobals "bars_against" = some (some (.ref f_bars_against)))
    (l_bars_against : K.lookup f_bars_against = some ⟨oc_bars_against, od_bars_against, .func (PySem.W.fnOf "bars_against" "bars_against" (defArgs s_bars_against) (defBody s_bars_against) (defScope s_bars_against) .none kV_bars_against dc_bars_against pm_bars_against an_bars_against cd_bars_against ct_bars_against), sl_bars_against⟩)
    (c_bars_against : PySem.W.codeIn K cd_bars_against "bars_against" = true)
    (k_bars_against : PySem.W.keepIn K (.ref f_bars_against) = true)
    (a_goes : PySem.W.nsIn K mainGlobals "goes" = some (some (.ref f_goes)))
    (l_goes : K.lookup f_goes = some ⟨oc_goes, od_goes, .func (PySem.W.fnOf "goes" "goes" (defArgs s_goes) (defBody s_goes) (defScope s_goes) .none kV_goes dc_goes pm_goes an_goes cd_goes ct_goes), sl_goes⟩)
    (c_goes : PySem.W.codeIn K cd_goes "goes" = true)
    (k_goes : PySem.W.keepIn K (.ref f_goes) = true)
    (a_free_drawers : PySem.W.nsIn K mainGlobals "free_drawers" = some (some (.ref f_free_drawers)))
    (l_free_drawers : K.lookup f_free_drawers = some ⟨oc_free_drawers, od_free_drawers, .func (PySem.W.fnOf "free_drawers" "free_drawers" (defArgs s_free_drawers) (defBody s_free_drawers) (defScope s_free_drawers) .none kV_free_drawers dc_free_drawers pm_free_drawers an_free_drawers cd_free_drawers ct_free_drawers), sl_free_drawers⟩)
    (c_free_drawers : PySem.W.codeIn K cd_free_drawers "free_drawers" = true)
    (k_free_drawers : PySem.W.keepIn K (.ref f_free_drawers) = true)
    (a__law_hold : PySem.W.nsIn K mainGlobals "_law_hold" = some (some (.ref f__law_hold)))
    (l__law_hold : K.lookup f__law_hold = some ⟨oc__law_hold, od__law_hold, .func (PySem.W.fnOf "_law_hold" "_law_hold" (defArgs s__law_hold) (defBody s__law_hold) (defScope s__law_hold) .none kV__law_hold dc__law_hold pm__law_hold an__law_hold cd__law_hold ct__law_hold), sl__law_hold⟩)
    (c__law_hold : PySem.W.codeIn K cd__law_hold "_law_hold" = true)
    (k__law_hold : PySem.W.keepIn K (.ref f__law_hold) = true)
    (a__law_free : PySem.W.nsIn K mainGlobals "_law_free" = some (some (.ref f__law_free)))
    (l__law_free : K.lookup f__law_free = some ⟨oc__law_free, od__law_free, .func (PySem.W.fnOf "_law_free" "_law_free" (defArgs s__law_free) (defBody s__law_free) (defScope s__law_free) .none kV__law_free dc__law_free pm__law_free an__law_free cd__law_free ct__law_free), sl__law_free⟩)
    (c__law_free : PySem.W.codeIn K cd__law_free "_law_free" = true)
    (k__law_free : PySem.W.keepIn K (.ref f__law_free) = true)
    (a__law_moved : PySem.W.nsIn K mainGlobals "_law_moved" = some (some (.ref f__law_moved)))
    (l__law_moved : K.lookup f__law_moved = some ⟨oc__law_moved, od__law_moved, .func (PySem.W.fnOf "_law_moved" "_law_moved" (defArgs s__law_moved) (defBody s__law_moved) (defScope s__law_moved) .none kV__law_moved dc__law_moved pm__law_moved an__law_moved cd__law_moved ct__law_moved), sl__law_moved⟩)
    (c__law_moved : PySem.W.codeIn K cd__law_moved "_law_moved" = true)
    (k__law_moved : PySem.W.keepIn K (.ref f__law_moved) = true)
    (a__law_pattern : PySem.W.nsIn K mainGlobals "_law_pattern" = some (some (.ref f__law_pattern)))
    (l__law_pattern : K.lookup f__law_pattern = some ⟨oc__law_pattern, od__law_pattern, .func (PySem.W.fnOf "_law_pattern" "_law_pattern" (defArgs s__law_pattern) (defBody s__law_pattern) (defScope s__law_pattern) .none kV__law_pattern dc__law_pattern pm__law_pattern an__law_pattern cd__law_pattern ct__law_pattern), sl__law_pattern⟩)
    (c__law_pattern : PySem.W.codeIn K cd__law_pattern "_law_pattern" = true)
    (k__law_pattern : PySem.W.keepIn K (.ref f__law_pattern) = true)
    (a_has_signs : PySem.W.nsIn K mainGlobals "has_signs" = some (some (.ref f_has_signs)))
    (l_has_signs : K.lookup f_has_signs = some ⟨oc_has_signs, od_has_signs, .func (PySem.W.fnOf "has_signs" "has_signs" (defArgs s_has_signs) (defBody s_has_signs) (defScope s_has_signs) .none kV_has_signs dc_has_signs pm_has_signs an_has_signs cd_has_signs ct_has_signs), sl_has_signs⟩)
    (c_has_signs : PySem.W.codeIn K cd_has_signs "has_signs" = true)
    (k_has_signs : PySem.W.keepIn K (.ref f_has_signs) = true)
    (a_is_standing : PySem.W.nsIn K mainGlobals "is_standing" = some (some (.ref f_is_standing)))
    (l_is_standing : K.lookup f_is_standing = some ⟨oc_is_standing, od_is_standing, .func (PySem.W.fnOf "is_standing" "is_standing" (defArgs s_is_standing) (defBody s_is_standing) (defScope s_is_standing) .none kV_is_standing dc_is_standing pm_is_standing an_is_standing cd_is_standing ct_is_standing), sl_is_standing⟩)
    (c_is_standing : PySem.W.codeIn K cd_is_standing "is_standing" = true)
    (k_is_standing : PySem.W.keepIn K (.ref f_is_standing) = true)
    (a_check_cabinet : PySem.W.nsIn K mainGlobals "check_cabinet" = some (some (.ref f_check_cabinet)))
    (l_check_cabinet : K.lookup f_check_cabinet = some ⟨oc_check_cabinet, od_check_cabinet, .func (PySem.W.fnOf "check_cabinet" "check_cabinet" (defArgs s_check_cabinet) (defBody s_check_cabinet) (defScope s_check_cabinet) .none kV_check_cabinet dc_check_cabinet pm_check_cabinet an_check_cabinet cd_check_cabinet ct_check_cabinet), sl_check_cabinet⟩)
    (c_check_cabinet : PySem.W.codeIn K cd_check_cabinet "check_cabinet" = true)
    (k_check_cabinet : PySem.W.keepIn K (.ref f_check_cabinet) = true)
    (a_first_standing : PySem.W.nsIn K mainGlobals "first_standing" = some (some (.ref f_first_standing)))
    (l_first_standing : K.lookup f_first_standing = some ⟨oc_first_standing, od_first_standing, .func (PySem.W.fnOf "first_standing" "first_standing" (defArgs s_first_standing) (defBody s_first_standing) (defScope s_first_standing) .none kV_first_standing dc_first_standing pm_first_standing an_first_standing cd_first_standing ct_first_standing), sl_first_standing⟩)
    (c_first_standing : PySem.W.codeIn K cd_first_standing "first_standing" = true)
    (k_first_standing : PySem.W.keepIn K (.ref f_first_standing) = true)
    (a_fits : PySem.W.nsIn K mainGlobals "fits" = some (some (.ref f_fits)))
    (l_fits : K.lookup f_fits = some ⟨oc_fits, od_fits, .func (PySem.W.fnOf "fits" "fits" (defArgs s_fits) (defBody s_fits) (defScope s_fits) .none kV_fits dc_fits pm_fits an_fits cd_fits ct_fits), sl_fits⟩)
    (c_fits : PySem.W.codeIn K cd_fits "fits" = true)
    (k_fits : PySem.W.keepIn K (.ref f_fits) = true)
    (a_rows_from : PySem.W.nsIn K mainGlobals "rows_from" = some (some (.ref f_rows_from)))
    (l_rows_from : K.lookup f_rows_from = some ⟨oc_rows_from, od_rows_from, .func (PySem.W.fnOf "rows_from" "rows_from" (defArgs s_rows_from) (defBody s_rows_from) (defScope s_rows_from) .none kV_rows_from dc_rows_from pm_rows_from an_rows_from cd_rows_from ct_rows_from), sl_rows_from⟩)
    (c_rows_from : PySem.W.codeIn K cd_rows_from "rows_from" = true)
    (k_rows_from : PySem.W.keepIn K (.ref f_rows_from) = true)
    (a_first_rows : PySem.W.nsIn K mainGlobals "first_rows" = some (some (.ref f_first_rows)))
    (l_first_rows : K.lookup f_first_rows = some ⟨oc_first_rows, od_first_rows, .func (PySem.W.fnOf "first_rows" "first_rows" (defArgs s_first_rows) (defBody s_first_rows) (defScope s_first_rows) .none kV_first_rows dc_first_rows pm_first_rows an_first_rows cd_first_rows ct_first_rows), sl_first_rows⟩)
    (c_first_rows : PySem.W.codeIn K cd_first_rows "first_rows" = true)
    (k_first_rows : PySem.W.keepIn K (.ref f_first_rows) = true)
    (a_first_row_to : PySem.W.nsIn K mainGlobals "first_row_to" = some (some (.ref f_first_row_to)))
    (l_first_row_to : K.lookup f_first_row_to = some ⟨oc_first_row_to, od_first_row_to, .func (PySem.W.fnOf "first_row_to" "first_row_to" (defArgs s_first_row_to) (defBody s_first_row_to) (defScope s_first_row_to) .none kV_first_row_to dc_first_row_to pm_first_row_to an_first_row_to cd_first_row_to ct_first_row_to), sl_first_row_to⟩)
    (c_first_row_to : PySem.W.codeIn K cd_first_row_to "first_row_to" = true)
    (k_first_row_to : PySem.W.keepIn K (.ref f_first_row_to) = true)
    (a_reached : PySem.W.nsIn K mainGlobals "reached" = some (some (.ref f_reached)))
    (l_reached : K.lookup f_reached = some ⟨oc_reached, od_reached, .func (PySem.W.fnOf "reached" "reached" (defArgs s_reached) (defBody s_reached) (defScope s_reached) .none kV_reached dc_reached pm_reached an_reached cd_reached ct_reached), sl_reached⟩)
    (c_reached : PySem.W.codeIn K cd_reached "reached" = true)
    (k_reached : PySem.W.keepIn K (.ref f_reached) = true)
    (a__law_rows : PySem.W.nsIn K mainGlobals "_law_rows" = some (some (.ref f__law_rows)))
    (l__law_rows : K.lookup f__law_rows = some ⟨oc__law_rows, od__law_rows, .func (PySem.W.fnOf "_law_rows" "_law_rows" (defArgs s__law_rows) (defBody s__law_rows) (defScope s__law_rows) .none kV__law_rows dc__law_rows pm__law_rows an__law_rows cd__law_rows ct__law_rows), sl__law_rows⟩)
    (c__law_rows : PySem.W.codeIn K cd__law_rows "_law_rows" = true)
    (k__law_rows : PySem.W.keepIn K (.ref f__law_rows) = true)
    (a__law_all : PySem.W.nsIn K mainGlobals "_law_all" = some (some (.ref f__law_all)))
    (l__law_all : K.lookup f__law_all = some ⟨oc__law_all, od__law_all, .func (PySem.W.fnOf "_law_all" "_law_all" (defArgs s__law_all) (defBody s__law_all) (defScope s__law_all) .none kV__law_all dc__law_all pm__law_all an__law_all cd__law_all ct__law_all), sl__law_all⟩)
    (c__law_all : PySem.W.codeIn K cd__law_all "_law_all" = true)
    (k__law_all : PySem.W.keepIn K (.ref f__law_all) = true)
    (a_is_set : PySem.W.nsIn K mainGlobals "is_set" = some (some (.ref f_is_set)))
    (l_is_set : K.lookup f_is_set = some ⟨oc_is_set, od_is_set, .func (PySem.W.fnOf "is_set" "is_set" (defArgs s_is_set) (defBody s_is_set) (defScope s_is_set) .none kV_is_set dc_is_set pm_is_set an_is_set cd_is_set ct_is_set), sl_is_set⟩)
    (c_is_set : PySem.W.codeIn K cd_is_set "is_set" = true)
    (k_is_set : PySem.W.keepIn K (.ref f_is_set) = true)
    (a_check_set : PySem.W.nsIn K mainGlobals "check_set" = some (some (.ref f_check_set)))
    (l_check_set : K.lookup f_check_set = some ⟨oc_check_set, od_check_set, .func (PySem.W.fnOf "check_set" "check_set" (defArgs s_check_set) (defBody s_check_set) (defScope s_check_set) .none kV_check_set dc_check_set pm_check_set an_check_set cd_check_set ct_check_set), sl_check_set⟩)
    (c_check_set : PySem.W.codeIn K cd_check_set "check_set" = true)
    (k_check_set : PySem.W.keepIn K (.ref f_check_set) = true)
    (a_open_pattern : PySem.W.nsIn K mainGlobals "open_pattern" = some (some (.ref f_open_pattern)))
    (l_open_pattern : K.lookup f_open_pattern = some ⟨oc_open_pattern, od_open_pattern, .func (PySem.W.fnOf "open_pattern" "open_pattern" (defArgs s_open_pattern) (defBody s_open_pattern) (defScope s_open_pattern) .none kV_open_pattern dc_open_pattern pm_open_pattern an_open_pattern cd_open_pattern ct_open_pattern), sl_open_pattern⟩)
    (c_open_pattern : PySem.W.codeIn K cd_open_pattern "open_pattern" = true)
    (k_open_pattern : PySem.W.keepIn K (.ref f_open_pattern) = true)
    (a_any_fits : PySem.W.nsIn K mainGlobals "any_fits" = some (some (.ref f_any_fits)))
    (l_any_fits : K.lookup f_any_fits = some ⟨oc_any_fits, od_any_fits, .func (PySem.W.fnOf "any_fits" "any_fits" (defArgs s_any_fits) (defBody s_any_fits) (defScope s_any_fits) .none kV_any_fits dc_any_fits pm_any_fits an_any_fits cd_any_fits ct_any_fits), sl_any_fits⟩)
    (c_any_fits : PySem.W.codeIn K cd_any_fits "any_fits" = true)
    (k_any_fits : PySem.W.keepIn K (.ref f_any_fits) = true)
    (a_open_together : PySem.W.nsIn K mainGlobals "open_together" = some (some (.ref f_open_together)))
    (l_open_together : K.lookup f_open_together = some ⟨oc_open_together, od_open_together, .func (PySem.W.fnOf "open_together" "open_together" (defArgs s_open_together) (defBody s_open_together) (defScope s_open_together) .none kV_open_together dc_open_together pm_open_together an_open_together cd_open_together ct_open_together), sl_open_together⟩)
    (c_open_together : PySem.W.codeIn K cd_open_together "open_together" = true)
    (k_open_together : PySem.W.keepIn K (.ref f_open_together) = true)
    (a_is_closed : PySem.W.nsIn K mainGlobals "is_closed" = some (some (.ref f_is_closed)))
    (l_is_closed : K.lookup f_is_closed = some ⟨oc_is_closed, od_is_closed, .func (PySem.W.fnOf "is_closed" "is_closed" (defArgs s_is_closed) (defBody s_is_closed) (defScope s_is_closed) .none kV_is_closed dc_is_closed pm_is_closed an_is_closed cd_is_closed ct_is_closed), sl_is_closed⟩)
    (c_is_closed : PySem.W.codeIn K cd_is_closed "is_closed" = true)
    (k_is_closed : PySem.W.keepIn K (.ref f_is_closed) = true)
    (a_paper : PySem.W.nsIn K mainGlobals "paper" = some (some (.ref f_paper)))
    (l_paper : K.lookup f_paper = some ⟨oc_paper, od_paper, .func (PySem.W.fnOf "paper" "paper" (defArgs s_paper) (defBody s_paper) (defScope s_paper) .none kV_paper dc_paper pm_paper an_paper cd_paper ct_paper), sl_paper⟩)
    (c_paper : PySem.W.codeIn K cd_paper "paper" = true)
    (k_paper : PySem.W.keepIn K (.ref f_paper) = true)
    (a_right_paper : PySem.W.nsIn K mainGlobals "right_paper" = some (some (.ref f_right_paper)))
    (l_right_paper : K.lookup f_right_paper = some ⟨oc_right_paper, od_right_paper, .func (PySem.W.fnOf "right_paper" "right_paper" (defArgs s_right_paper) (defBody s_right_paper) (defScope s_right_paper) .none kV_right_paper dc_right_paper pm_right_paper an_right_paper cd_right_paper ct_right_paper), sl_right_paper⟩)
    (c_right_paper : PySem.W.codeIn K cd_right_paper "right_paper" = true)
    (k_right_paper : PySem.W.keepIn K (.ref f_right_paper) = true)
    (a__law_is_table : PySem.W.nsIn K mainGlobals "_law_is_table" = some (some (.ref f__law_is_table)))
    (l__law_is_table : K.lookup f__law_is_table = some ⟨oc__law_is_table, od__law_is_table, .func (PySem.W.fnOf "_law_is_table" "_law_is_table" (defArgs s__law_is_table) (defBody s__law_is_table) (defScope s__law_is_table) .none kV__law_is_table dc__law_is_table pm__law_is_table an__law_is_table cd__law_is_table ct__law_is_table), sl__law_is_table⟩)
    (c__law_is_table : PySem.W.codeIn K cd__law_is_table "_law_is_table" = true)
    (k__law_is_table : PySem.W.keepIn K (.ref f__law_is_table) = true)
    (a_law : PySem.W.nsIn K mainGlobals "law" = some (some (.ref f_law)))
    (l_law : K.lookup f_law = some ⟨oc_law, od_law, .func (PySem.W.fnOf "law" "law" (defArgs s_law) (defBody s_law) (defScope s_law) .none kV_law dc_law pm_law an_law cd_law ct_law), sl_law⟩)
    (c_law : PySem.W.codeIn K cd_law "law" = true)
    (k_law : PySem.W.keepIn K (.ref f_law) = true)
    (aC : PySem.W.nsIn K mainGlobals "Cabinet" = some (some (.ref C)))
    (pg : PySem.W.plainGet K C Str.empty = true)
    (hd : PySem.W.hasDictIn K C = true)
    (po : PySem.W.plainOver K C = true)
    (sa : PySem.W.findIn K (.ref C) "__setattr__" = some (some (.builtin "object.__setattr__")))
    (mk : PySem.W.makesIn K C = true)
    (kc : PySem.W.keepIn K (.ref C) = true)
    (nD : PySem.W.findIn K (.ref C) "_drawers" = some none)
    (nB : PySem.W.findIn K (.ref C) "_bars" = some none)
    (a_Cabinet___init__ : PySem.W.findIn K (.ref C) "__init__" = some (some (.ref f_Cabinet___init__)))
    (l_Cabinet___init__ : K.lookup f_Cabinet___init__ = some ⟨oc_Cabinet___init__, od_Cabinet___init__, .func (PySem.W.fnOf "__init__" "Cabinet.__init__" (defArgs sInit) (defBody sInit) (defScope sInit) .none kV_Cabinet___init__ dc_Cabinet___init__ pm_Cabinet___init__ an_Cabinet___init__ cd_Cabinet___init__ ct_Cabinet___init__), sl_Cabinet___init__⟩)
    (c_Cabinet___init__ : PySem.W.codeIn K cd_Cabinet___init__ "Cabinet.__init__" = true)
    (k_Cabinet___init__ : PySem.W.keepIn K (.ref f_Cabinet___init__) = true)
    (i_init : PySem.W.isFn K (.ref f_Cabinet___init__) = true)
    (pa_drawers : PySem.W.findIn K (.ref C) "drawers" = some (some (.ref p_drawers)))
    (pg_drawers : PySem.W.specialIn K (.ref p_drawers) "__get__" = some (some (.builtin "property.__get__")))
    (pt_drawers : PySem.W.takesIn K (.ref p_drawers) = some true)
    (pr_drawers : PySem.W.recIn K p_drawers "property" = some (.ref f_Cabinet_drawers :: rest_drawers))
    (l_Cabinet_drawers : K.lookup f_Cabinet_drawers = some ⟨oc_Cabinet_drawers, od_Cabinet_drawers, .func (PySem.W.fnOf "drawers" "Cabinet.drawers" (defArgs sDrawers) (defBody sDrawers) (defScope sDrawers) .none kV_Cabinet_drawers dc_Cabinet_drawers pm_Cabinet_drawers an_Cabinet_drawers cd_Cabinet_drawers ct_Cabinet_drawers), sl_Cabinet_drawers⟩)
    (c_Cabinet_drawers : PySem.W.codeIn K cd_Cabinet_drawers "Cabinet.drawers" = true)
    (k_Cabinet_drawers : PySem.W.keepIn K (.ref f_Cabinet_drawers) = true)
    (pa_bars : PySem.W.findIn K (.ref C) "bars" = some (some (.ref p_bars)))
    (pg_bars : PySem.W.specialIn K (.ref p_bars) "__get__" = some (some (.builtin "property.__get__")))
    (pt_bars : PySem.W.takesIn K (.ref p_bars) = some true)
    (pr_bars : PySem.W.recIn K p_bars "property" = some (.ref f_Cabinet_bars :: rest_bars))
    (l_Cabinet_bars : K.lookup f_Cabinet_bars = some ⟨oc_Cabinet_bars, od_Cabinet_bars, .func (PySem.W.fnOf "bars" "Cabinet.bars" (defArgs sBars) (defBody sBars) (defScope sBars) .none kV_Cabinet_bars dc_Cabinet_bars pm_Cabinet_bars an_Cabinet_bars cd_Cabinet_bars ct_Cabinet_bars), sl_Cabinet_bars⟩)
    (c_Cabinet_bars : PySem.W.codeIn K cd_Cabinet_bars "Cabinet.bars" = true)
    (k_Cabinet_bars : PySem.W.keepIn K (.ref f_Cabinet_bars) = true)
    (ci1 : PySem.W.findIn K (.ref C) "__class__" = some (some (.builtin "object.__class__")))
    (ci2 : PySem.W.specialIn K (.builtin "object.__class__") "__get__" = some (some (.builtin "getset_descriptor.__get__")))
    (ci3 : PySem.W.takesIn K (.builtin "object.__class__") = some true)
    (ci4 : PySem.W.mroIn K C (.type "object") = some true)
    (ci5 : PySem.W.kitOne K (.ref C) (.ref C) = some true)
    (z_isinstance : PySem.W.nsIn K mainGlobals "isinstance" = some none)
    (z_int : PySem.W.nsIn K mainGlobals "int" = some none)
    (z_bool : PySem.W.nsIn K mainGlobals "bool" = some none)
    (z_tuple : PySem.W.nsIn K mainGlobals "tuple" = some none)
    (z_len : PySem.W.nsIn K mainGlobals "len" = some none)
    (z_enumerate : PySem.W.nsIn K mainGlobals "enumerate" = some none)
    (z_range : PySem.W.nsIn K mainGlobals "range" = some none)
    (z_sorted : PySem.W.nsIn K mainGlobals "sorted" = some none)
    (z_any : PySem.W.nsIn K mainGlobals "any" = some none)
    (z_all : PySem.W.nsIn K mainGlobals "all" = some none)
    (z_zip : PySem.W.nsIn K mainGlobals "zip" = some none)
    (z_list : PySem.W.nsIn K mainGlobals "list" = some none)
    (z_str : PySem.W.nsIn K mainGlobals "str" = some none)
    (aM : PySem.W.nsIn K mainGlobals "MOST_DRAWERS" = some (some (.int 7 tM)))
    (aW : PySem.W.nsIn K mainGlobals "WORDS" = some (some (.ref fW)))
    (lW : K.lookup fW = some ⟨.type "tuple", ddW, .seq #[.str "open" tW1, .str "shut" tW2] nW, slW⟩)
    (aS : PySem.W.nsIn K mainGlobals "SIGNS" = some (some (.ref fS)))
    (lS : K.lookup fS = some ⟨.type "dict", none, .dict esS nS, #[]⟩)
    (kS : PySem.W.KeysLit w.params esS.toList)
    (oS : PySem.W.nsIn K fS "open" = some (some (.str "o" tS1)))
    (sS : PySem.W.nsIn K fS "shut" = some (some (.str "s" tS2)))
    (aST : PySem.W.nsIn K mainGlobals "STANDING_SIGNS" = some (some (.str "os" tST)))
    : ∃ fd : FuncData, (∀ (s : Shared) (v : Value), BindsTo s fd ⟨[v], []⟩ [("_law_script", v)]) ∧ ∀ base : Heap, K.In base → base.Ns mainGlobals mg → FnOk l.prog w K mg base CX0 20 fa fd ["_law_script"] (spLaw09 K) := by
  have e := hfa.symm.trans (PySem.W.mg_of X G a_law)
  cases e
  have F_is_integer := fun_mk (st := sIsInt) l_is_integer c_is_integer k_is_integer
  have b_is_integer := F_is_integer.binds (ps := ["value"]) fun _ _ _ _ _ _ us hl => match us, hl with | [_], _ => rfl
  have g_is_integer := PySem.W.mg_of X G a_is_integer
  have F_is_drawer_count := fun_mk (st := sIsCount) l_is_drawer_count c_is_drawer_count k_is_drawer_count
  have b_is_drawer_count := F_is_drawer_count.binds (ps := ["value"]) fun _ _ _ _ _ _ us hl => match us, hl with | [_], _ => rfl
  have g_is_drawer_count := PySem.W.mg_of X G a_is_drawer_count
  have F_is_drawer := fun_mk (st := sIsDrawer) l_is_drawer c_is_drawer k_is_drawer
  have b_is_drawer := F_is_drawer.binds (ps := ["drawers", "value"]) fun _ _ _ _ _ _ us hl => match us, hl with | [_, _], _ => rfl
  have g_is_drawer := PySem.W.mg_of X G a_is_drawer
  have F_is_bar := fun_mk (st := sIsBar) l_is_bar c_is_bar k_is_bar
  have b_is_bar := F_is_bar.binds (ps := ["drawers", "value"]) fun _ _ _ _ _ _ us hl => match us, hl with | [_, _], _ => rfl
  have g_is_bar := PySem.W.mg_of X G a_is_bar
  have F_check_drawers := fun_mk (st := sCheckDrawers) l_check_drawers c_check_drawers k_check_drawers
  have b_check_drawers := F_check_drawers.binds (ps := ["drawers"]) fun _ _ _ _ _ _ us hl => match us, hl with | [_], _ => rfl
  have g_check_drawers := PySem.W.mg_of X G a_check_drawers
  have F_check_bars := fun_mk (st := sCheckBars) l_check_bars c_check_bars k_check_bars
  have b_check_bars := F_check_bars.binds (ps := ["drawers", "bars"]) fun _ _ _ _ _ _ us hl => match us, hl with | [_, _], _ => rfl
  have g_check_bars := PySem.W.mg_of X G a_check_bars
  have F__law_taken := fun_mk (st := sTaken) l__law_taken c__law_taken k__law_taken
  have b__law_taken := F__law_taken.binds (ps := ["_law_row", "_law_many"]) fun _ _ _ _ _ _ us hl => match us, hl with | [_, _], _ => rfl
  have g__law_taken := PySem.W.mg_of X G a__law_taken
  have F__law_parts := fun_mk (st := sParts) l__law_parts c__law_parts k__law_parts
  have b__law_parts := F__law_parts.binds (ps := ["_law_row", "_law_most"]) fun _ _ _ _ _ _ us hl => match us, hl with | [_, _], _ => rfl
  have g__law_parts := PySem.W.mg_of X G a__law_parts
  have F__law_made := fun_mk (st := sMade) l__law_made c__law_made k__law_made
  have b__law_made := F__law_made.binds (ps := ["_law_d"]) fun _ _ _ _ _ _ us hl => match us, hl with | [_], _ => rfl
  have g__law_made := PySem.W.mg_of X G a__law_made
  have F_hinders := fun_mk (st := s_hinders) l_hinders c_hinders k_hinders
  have b_hinders := F_hinders.binds (ps := ["bar", "standing", "drawer"]) fun _ _ _ _ _ _ us hl => match us, hl with | [_, _, _], _ => rfl
  have g_hinders := PySem.W.mg_of X G a_hinders
  have F_moved := fun_mk (st := s_moved) l_moved c_moved k_moved
  have b_moved := F_moved.binds (ps := ["standing", "drawer"]) fun _ _ _ _ _ _ us hl => match us, hl with | [_, _], _ => rfl
  have g_moved := PySem.W.mg_of X G a_moved
  have F_bars_against := fun_mk (st := s_bars_against) l_bars_against c_bars_against k_bars_against
  have b_bars_against := F_bars_against.binds (ps := ["cabinet", "standing", "drawer"]) fun _ _ _ _ _ _ us hl => match us, hl with | [_, _, _], _ => rfl
  have g_bars_against := PySem.W.mg_of X G a_bars_against
  have F_goes := fun_mk (st := s_goes) l_goes c_goes k_goes
  have b_goes := F_goes.binds (ps := ["cabinet", "standing", "drawer"]) fun _ _ _ _ _ _ us hl => match us, hl with | [_, _, _], _ => rfl
  have g_goes := PySem.W.mg_of X G a_goes
  have F_free_drawers := fun_mk (st := s_free_drawers) l_free_drawers c_free_drawers k_free_drawers
  have b_free_drawers := F_free_drawers.binds (ps := ["cabinet", "standing"]) fun _ _ _ _ _ _ us hl => match us, hl with | [_, _], _ => rfl
  have g_free_drawers := PySem.W.mg_of X G a_free_drawers
  have F__law_hold := fun_mk (st := s__law_hold) l__law_hold c__law_hold k__law_hold
  have b__law_hold := F__law_hold.binds (ps := ["_law_bar", "_law_standing", "_law_drawer"]) fun _ _ _ _ _ _ us hl => match us, hl with | [_, _, _], _ => rfl
  have g__law_hold := PySem.W.mg_of X G a__law_hold
  have F__law_free := fun_mk (st := s__law_free) l__law_free c__law_free k__law_free
  have b__law_free := F__law_free.binds (ps := ["_law_d", "_law_standing"]) fun _ _ _ _ _ _ us hl => match us, hl with | [_, _], _ => rfl
  have g__law_free := PySem.W.mg_of X G a__law_free
  have F__law_moved := fun_mk (st := s__law_moved) l__law_moved c__law_moved k__law_moved
  have b__law_moved := F__law_moved.binds (ps := ["_law_standing", "_law_drawer"]) fun _ _ _ _ _ _ us hl => match us, hl with | [_, _], _ => rfl
  have g__law_moved := PySem.W.mg_of X G a__law_moved
  have F__law_pattern := fun_mk (st := s__law_pattern) l__law_pattern c__law_pattern k__law_pattern
  have b__law_pattern := F__law_pattern.binds (ps := ["_law_row", "_law_many", "_law_signs"]) fun _ _ _ _ _ _ us hl => match us, hl with | [_, _, _], _ => rfl
  have g__law_pattern := PySem.W.mg_of X G a__law_pattern
  have F_has_signs := fun_mk (st := s_has_signs) l_has_signs c_has_signs k_has_signs
  have b_has_signs := F_has_signs.binds (ps := ["drawers", "value", "signs"]) fun _ _ _ _ _ _ us hl => match us, hl with | [_, _, _], _ => rfl
  have g_has_signs := PySem.W.mg_of X G a_has_signs
  have F_is_standing := fun_mk (st := s_is_standing) l_is_standing c_is_standing k_is_standing
  have b_is_standing := F_is_standing.binds (ps := ["drawers", "value"]) fun _ _ _ _ _ _ us hl => match us, hl with | [_, _], _ => rfl
  have g_is_standing := PySem.W.mg_of X G a_is_standing
  have F_check_cabinet := fun_mk (st := s_check_cabinet) l_check_cabinet c_check_cabinet k_check_cabinet
  have b_check_cabinet := F_check_cabinet.binds (ps := ["cabinet"]) fun _ _ _ _ _ _ us hl => match us, hl with | [_], _ => rfl
  have g_check_cabinet := PySem.W.mg_of X G a_check_cabinet
  have F_first_standing := fun_mk (st := s_first_standing) l_first_standing c_first_standing k_first_standing
  have b_first_standing := F_first_standing.binds (ps := ["drawers"]) fun _ _ _ _ _ _ us hl => match us, hl with | [_], _ => rfl
  have g_first_standing := PySem.W.mg_of X G a_first_standing
  have F_fits := fun_mk (st := s_fits) l_fits c_fits k_fits
  have b_fits := F_fits.binds (ps := ["standing", "pattern"]) fun _ _ _ _ _ _ us hl => match us, hl with | [_, _], _ => rfl
  have g_fits := PySem.W.mg_of X G a_fits
  have F_rows_from := fun_mk (st := s_rows_from) l_rows_from c_rows_from k_rows_from
  have b_rows_from := F_rows_from.binds (ps := ["cabinet", "standing"]) fun _ _ _ _ _ _ us hl => match us, hl with | [_, _], _ => rfl
  have g_rows_from := PySem.W.mg_of X G a_rows_from
  have F_first_rows := fun_mk (st := s_first_rows) l_first_rows c_first_rows k_first_rows
  have b_first_rows := F_first_rows.binds (ps := ["cabinet"]) fun _ _ _ _ _ _ us hl => match us, hl with | [_], _ => rfl
  have g_first_rows := PySem.W.mg_of X G a_first_rows
  have F_first_row_to := fun_mk (st := s_first_row_to) l_first_row_to c_first_row_to k_first_row_to
  have b_first_row_to := F_first_row_to.binds (ps := ["cabinet", "standing", "pattern"]) fun _ _ _ _ _ _ us hl => match us, hl with | [_, _, _], _ => rfl
  have g_first_row_to := PySem.W.mg_of X G a_first_row_to
  have F_reached := fun_mk (st := s_reached) l_reached c_reached k_reached
  have b_reached := F_reached.binds (ps := ["cabinet"]) fun _ _ _ _ _ _ us hl => match us, hl with | [_], _ => rfl
  have g_reached := PySem.W.mg_of X G a_reached
  have F__law_rows := fun_mk (st := s__law_rows) l__law_rows c__law_rows k__law_rows
  have b__law_rows := F__law_rows.binds (ps := ["_law_d", "_law_begin"]) fun _ _ _ _ _ _ us hl => match us, hl with | [_, _], _ => rfl
  have g__law_rows := PySem.W.mg_of X G a__law_rows
  have F__law_all := fun_mk (st := s__law_all) l__law_all c__law_all k__law_all
  have b__law_all := F__law_all.binds (ps := ["_law_many"]) fun _ _ _ _ _ _ us hl => match us, hl with | [_], _ => rfl
  have g__law_all := PySem.W.mg_of X G a__law_all
  have F_is_set := fun_mk (st := s_is_set) l_is_set c_is_set k_is_set
  have b_is_set := F_is_set.binds (ps := ["drawers", "value"]) fun _ _ _ _ _ _ us hl => match us, hl with | [_, _], _ => rfl
  have g_is_set := PySem.W.mg_of X G a_is_set
  have F_check_set := fun_mk (st := s_check_set) l_check_set c_check_set k_check_set
  have b_check_set := F_check_set.binds (ps := ["cabinet", "some"]) fun _ _ _ _ _ _ us hl => match us, hl with | [_, _], _ => rfl
  have g_check_set := PySem.W.mg_of X G a_check_set
  have F_open_pattern := fun_mk (st := s_open_pattern) l_open_pattern c_open_pattern k_open_pattern
  have b_open_pattern := F_open_pattern.binds (ps := ["cabinet", "some"]) fun _ _ _ _ _ _ us hl => match us, hl with | [_, _], _ => rfl
  have g_open_pattern := PySem.W.mg_of X G a_open_pattern
  have F_any_fits := fun_mk (st := s_any_fits) l_any_fits c_any_fits k_any_fits
  have b_any_fits := F_any_fits.binds (ps := ["standings", "pattern"]) fun _ _ _ _ _ _ us hl => match us, hl with | [_, _], _ => rfl
  have g_any_fits := PySem.W.mg_of X G a_any_fits
  have F_open_together := fun_mk (st := s_open_together) l_open_together c_open_together k_open_together
  have b_open_together := F_open_together.binds (ps := ["cabinet", "some"]) fun _ _ _ _ _ _ us hl => match us, hl with | [_, _], _ => rfl
  have g_open_together := PySem.W.mg_of X G a_open_together
  have F_is_closed := fun_mk (st := s_is_closed) l_is_closed c_is_closed k_is_closed
  have b_is_closed := F_is_closed.binds (ps := ["cabinet", "standings"]) fun _ _ _ _ _ _ us hl => match us, hl with | [_, _], _ => rfl
  have g_is_closed := PySem.W.mg_of X G a_is_closed
  have F_paper := fun_mk (st := s_paper) l_paper c_paper k_paper
  have b_paper := F_paper.binds (ps := ["cabinet", "some"]) fun _ _ _ _ _ _ us hl => match us, hl with | [_, _], _ => rfl
  have g_paper := PySem.W.mg_of X G a_paper
  have F_right_paper := fun_mk (st := s_right_paper) l_right_paper c_right_paper k_right_paper
  have b_right_paper := F_right_paper.binds (ps := ["cabinet", "some", "value"]) fun _ _ _ _ _ _ us hl => match us, hl with | [_, _, _], _ => rfl
  have g_right_paper := PySem.W.mg_of X G a_right_paper
  have F__law_is_table := fun_mk (st := s__law_is_table) l__law_is_table c__law_is_table k__law_is_table
  have b__law_is_table := F__law_is_table.binds (ps := ["_law_d", "_law_some", "_law_value"]) fun _ _ _ _ _ _ us hl => match us, hl with | [_, _, _], _ => rfl
  have g__law_is_table := PySem.W.mg_of X G a__law_is_table
  have F_law := fun_mk (st := s_law) l_law c_law k_law
  have b_law := F_law.binds (ps := ["_law_script"]) fun _ _ _ _ _ _ us hl => match us, hl with | [_], _ => rfl
  have g_law := PySem.W.mg_of X G a_law
  have F_Cabinet___init__ := fun_mk (st := sInit) l_Cabinet___init__ c_Cabinet___init__ k_Cabinet___init__
  have b_Cabinet___init__ := F_Cabinet___init__.binds (ps := ["self", "drawers", "bars"]) fun _ _ _ _ _ _ us hl => match us, hl with | [_, _, _], _ => rfl
  have F_Cabinet_drawers := fun_mk (st := sDrawers) l_Cabinet_drawers c_Cabinet_drawers k_Cabinet_drawers
  have b_Cabinet_drawers := F_Cabinet_drawers.binds (ps := ["self"]) fun _ _ _ _ _ _ us hl => match us, hl with | [_], _ => rfl
  have F_Cabinet_bars := fun_mk (st := sBars) l_Cabinet_bars c_Cabinet_bars k_Cabinet_bars
  have b_Cabinet_bars := F_Cabinet_bars.binds (ps := ["self"]) fun _ _ _ _ _ _ us hl => match us, hl with | [_], _ => rfl
  have TC : CabT K mg C := ⟨⟨pg, hd, po, sa⟩, nD, nB, PySem.W.mg_of X G aC⟩
  have MC : Mk K C f_Cabinet___init__ := ⟨mk, a_Cabinet___init__, i_init, kc⟩
  have IC : CabI K mg C := ⟨⟨pg, hd, po, sa⟩, PySem.W.mg_of X G aC, ci1, ci2, ci3, ci4, ci5⟩
  have TB : Bt mg := ⟨PySem.W.mg_none_of X G z_isinstance, PySem.W.mg_none_of X G z_int, PySem.W.mg_none_of X G z_bool, PySem.W.mg_none_of X G z_tuple, PySem.W.mg_none_of X G z_len, PySem.W.mg_none_of X G z_enumerate, PySem.W.mg_none_of X G z_range, PySem.W.mg_none_of X G z_sorted⟩
  have n_isinstance := PySem.W.mg_none_of X G z_isinstance
  have n_int := PySem.W.mg_none_of X G z_int
  have n_bool := PySem.W.mg_none_of X G z_bool
  have n_tuple := PySem.W.mg_none_of X G z_tuple
  have n_len := PySem.W.mg_none_of X G z_len
  have n_enumerate := PySem.W.mg_none_of X G z_enumerate
  have n_range := PySem.W.mg_none_of X G z_range
  have n_sorted := PySem.W.mg_none_of X G z_sorted
  have n_any := PySem.W.mg_none_of X G z_any
  have n_all := PySem.W.mg_none_of X G z_all
  have n_zip := PySem.W.mg_none_of X G z_zip
  have n_list := PySem.W.mg_none_of X G z_list
  have n_str := PySem.W.mg_none_of X G z_str
  have gM := PySem.W.mg_of X G aM
  have gW := PySem.W.mg_of X G aW
  have hW : ∀ H, SqT K H fW [.str "open", .str "shut"] := fun H => .inr ⟨_, _, _, lW, rfl, rfl, by show 2 ≤ sizeLine; decide, .cons ⟨_, rfl⟩ (.cons ⟨_, rfl⟩ .nil)⟩
  have gS := PySem.W.mg_of X G aS
  have TS : SgT K w mg fS := ⟨gS, ⟨esS, nS, _, lS, kS, oS, _, rfl⟩, ⟨esS, nS, _, lS, kS, sS, _, rfl⟩⟩
  have gST := PySem.W.mg_of X G aST
  refine ⟨PySem.W.fnOf "law" "law" (defArgs s_law) (defBody s_law) (defScope s_law) .none kV_law dc_law pm_law an_law cd_law ct_law, fun s v => .of_eq rfl, fun base hKX hGX => ?_⟩
  have OD := ok_getD (P := l.prog) (w := w) (base := base) F_Cabinet_drawers TC
  have OB := ok_getB (P := l.prog) (w := w) (base := base) F_Cabinet_bars TC
  have CP : CabP l.prog w K mg base C := ⟨TC.cl, ⟨_, _, _, ⟨pa_drawers, pg_drawers, pt_drawers, ⟨_, pr_drawers⟩⟩, OD, b_Cabinet_drawers⟩, ⟨_, _, _, ⟨pa_bars, pg_bars, pt_bars, ⟨_, pr_bars⟩⟩, OB, b_Cabinet_bars⟩⟩
  have O__law_taken := ok_taken (P := l.prog) (w := w) (base := base) F__law_taken TB
  have O__law_parts := ok_parts F__law_parts TB O__law_taken g__law_taken k__law_taken b__law_taken
  have O_is_integer := ok_isInt (P := l.prog) (w := w) (base := base) F_is_integer TB
  have O_is_drawer_count := ok_isCount F_is_drawer_count TB O_is_integer g_is_integer k_is_integer b_is_integer ⟨_, gM⟩
  have O_check_drawers := ok_checkDrawers F_check_drawers O_is_drawer_count g_is_drawer_count k_is_drawer_count b_is_drawer_count
  have O_is_drawer := ok_isDrawer F_is_drawer TB O_is_integer g_is_integer k_is_integer b_is_integer
  have O_is_bar := ok_isBar F_is_bar TB O_is_drawer g_is_drawer k_is_drawer b_is_drawer ⟨fW, gW, hW⟩
  have O_check_bars := ok_checkBars F_check_bars TB O_is_bar g_is_bar k_is_bar b_is_bar
  have O_Cabinet___init__ := ok_init F_Cabinet___init__ TC O_check_drawers g_check_drawers k_check_drawers b_check_drawers O_check_bars g_check_bars k_check_bars b_check_bars
  have O__law_made := ok_made F__law_made TC MC O_Cabinet___init__ b_Cabinet___init__
  have O__law_hold := ok_lawHold (P := l.prog) (w := w) (mg := mg) (base := base) F__law_hold
  have O__law_free := ok_lawFree F__law_free TB O__law_hold g__law_hold k__law_hold b__law_hold n_any
  have O__law_moved := ok_lawMoved (P := l.prog) (w := w) (base := base) F__law_moved TB
  have O__law_rows := ok_lawRows F__law_rows O__law_free g__law_free k__law_free b__law_free O__law_moved g__law_moved k__law_moved b__law_moved
  have O__law_all := ok_lawAll (P := l.prog) (w := w) (base := base) F__law_all TB
  have O__law_pattern := ok_lawPattern F__law_pattern TB O__law_taken g__law_taken k__law_taken b__law_taken
  have O_check_cabinet := ok_ckCab (P := l.prog) (w := w) (base := base) F_check_cabinet TB IC
  have O_is_set := ok_isSet F_is_set TB n_all n_zip O_is_drawer g_is_drawer k_is_drawer b_is_drawer
  have O_check_set := ok_ckSet F_check_set CP O_is_set g_is_set k_is_set b_is_set
  have O_hinders := ok_hinders (P := l.prog) (base := base) F_hinders TS
  have O_bars_against := ok_against F_bars_against CP O_hinders g_hinders k_hinders b_hinders
  have O_goes := ok_goes F_goes O_bars_against g_bars_against k_bars_against b_bars_against
  have O_free_drawers := ok_freeDrawers F_free_drawers TB CP O_goes g_goes k_goes b_goes
  have O_moved := ok_moved (P := l.prog) (base := base) F_moved TS
  have O_rows_from := ok_rowsFrom F_rows_from TB O_free_drawers g_free_drawers k_free_drawers b_free_drawers O_moved g_moved k_moved b_moved
  have O_fits := ok_fits (P := l.prog) (w := w) (base := base) F_fits n_zip n_all
  have O_first_row_to := ok_firstRow F_first_row_to O_rows_from g_rows_from k_rows_from b_rows_from O_fits g_fits k_fits b_fits
  have O_first_standing := ok_first (P := l.prog) (base := base) F_first_standing TS
  have O_open_pattern := ok_openPat F_open_pattern TB TS CP
  have O_open_together := ok_openT F_open_together CP O_check_cabinet g_check_cabinet k_check_cabinet b_check_cabinet O_check_set g_check_set k_check_set b_check_set O_first_row_to g_first_row_to k_first_row_to b_first_row_to O_first_standing g_first_standing k_first_standing b_first_standing O_open_pattern g_open_pattern k_open_pattern b_open_pattern
  have O_first_rows := ok_firstRows F_first_rows CP O_rows_from g_rows_from k_rows_from b_rows_from O_first_standing g_first_standing k_first_standing b_first_standing
  have O_reached := ok_reachedA F_reached TB n_list O_check_cabinet g_check_cabinet k_check_cabinet b_check_cabinet O_first_rows g_first_rows k_first_rows b_first_rows
  have O_any_fits := ok_anyFits F_any_fits n_any O_fits g_fits k_fits b_fits
  have O_paper := ok_paper F_paper TB O_check_cabinet g_check_cabinet k_check_cabinet b_check_cabinet O_check_set g_check_set k_check_set b_check_set O_reached g_reached k_reached b_reached O_any_fits g_any_fits k_any_fits b_any_fits O_open_pattern g_open_pattern k_open_pattern b_open_pattern
  have O_has_signs := ok_hasSignsI (P := l.prog) (w := w) (base := base) F_has_signs TB n_str n_all
  have O_is_standing := ok_isStdI F_is_standing O_has_signs g_has_signs k_has_signs b_has_signs ⟨_, gST⟩
  have O_is_closed := ok_isClosed F_is_closed O_free_drawers g_free_drawers k_free_drawers b_free_drawers O_moved g_moved k_moved b_moved
  have O_right_paper := ok_rightPaper F_right_paper TB n_all CP O_check_cabinet g_check_cabinet k_check_cabinet b_check_cabinet O_check_set g_check_set k_check_set b_check_set O_is_standing g_is_standing k_is_standing b_is_standing O_any_fits g_any_fits k_any_fits b_any_fits O_open_pattern g_open_pattern k_open_pattern b_open_pattern O_first_standing g_first_standing k_first_standing b_first_standing O_is_closed g_is_closed k_is_closed b_is_closed
  have O__law_is_table := ok_isTable F__law_is_table TB n_all O__law_free g__law_free k__law_free b__law_free O__law_moved g__law_moved k__law_moved b__law_moved
  exact ok_law F_law TB n_list O__law_taken g__law_taken k__law_taken b__law_taken O__law_parts g__law_parts k__law_parts b__law_parts O__law_made g__law_made k__law_made b__law_made O__law_rows g__law_rows k__law_rows b__law_rows O__law_all g__law_all k__law_all b__law_all O__law_pattern g__law_pattern k__law_pattern b__law_pattern O_open_together g_open_together k_open_together b_open_together O_paper g_paper k_paper b_paper O_right_paper g_right_paper k_right_paper b_right_paper O__law_is_table g__law_is_table k__law_is_table b__law_is_table
theorem walk {l : PySem.W.OpenLaw} {q : Program} {loose : List Str} {XP : (Str → Option Value) → Heap → Prop} {YP : World → Heap → Prop} {d : DefRec} {K : Params → PySem.W.Frag} (hn : l.most = some 63) (hdf : d.params.defaults = [])
    (hY : ∀ (w : World) (h : Heap), YP w h → (K w.params).In h)
    (F : ∀ (w : World) (mg : Str → Option Value) (fa : Addr) (h : Heap), (K w.params).In h → h.Ns mainGlobals mg → mg d.name = some (.ref fa) →
      ∃ fd : FuncData, (∀ (s : Shared) (u : Value), BindsTo s fd ⟨[u], []⟩ [("_law_script", u)]) ∧ ∀ base : Heap, (K w.params).In base → base.Ns mainGlobals mg → FnOk l.prog w (K w.params) mg base CX0 20 fa fd ["_law_script"] (spLaw09 (K w.params))) :
    PySem.W.WalkO q loose XP YP l.row.toRowW d [] (fun f vs => PySem.call f vs) :=
  L2.walk_of (n := 63) (k := 20) (x := "_law_script") (CX := fun _ => CX0) (sp := fun w => spLaw09 (K w.params)) hn (by decide) hdf ⟨rfl, by decide, by decide⟩ hY F (fun _ _ a ns hl _ hS => ⟨a, ns, rfl, hS, hl, fun _ => rfl⟩) fun _ _ _ _ _ z => z
end DL


set_option Elab.async false
open PySem PySem.W PyProof.Rows in
set_option maxRecDepth 100000 in
set_option maxHeartbeats 0 in
theorem PySem.Challenge.cw_drawerlocks_k09_papers_holds : PySem.Challenge.rw_drawerlocks_k09_papers.Holds := by
  w_on; o_law; k_head; (case hw => w_witness2)
  k_fill
  refine DL.walk (l := PySem.Challenge.rw_drawerlocks_k09_papers) rfl rfl (fun w h Y => PySem.W.kIn_of Y) ?F
  case F =>
    intro w mg fa h KX G hmg
    refine' DL.all_mk KX G hmg ?a_is_integer ?l_is_integer ?c_is_integer ?k_is_integer ?a_is_drawer_count ?l_is_drawer_count ?c_is_drawer_count ?k_is_drawer_count ?a_is_drawer ?l_is_drawer ?c_is_drawer ?k_is_drawer ?a_is_bar ?l_is_bar ?c_is_bar ?k_is_bar ?a_check_drawers ?l_check_drawers ?c_check_drawers ?k_check_drawers ?a_check_bars ?l_check_bars ?c_check_bars ?k_check_bars ?a__law_taken ?l__law_taken ?c__law_taken ?k__law_taken ?a__law_parts ?l__law_parts ?c__law_parts ?k__law_parts ?a__law_made ?l__law_made ?c__law_made ?k__law_made ?a_hinders ?l_hinders ?c_hinders ?k_hinders ?a_moved ?l_moved ?c_moved ?k_moved ?a_bars_against ?l_bars_against ?c_bars_against ?k_bars_against ?a_goes ?l_goes ?c_goes ?k_goes ?a_free_drawers ?l_free_drawers ?c_free_drawers ?k_free_drawers ?a__law_hold ?l__law_hold ?c__law_hold ?k__law_hold ?a__law_free ?l__law_free ?c__law_free ?k__law_free ?a__law_moved ?l__law_moved ?c__law_moved ?k__law_moved ?a__law_pattern ?l__law_pattern ?c__law_pattern ?k__law_pattern ?a_has_signs ?l_has_signs ?c_has_signs ?k_has_signs ?a_is_standing ?l_is_standing ?c_is_standing ?k_is_standing ?a_check_cabinet ?l_check_cabinet ?c_check_cabinet ?k_check_cabinet ?a_first_standing ?l_first_standing ?c_first_standing ?k_first_standing ?a_fits ?l_fits ?c_fits ?k_fits ?a_rows_from ?l_rows_from ?c_rows_from ?k_rows_from ?a_first_rows ?l_first_rows ?c_first_rows ?k_first_rows ?a_first_row_to ?l_first_row_to ?c_first_row_to ?k_first_row_to ?a_reached ?l_reached ?c_reached ?k_reached ?a__law_rows ?l__law_rows ?c__law_rows ?k__law_rows ?a__law_all ?l__law_all ?c__law_all ?k__law_all ?a_is_set ?l_is_set ?c_is_set ?k_is_set ?a_check_set ?l_check_set ?c_check_set ?k_check_set ?a_open_pattern ?l_open_pattern ?c_open_pattern ?k_open_pattern ?a_any_fits ?l_any_fits ?c_any_fits ?k_any_fits ?a_open_together ?l_open_together ?c_open_together ?k_open_together ?a_is_closed ?l_is_closed ?c_is_closed ?k_is_closed ?a_paper ?l_paper ?c_paper ?k_paper ?a_right_paper ?l_right_paper ?c_right_paper ?k_right_paper ?a__law_is_table ?l__law_is_table ?c__law_is_table ?k__law_is_table ?a_law ?l_law ?c_law ?k_law ?aC ?pg ?hd ?po ?sa ?mk ?kc ?nD ?nB ?a_Cabinet___init__ ?l_Cabinet___init__ ?c_Cabinet___init__ ?k_Cabinet___init__ ?i_init ?pa_drawers ?pg_drawers ?pt_drawers ?pr_drawers ?l_Cabinet_drawers ?c_Cabinet_drawers ?k_Cabinet_drawers ?pa_bars ?pg_bars ?pt_bars ?pr_bars ?l_Cabinet_bars ?c_Cabinet_bars ?k_Cabinet_bars ?ci1 ?ci2 ?ci3 ?ci4 ?ci5 ?z_isinstance ?z_int ?z_bool ?z_tuple ?z_len ?z_enumerate ?z_range ?z_sorted ?z_any ?z_all ?z_zip ?z_list ?z_str ?aM ?aW ?lW ?aS ?lS ?kS ?oS ?sS ?aST
    (case a_is_integer => k_is)
    (case l_is_integer => k_is)
    (case c_is_integer => k_is)
    (case k_is_integer => k_is)
    (case a_is_drawer_count => k_is)
    (case l_is_drawer_count => k_is)
    (case c_is_drawer_count => k_is)
    (case k_is_drawer_count => k_is)
    (case a_is_drawer => k_is)
    (case l_is_drawer => k_is)
    (case c_is_drawer => k_is)
    (case k_is_drawer => k_is)
    (case a_is_bar => k_is)
    (case l_is_bar => k_is)
    (case c_is_bar => k_is)
    (case k_is_bar => k_is)
    (case a_check_drawers => k_is)
    (case l_check_drawers => k_is)
    (case c_check_drawers => k_is)
    (case k_check_drawers => k_is)
    (case a_check_bars => k_is)
    (case l_check_bars => k_is)
    (case c_check_bars => k_is)
    (case k_check_bars => k_is)
    (case a__law_taken => k_is)
    (case l__law_taken => k_is)
    (case c__law_taken => k_is)
    (case k__law_taken => k_is)
    (case a__law_parts => k_is)
    (case l__law_parts => k_is)
    (case c__law_parts => k_is)
    (case k__law_parts => k_is)
    (case a__law_made => k_is)
    (case l__law_made => k_is)
    (case c__law_made => k_is)
    (case k__law_made => k_is)
    (case a_hinders => k_is)
    (case l_hinders => k_is)
    (case c_hinders => k_is)
    (case k_hinders => k_is)
    (case a_moved => k_is)
    (case l_moved => k_is)
    (case c_moved => k_is)
    (case k_moved => k_is)
    (case a_bars_against => k_is)
    (case l_bars_against => k_is)
    (case c_bars_against => k_is)
    (case k_bars_against => k_is)
    (case a_goes => k_is)
    (case l_goes => k_is)
    (case c_goes => k_is)
    (case k_goes => k_is)
    (case a_free_drawers => k_is)
    (case l_free_drawers => k_is)
    (case c_free_drawers => k_is)
    (case k_free_drawers => k_is)
    (case a__law_hold => k_is)
    (case l__law_hold => k_is)
    (case c__law_hold => k_is)
    (case k__law_hold => k_is)
    (case a__law_free => k_is)
    (case l__law_free => k_is)
    (case c__law_free => k_is)
    (case k__law_free => k_is)
    (case a__law_moved => k_is)
    (case l__law_moved => k_is)
    (case c__law_moved => k_is)
    (case k__law_moved => k_is)
    (case a__law_pattern => k_is)
    (case l__law_pattern => k_is)
    (case c__law_pattern => k_is)
    (case k__law_pattern => k_is)
    (case a_has_signs => k_is)
    (case l_has_signs => k_is)
    (case c_has_signs => k_is)
    (case k_has_signs => k_is)
    (case a_is_standing => k_is)
    (case l_is_standing => k_is)
    (case c_is_standing => k_is)
    (case k_is_standing => k_is)
    (case a_check_cabinet => k_is)
    (case l_check_cabinet => k_is)
    (case c_check_cabinet => k_is)
    (case k_check_cabinet => k_is)
    (case a_first_standing => k_is)
    (case l_first_standing => k_is)
    (case c_first_standing => k_is)
    (case k_first_standing => k_is)
    (case a_fits => k_is)
    (case l_fits => k_is)
    (case c_fits => k_is)
    (case k_fits => k_is)
    (case a_rows_from => k_is)
    (case l_rows_from => k_is)
    (case c_rows_from => k_is)
    (case k_rows_from => k_is)
    (case a_first_rows => k_is)
    (case l_first_rows => k_is)
    (case c_first_rows => k_is)
    (case k_first_rows => k_is)
    (case a_first_row_to => k_is)
    (case l_first_row_to => k_is)
    (case c_first_row_to => k_is)
    (case k_first_row_to => k_is)
    (case a_reached => k_is)
    (case l_reached => k_is)
    (case c_reached => k_is)
    (case k_reached => k_is)
    (case a__law_rows => k_is)
    (case l__law_rows => k_is)
    (case c__law_rows => k_is)
    (case k__law_rows => k_is)
    (case a__law_all => k_is)
    (case l__law_all => k_is)
    (case c__law_all => k_is)
    (case k__law_all => k_is)
    (case a_is_set => k_is)
    (case l_is_set => k_is)
    (case c_is_set => k_is)
    (case k_is_set => k_is)
    (case a_check_set => k_is)
    (case l_check_set => k_is)
    (case c_check_set => k_is)
    (case k_check_set => k_is)
    (case a_open_pattern => k_is)
    (case l_open_pattern => k_is)
    (case c_open_pattern => k_is)
    (case k_open_pattern => k_is)
    (case a_any_fits => k_is)
    (case l_any_fits => k_is)
    (case c_any_fits => k_is)
    (case k_any_fits => k_is)
    (case a_open_together => k_is)
    (case l_open_together => k_is)
    (case c_open_together => k_is)
    (case k_open_together => k_is)
    (case a_is_closed => k_is)
    (case l_is_closed => k_is)
    (case c_is_closed => k_is)
    (case k_is_closed => k_is)
    (case a_paper => k_is)
    (case l_paper => k_is)
    (case c_paper => k_is)
    (case k_paper => k_is)
    (case a_right_paper => k_is)
    (case l_right_paper => k_is)
    (case c_right_paper => k_is)
    (case k_right_paper => k_is)
    (case a__law_is_table => k_is)
    (case l__law_is_table => k_is)
    (case c__law_is_table => k_is)
    (case k__law_is_table => k_is)
    (case a_law => k_is)
    (case l_law => k_is)
    (case c_law => k_is)
    (case k_law => k_is)
    (case aC => k_is)
    (case pg => k_is)
    (case hd => k_is)
    (case po => k_is)
    (case sa => k_is)
    (case mk => k_is)
    (case kc => k_is)
    (case nD => k_is)
    (case nB => k_is)
    (case a_Cabinet___init__ => k_is)
    (case l_Cabinet___init__ => k_is)
    (case c_Cabinet___init__ => k_is)
    (case k_Cabinet___init__ => k_is)
    (case i_init => k_is)
    (case pa_drawers => k_is)
    (case pg_drawers => k_is)
    (case pt_drawers => k_is)
    (case pr_drawers => k_is)
    (case l_Cabinet_drawers => k_is)
    (case c_Cabinet_drawers => k_is)
    (case k_Cabinet_drawers => k_is)
    (case pa_bars => k_is)
    (case pg_bars => k_is)
    (case pt_bars => k_is)
    (case pr_bars => k_is)
    (case l_Cabinet_bars => k_is)
    (case c_Cabinet_bars => k_is)
    (case k_Cabinet_bars => k_is)
    (case ci1 => first | k_is | rfl)
    (case ci2 => first | k_is | rfl)
    (case ci3 => first | k_is | rfl)
    (case ci4 => first | k_is | rfl)
    (case ci5 => first | k_is | rfl)
    (case z_isinstance => k_is)
    (case z_int => k_is)
    (case z_bool => k_is)
    (case z_tuple => k_is)
    (case z_len => k_is)
    (case z_enumerate => k_is)
    (case z_range => k_is)
    (case z_sorted => k_is)
    (case z_any => k_is)
    (case z_all => k_is)
    (case z_zip => k_is)
    (case z_list => k_is)
    (case z_str => k_is)
    (case aM => k_is)
    (case aW => k_is)
    (case lW => k_is)
    (case aS => k_is)
    (case lS => k_is)
    (case kS => exact ⟨⟨_, _, rfl, rfl⟩, ⟨_, _, rfl, rfl⟩, True.intro⟩)
    (case oS => k_is)
    (case sS => k_is)
    (case aST => k_is)
