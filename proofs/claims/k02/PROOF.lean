import PyProof.Rows.All
import Wide.All
import OpenK.AllK
import Wide.FinOn
import HandS.ForMost
import HandS.ForExc
import HandS.TupLe
import HandS.TupAny
import HandS.SortOrd
import HandS.SortRule
import HandS.IsInst
import HandS.Conv
import HandS.Wide
import HandS.Property
import HandS.Deep
import HandS.Walk
import HandS.Zip
import HandS.Flow
import KE.GoesEnum
import PySem.Challenge.RW_drawerlocks_k02_no_cabinets
import KE.KSuper
import KE.KExcSuper
import HandS.ClsMeth
import HandS.ExcInit
import HandS.WordsExc
import HandS.FStr
import HandS.Replace
import HandS.More
import HandS.TryOnly
import HandS.SlotsOwn
import KE.GoesZip
import HandS.ExcOwn
import HandS.TryMany
import HandS.ExcField
import HandS.TupMul
set_option Elab.async false
set_option maxRecDepth 100000
namespace DL
open PySem PySem.Spec PyProof.Rows L2
/-! ### bars: four parts; the words as truth values (true: shut) -/
structure Bar where
  d : Int
  w : Bool
  o : Int
  t : Bool
deriving DecidableEq
def wd (b : Bool) : Str := if b = true then "shut" else "open"
theorem wd_inj : ∀ {a b : Bool}, wd a = wd b → a = b := by decide +kernel
theorem wd_lt : ∀ a b : Bool, decide ((wd a).cps.toList < (wd b).cps.toList) = (!a && b) := by decide +kernel
theorem wd_dec : ∀ a : Bool, decide (wd a = "shut") = a := by decide +kernel
def Bar.key (b : Bar) : List Key := [.inl b.d, .inr (wd b.w), .inl b.o, .inr (wd b.t)]
def Bar.vs (b : Bar) : List V := [.int b.d, .str (wd b.w), .int b.o, .str (wd b.t)]
theorem Bar.key_vs (b : Bar) : b.key.map kV = b.vs := rfl
def b2n (b : Bool) : Int := if b = true then 1 else 0
theorem b2n_le (b : Bool) : 0 ≤ b2n b ∧ b2n b ≤ 1 := by cases b <;> decide
theorem b2n_inj {a b : Bool} (h : b2n a = b2n b) : a = b := by revert h; revert a b; decide
def Bar.code (b : Bar) : Int := ((b.d * 2 + b2n b.w) * 8 + b.o) * 2 + b2n b.t
/-- the parts lie where a bar of at most eight drawers has them -/
def Bar.low (b : Bar) : Prop := 0 ≤ b.d ∧ b.d < 8 ∧ 0 ≤ b.o ∧ b.o < 8
theorem Bar.ext4 {a b : Bar} (h1 : a.d = b.d) (h2 : a.w = b.w) (h3 : a.o = b.o) (h4 : a.t = b.t) : a = b := by
  cases a; cases b; simp only at h1 h2 h3 h4; subst h1 h2 h3 h4; rfl
theorem Bar.code_inj {a b : Bar} (ha : a.low) (hb : b.low) (h : a.code = b.code) : a = b := by
  unfold Bar.low at ha hb
  unfold Bar.code at h
  have w1 := b2n_le a.w; have w2 := b2n_le b.w; have t1 := b2n_le a.t; have t2 := b2n_le b.t
  exact Bar.ext4 (by omega) (b2n_inj (by omega)) (by omega) (b2n_inj (by omega))
theorem Bar.key_inj {a b : Bar} (h : a.key = b.key) : a = b := by
  unfold Bar.key at h
  injection h with h1 h; injection h with h2 h; injection h with h3 h; injection h with h4 _
  injection h1 with h1; injection h2 with h2; injection h3 with h3; injection h4 with h4
  exact Bar.ext4 h1 (wd_inj h2) h3 (wd_inj h4)
theorem Bar.vs_inj {a b : Bar} (h : a.vs = b.vs) : a = b := by
  unfold Bar.vs at h
  injection h with h1 h; injection h with h2 h; injection h with h3 h; injection h with h4 _
  injection h1 with h1; injection h2 with h2; injection h3 with h3; injection h4 with h4
  exact Bar.ext4 h1 (wd_inj h2) h3 (wd_inj h4)
/-- what a < b of two such tuples comes to -/
def Bar.ltb (a b : Bar) : Bool := if a.d = b.d then (if a.w = b.w then (if a.o = b.o then (!a.t && b.t) else decide (a.o < b.o)) else (!a.w && b.w)) else decide (a.d < b.d)
theorem Bar.ltb_code {a b : Bar} (ha : a.low) (hb : b.low) : a.ltb b = decide (a.code < b.code) := by
  obtain ⟨ad, aw, ao, at'⟩ := a
  obtain ⟨bd, bw, bo, bt⟩ := b
  unfold Bar.low at ha hb
  unfold Bar.ltb Bar.code b2n
  simp only at ha hb ⊢
  by_cases h1 : ad = bd
  · rw [if_pos h1]
    by_cases h2 : aw = bw
    · rw [if_pos h2]
      by_cases h3 : ao = bo
      · rw [if_pos h3]
        subst h1 h2 h3
        cases at' <;> cases bt <;> simp <;> omega
      · rw [if_neg h3]
        subst h1 h2
        cases at' <;> cases bt <;> simp <;> omega
    · rw [if_neg h2]
      subst h1
      cases aw <;> cases bw <;> cases at' <;> cases bt <;> simp at h2 ⊢ <;> omega
  · rw [if_neg h1]
    cases aw <;> cases bw <;> cases at' <;> cases bt <;> simp <;> omega
/-- a bar read back -/
def barOf : List V → Bar
  | [.int d, .str w, .int o, .str t] => ⟨d, decide (w = "shut"), o, decide (t = "shut")⟩
  | _ => ⟨0, false, 0, false⟩
theorem barOf_vs (b : Bar) : barOf b.vs = b := by
  show (⟨b.d, decide (wd b.w = "shut"), b.o, decide (wd b.t = "shut")⟩ : Bar) = b
  rw [wd_dec, wd_dec]
/-- the bar that stands at an address of the heap -/
def barAt (H : Hp) : V → Bar
  | .ref a => (match H a with | some (.tup xs) => barOf xs | _ => ⟨0, false, 0, false⟩)
  | _ => ⟨0, false, 0, false⟩
theorem barAt_of {H : Hp} {a : Addr} {b : Bar} (h : H a = some (.tup b.vs)) : barAt H (.ref a) = b := by
  show (match H a with | some (.tup xs) => barOf xs | _ => ⟨0, false, 0, false⟩) = b
  rw [h]; exact barOf_vs b
/-! ### sorted(d), d a dict whose keys are such tuples -/
def IsBarV (h : Heap) (v : Value) (b : Bar) : Prop := ∃ a o t1 t2 t3 t4 n, v = .ref a ∧ h.get? a = some o ∧ o.cls = .type "tuple" ∧ o.data = .seq #[.int b.d t1, .str (wd b.w) t2, .int b.o t3, .str (wd b.t) t4] n
theorem IsBarV.keeps {h h' : Heap} {v : Value} {b : Bar} (p : IsBarV h v b) (k : ∀ c o, h.get? c = some o → o.cls = .type "tuple" → h'.get? c = some o) : IsBarV h' v b := by
  obtain ⟨a, o, t1, t2, t3, t4, n, e, ho, hc, hd⟩ := p
  exact ⟨a, o, t1, t2, t3, t4, n, e, k _ _ ho hc, hc, hd⟩
section
variable {prog : Program} {w : World} {A : Around} {E : Value → Shared → Prop} {s : Shared}
theorem oneLt_words (c : Bool) {p q : Str} {t u : Tok} {Q : Bool → Shared → Prop} (h : c = false) (hq : Q (decide (p.cps.toList < q.cps.toList)) s) : wpAny (model prog w) A (oneLt' c (.str p t) (.str q u)) Q E s := by
  subst h
  exact PySem.W.kat_one _ _ (PyProof.Rows.lt_str hq)
theorem bar_cmp {vs : List Value} {kb : Value → Bar} (hp : ∀ v ∈ vs, IsBarV s.heap v (kb v) ∧ (kb v).low) : SrtO.Cmp prog w A s (tuples' true) (fun p => p.1 ∈ vs) (SrtO.lt2 fun v u => decide ((kb v).code < (kb u).code)) := by
  intro p q hm hm'
  obtain ⟨h1, l1⟩ := hp _ hm
  obtain ⟨h2, l2⟩ := hp _ hm'
  show wpAny (model prog w) A (keyLt' (tuples' true) p.1 q.1) (fun r s' => s' = s ∧ r = decide ((kb p.1).code < (kb q.1).code)) (fun _ _ => False) s
  generalize kb p.1 = x at h1 l1 ⊢
  generalize kb q.1 = y at h2 l2 ⊢
  rw [← Bar.ltb_code l1 l2]
  obtain ⟨a, o, t1, t2, t3, t4, n, e, ho, hc, hd⟩ := h1
  obtain ⟨a', o', t1', t2', t3', t4', n', e', ho', hc', hd'⟩ := h2
  rw [e, e']
  refine PySem.W.kat_lt ho hd ho' hd' ?_
  show PySem.W.KatLex prog w A true (decide (4 < 4)) _ [(.int x.d t1, .int y.d t1'), (.str (wd x.w) t2, .str (wd y.w) t2'), (.int x.o t3, .int y.o t3'), (.str (wd x.t) t4, .str (wd y.t) t4')] 0 s
  refine PySem.W.kat_cons (SeqAt.EqAt.int_int x.d t1 y.d t1' prog w _ _ ?_)
  refine PySem.W.kat_go (fun e1 => ?_) (fun e1 => ?_)
  · have e1' : x.d = y.d := by simpa using e1
    refine PySem.W.kat_yes (PySem.W.kat_cons (wpAny_eqBool_str ?_))
    refine PySem.W.kat_go (fun e2 => ?_) (fun e2 => ?_)
    · have e2' : x.w = y.w := wd_inj (by simpa using e2)
      refine PySem.W.kat_yes (PySem.W.kat_cons (SeqAt.EqAt.int_int x.o t3 y.o t3' prog w _ _ ?_))
      refine PySem.W.kat_go (fun e3 => ?_) (fun e3 => ?_)
      · have e3' : x.o = y.o := by simpa using e3
        refine PySem.W.kat_yes (PySem.W.kat_cons (wpAny_eqBool_str ?_))
        refine PySem.W.kat_go (fun e4 => ?_) (fun e4 => ?_)
        · have e4' : x.t = y.t := wd_inj (by simpa using e4)
          refine PySem.W.kat_yes (PySem.W.kat_nil ⟨rfl, ?_⟩)
          unfold Bar.ltb
          rw [if_pos e1', if_pos e2', if_pos e3', e4']
          cases y.t <;> rfl
        · refine PySem.W.kat_no (oneLt_words _ rfl ⟨rfl, ?_⟩)
          unfold Bar.ltb
          rw [if_pos e1', if_pos e2', if_pos e3', wd_lt]
      · have e3' : ¬ x.o = y.o := by simpa using e3
        refine PySem.W.kat_no (PySem.W.kat_one _ _ (PyProof.Rows.lt_int ?_))
        refine (show s = s ∧ decide (x.o < y.o) = x.ltb y from ⟨rfl, ?_⟩)
        unfold Bar.ltb
        rw [if_pos e1', if_pos e2', if_neg e3']
    · have e2' : ¬ x.w = y.w := fun z => by rw [z] at e2; simp at e2
      refine PySem.W.kat_no (oneLt_words _ rfl ⟨rfl, ?_⟩)
      unfold Bar.ltb
      rw [if_pos e1', if_neg e2', wd_lt]
  · have e1' : ¬ x.d = y.d := by simpa using e1
    refine PySem.W.kat_no (oneLt_int ⟨rfl, ?_⟩)
    unfold Bar.ltb
    rw [if_neg e1']
theorem bar_firsts {h : Heap} : ∀ {vs : List Value}, (∀ v ∈ vs, ∃ b, IsBarV h v b) → ∃ fs : List Value, PySem.W.KatTups h vs fs ∧ fs.length = vs.length ∧ ∀ f ∈ fs, ∃ x t, f = Value.int x t
  | [], _ => ⟨[], PySem.W.KatTups.nil, rfl, fun _ hm => by simp at hm⟩
  | v :: vs, hp => by
    obtain ⟨fs, h1, h2, h3⟩ := bar_firsts (vs := vs) fun v' hm => hp v' (List.mem_cons_of_mem _ hm)
    obtain ⟨b, a, o, t1, t2, t3, t4, n, e, ho, hc, hd⟩ := hp v (List.mem_cons_self ..)
    subst e
    refine ⟨.int b.d t1 :: fs, PySem.W.KatTups.cons ho hc hd rfl h1, by rw [List.length_cons, List.length_cons, h2], fun f hm => ?_⟩
    rcases List.mem_cons.mp hm with rfl | hm
    · exact ⟨b.d, t1, rfl⟩
    · exact h3 f hm
theorem swo_code (kb : Value → Bar) : SrtO.Swo fun v u => decide ((kb v).code < (kb u).code) := by
  refine ⟨fun x y h => ?_, fun x y z h1 h2 => ?_⟩
  · have a := of_decide_eq_true h
    exact decide_eq_false (by omega)
  · have a := of_decide_eq_false h1
    have b := of_decide_eq_false h2
    exact decide_eq_false (by omega)
theorem bars_sortableO {a : Addr} {vs : List Value} {kb : Value → Bar} (h0 : 0 < vs.length) (hp : ∀ v ∈ vs, IsBarV s.heap v (kb v) ∧ (kb v).low) (ha : ∀ o, s.heap.get? a = some o → o.cls ≠ .type "tuple") :
    SrtO.SortableO prog w A s a vs fun v u => decide ((kb v).code < (kb u).code) := by
  intro h' keep
  have hp' : ∀ v ∈ vs, IsBarV h' v (kb v) ∧ (kb v).low := fun v hm => ⟨(hp v hm).1.keeps fun b o e c => keep b o (fun z => by subst z; exact ha o e c) e, (hp v hm).2⟩
  obtain ⟨fs, h1, h2, h3⟩ := bar_firsts fun v hm => ⟨_, (hp' v hm).1⟩
  refine ⟨tuples' true, fun Q E hq => ?_, bar_cmp hp'⟩
  refine PySem.W.kat_kind (T := .type "int") h1 (by omega) (fun f hm => ?_) (by rfl) ?_
  · obtain ⟨x, t, rfl⟩ := h3 f hm
    exact PySem.W.Looks.now
  · have e : (Value.type "int" != Value.type "tuple") = true := by first | decide +kernel | rfl | decide
    rw [e]
    exact hq
end
/-- sorted(d): the keys' own tuples, by their codes -/
def rSortB : List V → Hp → VK → Prop := fun xs H Q => ∃ (d : Addr) (kvs : List (List Key × V)) (bs : List Bar), xs = [V.ref d] ∧ Rd H d (.dT kvs) ∧ kvs.map (·.1) = bs.map Bar.key ∧ (∀ b ∈ bs, b.low) ∧
  ∀ (ks : List (Addr × Bar)) (p : Addr), (∀ k ∈ ks, H k.1 = some (.tup k.2.vs)) → (ks.map (·.2)).Perm bs → (ks.map (·.2)).Pairwise (fun x y => x.code ≤ y.code) → H p = none → Q (.ref p) (upd H p (.lst (ks.map fun k => V.ref k.1)))
theorem keys_bars : ∀ {H : Hp} {kvs : List (List Key × V)} {as : List Addr} {bs : List Bar}, IsKeys H kvs as → kvs.map (·.1) = bs.map Bar.key → (∀ a ∈ as, ∃ b ∈ bs, H a = some (.tup b.vs)) ∧ (as.map V.ref).map (barAt H) = bs := by
  intro H kvs as bs ik
  unfold IsKeys at ik
  induction ik generalizing bs with
  | nil =>
    intro e
    cases bs with
    | nil => exact ⟨fun a ha => by simp at ha, rfl⟩
    | cons b bs => simp at e
  | @cons kv a kvs' as' h t ih =>
    intro e
    cases bs with
    | nil => simp at e
    | cons b bs =>
      rw [List.map_cons, List.map_cons] at e
      injection e with e1 e2
      obtain ⟨i1, i2⟩ := ih e2
      have hb : H a = some (.tup b.vs) := by rw [h, e1]; rfl
      refine ⟨fun c hc => ?_, ?_⟩
      · rcases List.mem_cons.mp hc with rfl | hc
        · exact ⟨b, List.mem_cons_self, hb⟩
        · obtain ⟨b', m, q⟩ := i1 c hc
          exact ⟨b', List.mem_cons_of_mem _ m, q⟩
      · rw [List.map_cons, List.map_cons, i2, barAt_of hb]
theorem paired_of_at {H : Hp} {kvs : List (List Key × V)} {as : List Addr} (h : IsKeys H kvs as) : kvs.length = as.length := Paired.length h
section
variable {X : Cx}
theorem cr_sortB (hcalm : X.calm = true) : CallR X (.builtin "sorted") rSortB := by
  intro pins s σ H xs us Q I r h
  obtain ⟨d, kvs, bs, rfl, hd, hks, hlow, q⟩ := h
  obtain ⟨u, rfl, rx⟩ := r.one
  obtain rfl : u = Value.ref d := rx
  obtain ⟨z, hs, ks, pr, o, es, ep, ho, hx, hdt, he, hn⟩ := (show ObjOk X.prog X.w H s.heap d (.dT kvs) from hd.ok I.hok)
  have l1 : es.size = ks.length := size_of_entries he
  have l2 : kvs.length = ks.length := Paired.length pr
  refine Calls.call_function_entry PyProof.Rows.kind_sorted PyProof.Rows.plain_sorted PyProof.Rows.entry_sorted (PyProof.Rows.args_sorted1 _) ?_
  unfold Builtin.«sorted»
  refine wpAny_bind (m := checkCount "sorted" 1 1 _) (wpAny_pure ?_)
  refine wpAny_bind (PySem.W.kdu_collect (A := X.A.in1) (kdl_raw hs hx hdt) (I.ok.hd hcalm) ho (by omega) fun h' tk acc hk it => ?_)
  have ea : acc.toList = ks.map fun x => Value.ref x.2.1 := by
    have hl : acc.toList.length = ks.length := by rw [Array.length_toList, it.1]; exact l1
    apply List.ext_getElem?
    intro j
    rw [List.getElem?_map]
    cases hj : acc.toList[j]? with
    | none =>
      have h1 := List.getElem?_eq_none_iff.mp hj
      rw [List.getElem?_eq_none (by omega)]
      all_goals rfl
    | some v =>
      obtain ⟨en, hen, hv⟩ := it.2 j v (by rw [← Array.getElem?_toList]; exact hj)
      have qe := entry_at he j
      rw [hen] at qe
      cases hb : ks[j]? with
      | none =>
        rw [hb] at qe
        exact nomatch (show some en = none from qe)
      | some b =>
        rw [hb] at qe
        have e2 : en = entryOfKey (tupleKind (mixKind X.prog X.w)) b := Option.some.inj qe
        rw [hv, e2]
        all_goals rfl
  have ik : IsKeys H kvs (ks.map fun x => x.2.1) := isKeys_of pr
  obtain ⟨kb1, kb2⟩ := keys_bars ik hks
  generalize has : (ks.map fun x => x.2.1) = as at ik kb1 kb2
  have ea' : acc.toList = as.map Value.ref := by rw [ea, ← has, List.map_map]; rfl
  have hal : acc.toList.length = as.length := by rw [ea', List.length_map]
  have hasz : as.length ≤ sizeLine := by rw [← has, List.length_map]; omega
  have I1 : Inv X pins σ H { s with heap := h', toks := tk } := I.kept hk
  refine wpAny_bind (wpAny_newList ?_ (by rw [hal]; exact hasz))
  have hoL : (h'.push (seqObj "list" acc.toList.toArray 0)).get? h'.objs.size = some (seqObj "list" acc.toList.toArray 0) := Heap.get?_push_size _ rfl
  show wpAny _ _ _ _ _ { s with heap := h'.push (seqObj "list" acc.toList.toArray 0), toks := tk }
  have hbar : ∀ v ∈ acc.toList, IsBarV h' v (barAt H (backV v)) ∧ (barAt H (backV v)).low := fun v hv => by
    rw [ea'] at hv
    obtain ⟨a, ham, rfl⟩ := List.mem_map.mp hv
    obtain ⟨b, hbm, hHa⟩ := kb1 a ham
    have e1 : barAt H (backV (Value.ref a)) = b := barAt_of hHa
    rw [e1]
    refine ⟨?_, hlow b hbm⟩
    obtain ⟨_, its, rv, oo, h1, h2, n, h3⟩ := (show ObjOk X.prog X.w H h' a (.tup b.vs) from I1.hok a _ hHa)
    cases rv with
    | cons r1 rv =>
      cases rv with
      | cons r2 rv =>
        cases rv with
        | cons r3 rv =>
          cases rv with
          | cons r4 rv =>
            cases rv
            obtain ⟨t1, rfl⟩ := r1
            obtain ⟨t2, rfl⟩ := r2
            obtain ⟨t3, rfl⟩ := r3
            obtain ⟨t4, rfl⟩ := r4
            exact ⟨a, oo, t1, t2, t3, t4, n, rfl, h1, h2, h3⟩
  refine wpAny_bind (wpAny_holding (wpAny_call_entry PyProof.Rows.slot_list_sort ⟨_, hoL, rfl⟩ PyProof.Rows.entry_list_sort
    (SrtO.list_sort_ord (s := { s with heap := h'.push (seqObj "list" acc.toList.toArray 0), toks := tk }) (swo_code fun v => barAt H (backV v)) hoL (by rw [hal]; exact hasz) (fun h2 => ?_) fun out hs hb => ⟨_, rfl, ?_⟩)
    (PyProof.Rows.args_list_sort _)))
  · refine bars_sortableO (by omega) (fun v hv => ⟨(hbar v hv).1.keeps fun c oo e _ => Heap.get?_push_of_some _ e, (hbar v hv).2⟩) fun oo e => ?_
    have e' : some oo = some (seqObj "list" acc.toList.toArray 0) := e.symm.trans hoL
    cases e'
    intro c
    exact absurd (Value.type.inj c) (by decide)
  · obtain ⟨e', he'⟩ := PyProof.Rows.sortedHeap_at (vs := acc.toList) (out := out.toArray) hoL
    have pm : out.Perm (as.map Value.ref) := by rw [← ea']; exact hb.perm
    have href : ∀ v ∈ out, ∃ a, v = Value.ref a ∧ a ∈ as := fun v hv => by
      obtain ⟨a, ha, rfl⟩ := List.mem_map.mp (pm.mem_iff.mp hv)
      exact ⟨a, rfl, ha⟩
    have e1 : out.map backV = (out.map fun v => ((match v with | .ref a => a | _ => 0 : Addr), barAt H (backV v))).map fun k => V.ref k.1 := by
      rw [List.map_map]
      refine List.map_congr_left fun v hv => ?_
      obtain ⟨a, rfl, _⟩ := href v hv
      rfl
    have e2 : (out.map fun v => ((match v with | .ref a => a | _ => 0 : Addr), barAt H (backV v))).map (·.2) = out.map fun v => barAt H (backV v) := by
      rw [List.map_map]; rfl
    have pm2 : (out.map fun v => barAt H (backV v)).Perm bs := by
      have q1 := pm.map fun v => barAt H (backV v)
      have q2 : (as.map Value.ref).map (fun v => barAt H (backV v)) = bs := by
        rw [← kb2, List.map_map, List.map_map]; rfl
      rw [q2] at q1
      exact q1
    have qq := q (out.map fun v => ((match v with | .ref a => a | _ => 0 : Addr), barAt H (backV v))) h'.objs.size (fun k hk2 => by
        obtain ⟨v, hv, rfl⟩ := List.mem_map.mp hk2
        obtain ⟨a, rfl, ha⟩ := href v hv
        obtain ⟨b, _, hH⟩ := kb1 a ha
        show H a = some (.tup (barAt H (.ref a)).vs)
        rw [barAt_of hH]
        exact hH) (by rw [e2]; exact pm2) (by
        rw [e2, List.pairwise_map]
        exact hs.imp fun {x y} q => by
          have := of_decide_eq_false q
          omega) (I1.hok.fresh (Nat.le_refl _))
    rw [← e1] at qq
    refine wpAny_pure ⟨_, rfl, .ref h'.objs.size, upd H h'.objs.size (.lst (out.map backV)), I1.laid (t' := tk) (fun b u e => ?_) (Nat.le_refl _)
      (show ObjOk X.prog X.w _ _ _ (.lst (out.map backV)) from ⟨?_, out, e', vals_back fun v hv => ?_, he'⟩), rfl, qq⟩
    · have hb : b < h'.objs.size := Heap.lt_size e
      rw [PyProof.Rows.sortedHeap_old (Nat.ne_of_lt hb) (by rw [size_push']; exact Nat.lt_succ_of_lt hb)]
      exact Heap.get?_push_of_some _ e
    · rw [List.length_map, pm.length_eq, List.length_map]
      exact hasz
    · obtain ⟨a, e, _⟩ := href v hv
      exact ⟨a, e⟩
end
end DL

set_option Elab.async false
set_option maxRecDepth 100000
namespace DL
open PySem PySem.Spec PyProof.Rows L2
/-! ### bar <= bar -/
def Bar.leb (a b : Bar) : Bool := decide (a.code ≤ b.code)
def Bar.leq (a b : Bar) : Bool := if a.d = b.d then (if a.w = b.w then (if a.o = b.o then (if a.t = b.t then true else !(!b.t && a.t)) else decide (a.o ≤ b.o)) else !(!b.w && a.w)) else decide (a.d ≤ b.d)
theorem Bar.leq_code {a b : Bar} (ha : a.low) (hb : b.low) : a.leq b = a.leb b := by
  obtain ⟨ad, aw, ao, at'⟩ := a
  obtain ⟨bd, bw, bo, bt⟩ := b
  unfold Bar.low at ha hb
  unfold Bar.leq Bar.leb Bar.code b2n
  simp only at ha hb ⊢
  by_cases h1 : ad = bd
  · rw [if_pos h1]
    by_cases h2 : aw = bw
    · rw [if_pos h2]
      by_cases h3 : ao = bo
      · rw [if_pos h3]
        subst h1 h2 h3
        cases at' <;> cases bt <;> simp <;> omega
      · rw [if_neg h3]
        subst h1 h2
        cases at' <;> cases bt <;> simp <;> omega
    · rw [if_neg h2]
      subst h1
      cases aw <;> cases bw <;> cases at' <;> cases bt <;> simp at h2 ⊢ <;> omega
  · rw [if_neg h1]
    cases aw <;> cases bw <;> cases at' <;> cases bt <;> simp <;> omega
def rLeB (K : PySem.W.Frag) : R2 := fun x y H Q => ∃ (a b : Addr) (p q : Bar), x = .ref a ∧ y = .ref b ∧ SqT K H a p.vs ∧ SqT K H b q.vs ∧ Q (.bl (p.leq q)) H
theorem four_of {p : Bar} {its : List Value} (r : Vals p.vs its) : ∃ t1 t2 t3 t4, its = [.int p.d t1, .str (wd p.w) t2, .int p.o t3, .str (wd p.t) t4] := by
  cases r with
  | cons r1 rv =>
    cases rv with
    | cons r2 rv =>
      cases rv with
      | cons r3 rv =>
        cases rv with
        | cons r4 rv =>
          cases rv
          obtain ⟨t1, rfl⟩ := r1
          obtain ⟨t2, rfl⟩ := r2
          obtain ⟨t3, rfl⟩ := r3
          obtain ⟨t4, rfl⟩ := r4
          exact ⟨t1, t2, t3, t4, rfl⟩
theorem beq_dec {α : Type} [BEq α] [LawfulBEq α] [DecidableEq α] (a b : α) : (a == b) = decide (a = b) := by
  by_cases q : a = b
  · rw [decide_eq_true q]; exact beq_iff_eq.mpr q
  · rw [decide_eq_false q]; exact beq_eq_false_iff_ne.mpr q
theorem wd_beq (a b : Bool) : ((wd a) == (wd b)) = decide (a = b) := by revert a b; decide +kernel
theorem op_leB {X : Cx} (hu : X.A.units < cLine) : OpR X (compareOp .LtE) (rLeB X.K) := by
  intro pins s σ H x y v u Q I rx ry h
  obtain ⟨a, b, p, q, rfl, rfl, ha, hb, hq⟩ := h
  cases rx
  cases ry
  obtain ⟨its, r1, p1, _⟩ := I.tuple ha
  obtain ⟨its2, r2, p2, _⟩ := I.tuple hb
  obtain ⟨t1, t2, t3, t4, rfl⟩ := four_of r1
  obtain ⟨u1, u2, u3, u4, rfl⟩ := four_of r2
  have R := Ob.RcOp.tuples_le (A := X.A) (s := s) (e := fun j => match j with | 0 => decide (p.d = q.d) | 1 => decide (p.w = q.w) | 2 => decide (p.o = q.o) | _ => decide (p.t = q.t))
    (r := fun j => match j with | 0 => decide (p.d ≤ q.d) | 1 => !(!q.w && p.w) | 2 => decide (p.o ≤ q.o) | _ => !(!q.t && p.t)) p1 p2 hu (fun j h1 h2 => by
      match j, h1, h2 with
      | 0, _, _ => show SeqAt.EqAt _ _ (.int p.d t1) (.int q.d u1) (decide (p.d = q.d)); rw [← beq_dec]; exact SeqAt.EqAt.int_int _ _ _ _
      | 1, _, _ => show SeqAt.EqAt _ _ (.str (wd p.w) t2) (.str (wd q.w) u2) (decide (p.w = q.w)); rw [← wd_beq]; exact SeqAt.EqAt.str_str _ _ _ _
      | 2, _, _ => show SeqAt.EqAt _ _ (.int p.o t3) (.int q.o u3) (decide (p.o = q.o)); rw [← beq_dec]; exact SeqAt.EqAt.int_int _ _ _ _
      | 3, _, _ => show SeqAt.EqAt _ _ (.str (wd p.t) t4) (.str (wd q.t) u4) (decide (p.t = q.t)); rw [← wd_beq]; exact SeqAt.EqAt.str_str _ _ _ _
      | n + 4, h1, _ => exact absurd (show n + 4 < 4 from h1) (by omega)) (fun j h1 h2 _ => by
      match j, h1, h2 with
      | 0, _, _ => exact Ob.RcOp.le_int _ _ _ _
      | 1, _, _ =>
        show Ob.RcOp .LtE _ _ (.str (wd p.w) t2) (.str (wd q.w) u2) (!(!q.w && p.w))
        rw [← wd_lt]
        exact fun _ _ _ _ h => PySem.P.le_str h
      | 2, _, _ => exact Ob.RcOp.le_int _ _ _ _
      | 3, _, _ =>
        show Ob.RcOp .LtE _ _ (.str (wd p.t) t4) (.str (wd q.t) u4) (!(!q.t && p.t))
        rw [← wd_lt]
        exact fun _ _ _ _ h => PySem.P.le_str h
      | n + 4, h1, _ => exact absurd (show n + 4 < 4 from h1) (by omega))
  have z : wpAny (model X.prog X.w) X.A (compareOp .LtE (.ref a) (.ref b)) (EP X pins σ Q) X.xe s := R X.prog X.w X.xe (EP X pins σ Q) (by
    refine ⟨.bl (p.leq q), H, I, ?_, hq⟩
    show Value.bool _ = Value.bool (p.leq q)
    have e : (Ob.lexAt (fun j => match j with | 0 => decide (p.d = q.d) | 1 => decide (p.w = q.w) | 2 => decide (p.o = q.o) | _ => decide (p.t = q.t))
      (fun j => match j with | 0 => decide (p.d ≤ q.d) | 1 => !(!q.w && p.w) | 2 => decide (p.o ≤ q.o) | _ => !(!q.t && p.t)) true 0 4) = p.leq q := by
      unfold Bar.leq
      simp only [Ob.lexAt, decide_eq_true_eq]
    exact congrArg Value.bool e)
  exact z
/-! ### for i, x in enumerate(t), t a tuple -/
def IteT (K : PySem.W.Frag) (a : Addr) : It :=
  ⟨fun i H => ∃ (xs : List V) (x : V), SqT K H a xs ∧ xs[i]? = some x, fun i H v H' => ∃ T x, v = .ref T ∧ H T = none ∧ H' = upd H T (.tup [.int (i : Nat), x]) ∧ ∀ xs, SqT K H a xs → xs[i]? = some x, fun i H => ∃ xs : List V, SqT K H a xs ∧ xs.length ≤ i⟩
theorem turn_enumT {P : Program} {w : World} {K : PySem.W.Frag} {elts : List Expr} {kk : Nat} {tpos : Pos} (a e it : Addr) (hai : a ≠ it) (hae : e ≠ a) :
    Turn P w K (.Tuple elts kk tpos) (IteT K a) [e, it] e (fun i h => (∃ old, IsEnum h e it ((i : Nat) : Int) old) ∧ h.IsTupleIter it a i ∧ e ≠ it) where
  mem := by simp
  obj := fun i h st b hb => by
    obtain ⟨⟨old, he⟩, ⟨o, ho, hc, hd⟩, _⟩ := st
    have e' : b = e ∨ b = it := by simpa using hb
    rcases e' with z | z
    · rw [z]; exact ⟨_, he, fun v q => nomatch q⟩
    · rw [z]; exact ⟨o, ho, fun v q => by rw [hd] at q; cases q⟩
  keep := fun i h h' st k => let ⟨⟨old, he⟩, hi, hne⟩ := st; ⟨⟨old, k e (by simp) _ he⟩, hi.at fun o q => k it (by simp) o q, hne⟩
  item := by
    intro X hP hw hK hc i pins s σ H E I hf st hg
    subst hP hw hK
    obtain ⟨⟨old, he⟩, hit, hne⟩ := st
    obtain ⟨xs, x, hq, hx⟩ := hg
    obtain ⟨its, rv, p, hz⟩ := I.tuple hq
    obtain ⟨u, hu, ru⟩ := rv.get hx
    have hel : e < s.heap.objs.size := Heap.lt_size he
    have hil : it < s.heap.objs.size := by obtain ⟨_, q, _⟩ := hit; exact Heap.lt_size q
    have hlt : i < its.toArray.size := by
      have := (List.getElem?_eq_some_iff.mp hu).1
      simpa using this
    refine wpAny_pyNext_enum_itemD (Draws.tuple (A := X.A.in1) (I.ok.hd hc) it a hai its.toArray) he ⟨hit, p⟩ hlt hne (by simp; exact ⟨hne, hae⟩) fun x1 h' tk hp ho hst' hT hsz hk => ?_
    have hx1 : x1 = u := by
      have q : its.toArray[i]? = some u := by simpa using hu
      rw [q] at hp
      exact (Option.some.inj hp).symm
    subst hx1
    refine ⟨_, rfl, wpAny_letOwnedTupleGo_enum (s := { s with heap := h', toks := tk + 1 }) ho fun h'' he' sb => ?_⟩
    have hT2 : h''.get? s.heap.objs.size = some { cls := .type "tuple", data := .seq #[.int i tk, x1] } := (sb.2 _ (Nat.ne_of_gt hel)).trans hT
    have new : ObjOk X.prog X.w (upd H s.heap.objs.size (.tup [.int (i : Nat), x])) h'' s.heap.objs.size (.tup [.int (i : Nat), x]) :=
      ⟨by show 2 ≤ sizeLine; decide, [.int i tk, x1], .cons ⟨_, rfl⟩ (.cons ru .nil), ⟨_, hT2, rfl, _, rfl⟩⟩
    have I1 : Inv X pins σ (upd H s.heap.objs.size (.tup [.int (i : Nat), x])) { s with heap := h'', toks := tk + 1 } :=
      I.turnedNew (ch := [e, it]) (fun b ob hb q => (sb.2 b (fun z => hb (by simp [z]))).trans (hk b ob (fun z => hb (by simp [z])) (fun z => hb (by simp [z])) q)) hf (Nat.le_refl _) new
    refine ⟨.ref s.heap.objs.size, _, I1, rfl, ⟨_, x, rfl, I.hok.fresh (Nat.le_refl _), rfl, fun ys hy => by rw [I.tuple_inj hy hq]; exact hx⟩, ⟨⟨x1, ?_⟩, hst'.1.at fun o q => (sb.2 it (Ne.symm hne)).trans q, hne⟩, fun b hb => ?_⟩
    · have e1 : ((i + 1 : Nat) : Int) = (i : Int) + 1 := by omega
      rw [e1]; exact he'
    · have hb' : b < s.heap.objs.size := by
        have e' : b = e ∨ b = it := by simpa using hb
        rcases e' with z | z
        · rw [z]; exact hel
        · rw [z]; exact hil
      rw [upd_ne (Nat.ne_of_lt hb')]
      exact (hf b hb).1
  done := by
    intro X hP hw hK hc i pins s σ H E I hf st hg
    subst hP hw hK
    obtain ⟨⟨old, he⟩, hit, hne⟩ := st
    obtain ⟨xs, hq, hx⟩ := hg
    obtain ⟨its, rv, p, hz⟩ := I.tuple hq
    obtain ⟨f0, f1, f2, f3, f4, f5⟩ := hf it (by simp)
    have hl := rv.length
    have D := Draws.tuple (prog := X.prog) (w := X.w) (A := X.A.in1) (I.ok.hd hc) it a hai its.toArray
    have go : ∀ {Q : Option Value → Shared → Prop}, (∀ h', Heap.ExtBut it s.heap h' → Q none { s with heap := h' }) → wpAny (model X.prog X.w) X.A (pyNext (.ref e)) Q E s := by
      intro Q hQ
      unfold pyNext
      have hT : s.TypeIs (.ref e) "enumerate" := ⟨_, he, rfl⟩
      refine wpAny_bind (wpAny_attempt (wpAny_callSpecial?_slot (name := Str.ofString "__next__") hT F.slot_enumerate_next
        (wpAny_call_entry F.slot_enumerate_next hT F.entry_enumerate_next ?_ (F.args_enumerate_next_1 _))))
      show wpAny _ _ (field (.ref e) 2 >>= _) _ _ _
      refine wpAny_bind (wpAny_field he rfl (x := .ref it) rfl ?_)
      refine wpAny_bind (wpAny_nextOf_tuple_end (I.ok.hd hc) hit p (by simp; omega) fun h' x he' hx' => ?_)
      obtain ⟨o, ho, hc⟩ := hx'
      refine wpAny_bind (wpAny_isInstance (T := "StopIteration") (b := true) ⟨o, ho, hc⟩ isSubtype_stop ?_)
      exact wpAny_pure (hQ _ he')
    exact go fun h' eb => ⟨rfl, I.turned (t' := s.toks) (fun b o hb q => eb b o hb q) f0 f1 f3 f4 f5⟩
  self := fun A i s Q E st h => let ⟨⟨_, he⟩, _⟩ := st; wpAny_pyIter_enum he h
def iEnumT (K : PySem.W.Frag) (ta : TA) : TI := fun σ H R => ta σ H fun vs H1 => ∃ a xs, vs = [.ref a] ∧ SqT K H1 a xs ∧ R (IteT K a) H1
end DL

set_option Elab.async false
set_option maxRecDepth 100000
namespace DL
open PySem PySem.Spec PyProof.Rows L2
open Sem (wp)
set_option maxHeartbeats 1000000 in
theorem meets_enumerate_newB1 {v : Value} {o : Obj} {H : Heap → Prop} (B : Begins v o H) :
    Meets (Builtin.«enumerate.__new__» ⟨[.type "enumerate", v], []⟩) (fun _ R s => H s.heap ∧
      R (.ok (.ret (.ref (s.heap.push o).objs.size))) { s with heap := (s.heap.push o).push { cls := .type "enumerate", data := .fields #[.none, .bool false, .ref s.heap.objs.size, rawInt 0, .none, .none] } }) :=
  .of_wp fun prog w A R s h => by
    obtain ⟨hp, g, d, tk, os⟩ := s; obtain ⟨h1, h⟩ := h
    have hsub := sub_enumerate
    have q1 : ∀ {A' : Around} {E : Value → Shared → Prop} {Q : Value → Shared → Prop}, Q (.ref hp.objs.size) ⟨hp.push o, g, d, tk, os⟩ → wpAny (model prog w) A' (pyIter v) Q E ⟨hp, g, d, tk, os⟩ :=
      fun q => B.iter prog w _ _ ⟨hp, g, d, tk, os⟩ _ h1 q
    wp_walk using q1
    refine wpAny_stack_any fun st => wpAny_pure ?_
    split
    · rename_i c _ _ _ _ _
      cases (c == Value.type "enumerate")
      · wp_walk using q1
        exact ⟨_, rfl, h⟩
      · wp_walk using q1
        exact ⟨_, rfl, h⟩
    · wp_walk using q1
      exact ⟨_, rfl, h⟩
section
variable {prog : Program} {w : World} {A : Around} {E : Value → Shared → Prop} {s : Shared}
theorem enum_begins1 {v : Value} {o : Obj} {H : Heap → Prop} {Q : Value → Shared → Prop} (B : Begins v o H) (h1 : H s.heap)
    (h : ∀ h', IsEnum h' (s.heap.objs.size + 1) s.heap.objs.size 0 .none → h'.get? s.heap.objs.size = some o → h'.objs.size = s.heap.objs.size + 2 →
      (∀ b o, s.heap.get? b = some o → h'.get? b = some o) → Q (.ref (s.heap.objs.size + 1)) { s with heap := h' }) :
    wpAny (model prog w) A (call (.type "enumerate") [v]) Q E s := by
  refine callType_new F.called_enumerate (by decide) (F.typeCall_enumerate_1 _) (F.newCall_enumerate_1 _) (fun obj => F.args_object_init_2 obj _) F.entry_enumerate_new
    (meets_enumerate_newB1 B) ⟨h1, ?_⟩
  have hz : (s.heap.push o).objs.size = s.heap.objs.size + 1 := Heap.size_push ..
  show _ ∧ _
  rw [hz]
  have he : IsEnum ((s.heap.push o).push { cls := .type "enumerate", data := .fields #[.none, .bool false, .ref s.heap.objs.size, rawInt 0, .none, .none] }) (s.heap.objs.size + 1) s.heap.objs.size 0 .none := by
    have := Heap.get?_push_size (s.heap.push o) (o := { cls := .type "enumerate", data := .fields #[.none, .bool false, .ref s.heap.objs.size, rawInt 0, .none, .none] }) rfl
    rw [hz] at this; exact this
  refine ⟨⟨_, he, rfl⟩, h _ he (Heap.get?_push_of_some _ (Heap.get?_push_size _ B.free)) (by rw [Heap.size_push, hz]) fun b o x => Heap.get?_push_of_some _ (Heap.get?_push_of_some _ x)⟩
end
theorem pi_enumT {X : Cx} {e : Expr} {ta : TA} {p pos tpos : Pos} {elts : List Expr} {kk : Nat} (hg : Gl X "enumerate") (hm : X.mg "enumerate" = none) (ha : PA X [e] ta) (hs : starEach [e] X.env = [(false, eval e X.env)] := by rfl) :
    PI X (.Tuple elts kk tpos) (.Call (.Name "enumerate" p) [e] [] pos) (iEnumT X.K ta) := by
  refine ⟨fun pins s σ H R I h => ?_⟩
  refine Call_ (ld_blt I hg hm boot_enumerate (PyProof.Rows.callWith_type1 (thn (ha.run pos pins s σ H _ I h) fun us s1 ⟨vs, H1, I1, r1, q1⟩ => ?_) hs rfl))
  obtain ⟨a, xs, ex, hq, q⟩ := q1
  subst ex
  cases r1 with
  | cons r rr =>
    cases rr
    cases r
    obtain ⟨its, rv, p', hz⟩ := I1.tuple hq
    have hal : a < s1.heap.objs.size := by obtain ⟨o, ho, _⟩ := id p'; exact Heap.lt_size ho
    refine enum_begins1 (begins_tuple a its.toArray) (show s1.heap.IsTuple a its.toArray from p') fun h' he hit hsz hk => wpAny_pyIter_enum he ?_
    have I2 : Inv X pins σ H1 { s1 with heap := h' } := I1.kept (t' := s1.toks) hk
    refine ⟨s1.heap.objs.size + 1, [s1.heap.objs.size + 1, s1.heap.objs.size], _, _, H1, rfl, I2, turn_enumT a (s1.heap.objs.size + 1) s1.heap.objs.size (Nat.ne_of_lt hal) (Nat.ne_of_gt (Nat.lt_succ_of_lt hal)),
      ⟨⟨.none, he⟩, ⟨_, hit, rfl, rfl⟩, Nat.succ_ne_self _⟩, fun b hb => ?_, q⟩
    have e' : b = s1.heap.objs.size + 1 ∨ b = s1.heap.objs.size := by simpa using hb
    have hle : s1.heap.objs.size ≤ b := by
      rcases e' with z | z
      · rw [z]; exact Nat.le_add_right _ _
      · rw [z]; exact Nat.le_refl _
    exact I1.fpOk hle (I1.hok.fresh hle)
theorem walk_enumT {K : PySem.W.Frag} {a : Addr} {xs : List V} : Walk (IteT K a) xs.length (fun H => SqT K H a xs) (YPair (fun i => some (.int (i : Nat))) (fun i => xs[i]?)) := by
  refine ⟨fun i _ hi q => ⟨xs, xs[i], q, by simp [hi]⟩, fun _ q => ⟨xs, q, Nat.le_refl _⟩, fun i H v H' _ q y => ?_⟩
  obtain ⟨T, x, h1, h2, h3, h4⟩ := y
  exact ⟨T, .int (i : Nat), x, h1, h2, h3, rfl, h4 xs q⟩
end DL

set_option Elab.async false
set_option maxRecDepth 100000
namespace DL
open PySem L2
def top (i : Nat) : Stmt := PySem.Challenge.pw_drawerlocks_k02_no_cabinets.main.body.getD i (.Pass ⟨0, 0, 0, 0⟩)
abbrev s__wall : Stmt := top 1
abbrev s_BadBars__init_ : Stmt := inClass (top 5) 0
abbrev s_BadPairs__init_ : Stmt := inClass (top 11) 0
abbrev s_BadNumber__init_ : Stmt := inClass (top 12) 0
abbrev s_TooMany__init_ : Stmt := inClass (top 14) 0
abbrev sIsInt : Stmt := top 22
abbrev sIsCount : Stmt := top 23
abbrev sIsDrawer : Stmt := top 24
abbrev s_is_set : Stmt := top 25
abbrev s_is_pair : Stmt := top 26
abbrev sIsBar : Stmt := top 27
abbrev s_all_bars : Stmt := top 28
abbrev s_is_standing : Stmt := top 29
abbrev s_is_pattern : Stmt := top 30
abbrev s_has_signs : Stmt := top 31
abbrev s_first_standing : Stmt := top 32
abbrev s_fits : Stmt := top 33
abbrev s_hinders : Stmt := top 34
abbrev s_moved : Stmt := top 35
abbrev sInit : Stmt := inClass (top 37) 0
abbrev sDrawers : Stmt := inClass (top 37) 1
abbrev sBars : Stmt := inClass (top 37) 2
abbrev sEq : Stmt := inClass (top 37) 3
abbrev s_can : Stmt := top 38
abbrev s_barring : Stmt := top 39
abbrev s_behind : Stmt := top 40
abbrev s_free_drawers : Stmt := top 41
abbrev s_goes : Stmt := top 42
abbrev s_bars_against : Stmt := top 43
abbrev sCheckDrawers : Stmt := top 44
abbrev sCheckBars : Stmt := top 45
abbrev s_check_cabinet : Stmt := top 46
abbrev s_check_standing : Stmt := top 47
abbrev s_check_pattern : Stmt := top 48
abbrev s_check_drawer : Stmt := top 49
abbrev s_check_few_drawers : Stmt := top 50
abbrev s_check_number : Stmt := top 51
abbrev s_reached : Stmt := top 53
abbrev s_row_to : Stmt := top 54
abbrev s_row_between : Stmt := top 55
abbrev s_right_row : Stmt := top 56
abbrev s_farthest : Stmt := top 57
abbrev s_first_rows : Stmt := top 58
abbrev s_reached_pulls : Stmt := top 59
abbrev s_rows_from : Stmt := top 60
abbrev s_first_row_to : Stmt := top 61
abbrev s_end_of_row : Stmt := top 62
abbrev s_count_rows : Stmt := top 65
abbrev s_count_to : Stmt := top 66
abbrev s_counts_by_end : Stmt := top 67
abbrev s_counts_behind : Stmt := top 68
abbrev s_Desk__init_ : Stmt := inClass (top 70) 0
abbrev s_Desk_cabinet : Stmt := inClass (top 70) 1
abbrev s_Desk_standing : Stmt := inClass (top 70) 2
abbrev s_Desk_pulls : Stmt := inClass (top 70) 3
abbrev s_Desk__len_ : Stmt := inClass (top 70) 4
abbrev s_Desk_pull : Stmt := inClass (top 70) 5
abbrev s_Desk_free : Stmt := inClass (top 70) 6
abbrev s_Desk_undo : Stmt := inClass (top 70) 7
abbrev s_Desk_copy : Stmt := inClass (top 70) 8
abbrev s_open_together : Stmt := top 72
abbrev s_never_together : Stmt := top 73
abbrev s_most_open : Stmt := top 74
abbrev s_paper : Stmt := top 75
abbrev s_right_paper : Stmt := top 76
abbrev s_is_closed : Stmt := top 77
abbrev s_open_count : Stmt := top 78
abbrev s_any_fits : Stmt := top 79
abbrev s_open_pattern : Stmt := top 80
abbrev s_check_set : Stmt := top 81
abbrev s_guards : Stmt := top 85
abbrev s_is_guarded : Stmt := top 86
abbrev s_reached_beside : Stmt := top 87
abbrev s_check_pairs : Stmt := top 88
abbrev s_alike : Stmt := top 90
abbrev s_first_apart : Stmt := top 91
abbrev s_needless : Stmt := top 92
abbrev s_fewest_bars : Stmt := top 93
abbrev s_barred_pulls : Stmt := top 94
abbrev s_fewest_of_each : Stmt := top 95
abbrev s_fewest_of_group : Stmt := top 96
abbrev s_meets_all : Stmt := top 97
abbrev s_dead_end : Stmt := top 99
abbrev s_no_return : Stmt := top 100
abbrev s_frozen : Stmt := top 101
abbrev s_never_opened : Stmt := top 102
abbrev s_first_row_beside : Stmt := top 103
abbrev s_leading_to : Stmt := top 104
abbrev s_write : Stmt := top 106
abbrev sTaken : Stmt := top 108
abbrev s__law_odd : Stmt := top 109
abbrev s__law_call : Stmt := top 110
abbrev s_law : Stmt := top 111
end DL

set_option Elab.async false
set_option maxRecDepth 100000
namespace DL
open PySem L2
/-! ### the facts of the top -/
structure Bt (mg : Str → Option Value) : Prop where
  isinstance : mg "isinstance" = none
  int : mg "int" = none
  bool : mg "bool" = none
  tuple : mg "tuple" = none
  len : mg "len" = none
  enumerate : mg "enumerate" = none
  range : mg "range" = none
  sorted : mg "sorted" = none
def tyV (x : V) : Option String := match x with
  | .non => some "NoneType" | .bl _ => some "bool" | .int _ => some "int" | .str _ => some "str" | _ => none
/-! ### is_integer -/
structure spIsInt (K : PySem.W.Frag) (vs : List V) (H : Hp) (Q : VK) (_ : XK) : Prop where
  h : ∃ (v : V) (t : Value) (b1 b2 : Bool), vs = [v] ∧ TyX K H v t ∧ PySem.W.kitOne K t (.type "int") = some b1 ∧ PySem.W.kitOne K t (.type "bool") = some b2 ∧ Q (.bl (b1 && !b2)) H
section
variable {P : Program} {w : World} {K : PySem.W.Frag} {mg : Str → Option Value} {base : Heap}
theorem scIsInt : FnScope ["value"] ["value"] (defScope sIsInt) := ⟨rfl, rfl, rfl, by decide +kernel, rfl, by decide +kernel, by decide +kernel⟩
theorem ok_isInt {f : Addr} {fd : FuncData} (F : Fun K "is_integer" "is_integer" sIsInt f fd) (T : Bt mg) : FnOk P w K mg base CX0 1 f fd ["value"] (spIsInt K) := by
  refine F.ok scIsInt (fun vs H Q E h => ?_) (fun cdv A outer s H vs Q E hr h => ?_)
  · obtain ⟨v, t, b1, b2, rfl, _⟩ := h.h
    rfl
  · obtain ⟨v, t, b1, b2, rfl, ty, k1, k2, k⟩ := h.h
    refine ⟨_, pss_one (ps_ret (pe_and (pe_callB call_isi (by rfl) T.isinstance (by decide +kernel) (pa_cons (pv 0) (pa_cons (pe_bltn (v := .ty "int") (by rfl) T.int (by decide +kernel) rfl) pa_nil)))
      (pe_one (pe_not (pe_callB call_isi (by rfl) T.isinstance (by decide +kernel) (pa_cons (pv 0) (pa_cons (pe_bltn (v := .ty "bool") (by rfl) T.bool (by decide +kernel) rfl) pa_nil))))))), ?_⟩
    refine ⟨_, rfl, _, _, t, _, b1, rfl, .ty "int", ty, k1, b1, rfl, ?_⟩
    cases b1 with
    | false => exact iteF k
    | true => exact iteT ⟨_, rfl, _, _, t, _, b2, rfl, .ty "bool", ty, k2, b2, rfl, k⟩
/-! ### is_drawer_count(value), is_drawer(drawers, value) -/
/-- an int as value: whether it is one; any other known thing: False -/
structure spIsCount (K : PySem.W.Frag) (vs : List V) (H : Hp) (Q : VK) (_ : XK) : Prop where
  h : (∃ n : Int, vs = [.int n] ∧ Q (.bl (decide (1 ≤ n) && decide (n ≤ 7))) H) ∨
  ∃ (v : V) (t : Value) (b1 b2 : Bool), vs = [v] ∧ TyX K H v t ∧ PySem.W.kitOne K t (.type "int") = some b1 ∧ PySem.W.kitOne K t (.type "bool") = some b2 ∧ (b1 && !b2) = false ∧ Q (.bl false) H
theorem scIsCount : FnScope ["value"] ["value"] (defScope sIsCount) := ⟨rfl, rfl, rfl, by decide +kernel, rfl, by decide +kernel, by decide +kernel⟩
theorem ok_isCount {f f1 : Addr} {fd fd1 : FuncData} (F : Fun K "is_drawer_count" "is_drawer_count" sIsCount f fd) (_T : Bt mg) (G : FnOk P w K mg base CX0 1 f1 fd1 ["value"] (spIsInt K)) (g1 : mg "is_integer" = some (.ref f1)) (k1 : PySem.W.keepIn K (.ref f1) = true) (b1 : Binds K fd1 ["value"] [])
    (gM : ∃ t, mg "MOST_DRAWERS" = some (.int 7 t)) : FnOk P w K mg base CX0 2 f fd ["value"] (spIsCount K) := by
  refine F.ok scIsCount (fun vs H Q E h => ?_) (fun cdv A outer s H vs Q E hr h => ?_)
  · rcases h.h with ⟨n, rfl, _⟩ | ⟨v, t, b1, b2, rfl, _⟩ <;> rfl
  · obtain ⟨tM, gM⟩ := gM
    refine ⟨_, pss_one (ps_ret (pe_and (pe_call G (hr.mono (by decide)) rfl g1 k1 b1 .nil pass0 (pa_cons (pv 0) pa_nil)) (pe_one (pe_chain op_le op_le pe_int (pv 0) (pe_glob (v := .int 7) rfl gM ⟨_, rfl⟩))))), ?_⟩
    rcases h.h with ⟨n, rfl, k⟩ | ⟨v, t, c1, c2, rfl, ty, e1, e2, e3, k⟩
    · refine ⟨_, rfl, ⟨.int n, .type "int", true, false, rfl, .base (.int n), kit_ty (by decide +kernel), kit_ty (by decide +kernel), true, rfl, iteT ?_⟩⟩
      refine ⟨_, rfl, _, _, rfl, rfl, _, rfl, ?_⟩
      by_cases h1 : 1 ≤ n
      · rw [decide_eq_true h1] at k ⊢
        exact iteT ⟨_, _, rfl, rfl, k⟩
      · rw [decide_eq_false h1] at k ⊢
        exact iteF k
    · refine ⟨_, rfl, ⟨v, t, c1, c2, rfl, ty, e1, e2, _, rfl, ?_⟩⟩
      rw [e3]
      exact iteF k
structure spIsDrawer (K : PySem.W.Frag) (vs : List V) (H : Hp) (Q : VK) (_ : XK) : Prop where
  h : ∃ n : Int, (∃ i : Int, vs = [.int n, .int i] ∧ Q (.bl (decide (0 ≤ i) && decide (i < n))) H) ∨
  ∃ (v : V) (t : Value) (b1 b2 : Bool), vs = [.int n, v] ∧ TyX K H v t ∧ PySem.W.kitOne K t (.type "int") = some b1 ∧ PySem.W.kitOne K t (.type "bool") = some b2 ∧ (b1 && !b2) = false ∧ Q (.bl false) H
theorem scIsDrawer : FnScope ["drawers", "value"] ["drawers", "value"] (defScope sIsDrawer) := ⟨rfl, rfl, rfl, by decide +kernel, rfl, by decide +kernel, by decide +kernel⟩
theorem ok_isDrawer {f f1 : Addr} {fd fd1 : FuncData} (F : Fun K "is_drawer" "is_drawer" sIsDrawer f fd) (_T : Bt mg) (G : FnOk P w K mg base CX0 1 f1 fd1 ["value"] (spIsInt K)) (g1 : mg "is_integer" = some (.ref f1)) (k1 : PySem.W.keepIn K (.ref f1) = true) (b1 : Binds K fd1 ["value"] []) :
    FnOk P w K mg base CX0 2 f fd ["drawers", "value"] (spIsDrawer K) := by
  refine F.ok scIsDrawer (fun vs H Q E h => ?_) (fun cdv A outer s H vs Q E hr h => ?_)
  · rcases h.h with ⟨n, ⟨i, rfl, _⟩ | ⟨v, t, b1, b2, rfl, _⟩⟩ <;> rfl
  · refine ⟨_, pss_one (ps_ret (pe_and (pe_call G (hr.mono (by decide)) rfl g1 k1 b1 .nil pass0 (pa_cons (pv 1) pa_nil)) (pe_one (pe_chain op_le op_lt pe_int (pv 1) (pv 0))))), ?_⟩
    rcases h.h with ⟨n, ⟨i, rfl, k⟩ | ⟨v, t, c1, c2, rfl, ty, e1, e2, e3, k⟩⟩
    · refine ⟨_, rfl, ⟨.int i, .type "int", true, false, rfl, .base (.int i), kit_ty (by decide +kernel), kit_ty (by decide +kernel), true, rfl, iteT ?_⟩⟩
      refine ⟨_, rfl, _, _, rfl, rfl, _, rfl, ?_⟩
      by_cases h1 : 0 ≤ i
      · rw [decide_eq_true h1] at k ⊢
        exact iteT ⟨_, rfl, _, _, rfl, rfl, k⟩
      · rw [decide_eq_false h1] at k ⊢
        exact iteF k
    · refine ⟨_, rfl, ⟨v, t, c1, c2, rfl, ty, e1, e2, _, rfl, ?_⟩⟩
      rw [e3]
      exact iteF k
end
end DL

set_option Elab.async false
set_option maxRecDepth 100000
namespace DL
open PySem L2
/-! ### is_bar -/
def scV : V → Bool
  | .non => true | .bl _ => true | .int _ => true | .str _ => true | _ => false
def isD (n : Int) : V → Bool
  | .int i => decide (0 ≤ i) && decide (i < n)
  | _ => false
def inW : V → Bool
  | .str z => decide (z = "open") || decide (z = "shut")
  | _ => false
def barB (n : Int) (x0 x1 x2 x3 : V) : Bool := isD n x0 && (isD n x2 && (!decide (x0 = x2) && (inW x1 && inW x3)))
theorem inW_in (x : V) (h : scV x = true) : inV x [.str "open", .str "shut"] = inW x ∧ flatV x = true := by
  have z1 : ∀ z : Str, ((("open" : Str) == z) || ((("shut" : Str) == z) || false)) = (decide (z = "open") || decide (z = "shut")) := fun z => by
    rw [beq_dec, beq_dec, Bool.or_false]
    congr 1
    · exact decide_eq_decide.mpr ⟨Eq.symm, Eq.symm⟩
    · exact decide_eq_decide.mpr ⟨Eq.symm, Eq.symm⟩
  cases x with
  | str z => exact ⟨z1 z, rfl⟩
  | non => exact ⟨rfl, rfl⟩
  | bl b => exact ⟨rfl, rfl⟩
  | int i => exact ⟨rfl, rfl⟩
  | _ => cases h
theorem spIsDrawer_sc {K : PySem.W.Frag} {n : Int} {x : V} {H : Hp} {Q : VK} {E : XK} (hx : scV x = true) (k : Q (.bl (isD n x)) H) : spIsDrawer K [.int n, x] H Q E := by
  cases x with
  | int i => exact ⟨⟨n, .inl ⟨i, rfl, k⟩⟩⟩
  | non => exact ⟨⟨n, .inr ⟨.non, .type "NoneType", false, false, rfl, .base .non, kit_ty (by decide +kernel), kit_ty (by decide +kernel), rfl, k⟩⟩⟩
  | bl b => exact ⟨⟨n, .inr ⟨.bl b, .type "bool", true, true, rfl, .base (.bl b), kit_ty (by decide +kernel), kit_ty (by decide +kernel), rfl, k⟩⟩⟩
  | str z => exact ⟨⟨n, .inr ⟨.str z, .type "str", false, false, rfl, .base (.str z), kit_ty (by decide +kernel), kit_ty (by decide +kernel), rfl, k⟩⟩⟩
  | _ => cases hx
theorem tyT {K : PySem.W.Frag} {H : Hp} {a : Addr} {xs : List V} (h : SqT K H a xs) : TyX K H (.ref a) (.type "tuple") := by
  rcases h with (h | ⟨o, h⟩) | ⟨o, its, n, h1, h2, _⟩
  · exact .base (.tup h)
  · exact .fTuple h
  · exact .kTuple h1 h2
structure spIsBar (K : PySem.W.Frag) (vs : List V) (H : Hp) (Q : VK) (_ : XK) : Prop where
  h : ∃ n : Int, (∃ (v : V) (t : Value), vs = [.int n, v] ∧ TyX K H v t ∧ PySem.W.kitOne K t (.type "tuple") = some false ∧ Q (.bl false) H) ∨
  (∃ (a : Addr) (xs : List V), vs = [.int n, .ref a] ∧ SqT K H a xs ∧ xs.length ≠ 4 ∧ Q (.bl false) H) ∨
  ∃ (a : Addr) (x0 x1 x2 x3 : V), vs = [.int n, .ref a] ∧ SqT K H a [x0, x1, x2, x3] ∧ scV x0 = true ∧ scV x1 = true ∧ scV x2 = true ∧ scV x3 = true ∧ Q (.bl (barB n x0 x1 x2 x3)) H
section
variable {P : Program} {w : World} {K : PySem.W.Frag} {mg : Str → Option Value} {base : Heap}
theorem scIsBar : FnScope ["drawers", "value", "drawer", "way", "other", "stand"] ["drawers", "value"] (defScope sIsBar) := ⟨rfl, rfl, rfl, by decide +kernel, rfl, by decide +kernel, by decide +kernel⟩
theorem ok_isBar {f f1 : Addr} {fd fd1 : FuncData} (F : Fun K "is_bar" "is_bar" sIsBar f fd) (T : Bt mg) (G : FnOk P w K mg base CX0 2 f1 fd1 ["drawers", "value"] (spIsDrawer K)) (g1 : mg "is_drawer" = some (.ref f1)) (k1 : PySem.W.keepIn K (.ref f1) = true) (b1 : Binds K fd1 ["drawers", "value"] [])
    (gW : ∃ aW, mg "WORDS" = some (.ref aW) ∧ ∀ H, SqT K H aW [.str "open", .str "shut"]) : FnOk P w K mg base CX0 3 f fd ["drawers", "value"] (spIsBar K) := by
  refine F.ok scIsBar (fun vs H Q E h => ?_) (fun cdv A outer s H vs Q E hr h => ?_)
  · rcases h.h with ⟨n, ⟨v, t, rfl, _⟩ | ⟨a, xs, rfl, _⟩ | ⟨a, x0, x1, x2, x3, rfl, _⟩⟩ <;> rfl
  · obtain ⟨aW, gW, hW⟩ := gW
    refine ⟨_, pss_cons (ps_if (PW.pt (pw_or (pt_not (pt_val (pe_callB call_isi (by rfl) T.isinstance (by decide +kernel) (pa_cons (pv 1) (pa_cons (pe_bltn (v := .ty "tuple") (by rfl) T.tuple (by decide +kernel) rfl) pa_nil)))))
        (pw_or1 (pt_cmpR op_ne (pe_callB call_len_seq (by rfl) T.len PySem.boot_len (pa_cons (pv 1) pa_nil)) pe_int (nomark _))))) (pss_one (ps_ret pe_bl)) pss_nil)
      (pss_cons (ps_asg (pv 1) (pg_tup (by rfl) (pgs_cons (pg_name (i := 2) scIsBar.nd rfl (.inl rfl)) (pgs_cons (pg_name (i := 3) scIsBar.nd rfl (.inl rfl)) (pgs_cons (pg_name (i := 4) scIsBar.nd rfl (.inl rfl)) (pgs_cons (pg_name (i := 5) scIsBar.nd rfl (.inl rfl)) pgs_nil))))))
      (pss_cons (ps_if (PW.pt (pw_or (pt_not (pt_val (pe_call G (hr.mono (by decide)) rfl g1 k1 b1 .nil pass0 (pa_cons (pv 0) (pa_cons (pv 2) pa_nil))))) (pw_or1 (pt_not (pt_val (pe_call G (hr.mono (by decide)) rfl g1 k1 b1 .nil pass0 (pa_cons (pv 0) (pa_cons (pv 4) pa_nil)))))))) (pss_one (ps_ret pe_bl)) pss_nil)
      (pss_one (ps_ret (pe_and (pe_cmpR op_ne (pv 2) (pv 4) (nomark _)) (pe_and (pe_cmpR op_in_seq (pv 3) (pe_glob (v := .ref aW) rfl gW rfl) (by rfl)) (pe_one (pe_cmpR op_in_seq (pv 5) (pe_glob (v := .ref aW) rfl gW rfl) (by rfl))))))))), ?_⟩
    rcases h.h with ⟨n, ⟨v, t, rfl, ty, e, k⟩ | ⟨a, xs, rfl, hq, hl, k⟩ | ⟨a, x0, x1, x2, x3, rfl, hq, c0, c1, c2, c3, k⟩⟩
    · exact ⟨_, rfl, _, _, t, _, false, rfl, .ty "tuple", ty, e, _, rfl, iteT (iteT k)⟩
    · refine ⟨_, rfl, _, _, _, _, true, rfl, .ty "tuple", tyT hq, kit_ty (by decide +kernel), _, rfl, iteF ?_⟩
      refine ⟨_, rfl, a, xs, rfl, .inr hq, rfl, _, rfl, ?_⟩
      refine ite2 (fun _ => k) (fun z => ?_)
      exact absurd (show (.int (xs.length : Int) : V) = .int 4 by simpa using z) (fun q => hl (by injection q with q; omega))
    · refine ⟨_, rfl, _, _, _, _, true, rfl, .ty "tuple", tyT hq, kit_ty (by decide +kernel), _, rfl, iteF ?_⟩
      refine ⟨_, rfl, a, _, rfl, .inr hq, rfl, _, rfl, iteF ?_⟩
      refine ⟨_, rfl, a, _, rfl, hq, rfl, x0, _, rfl, x1, _, rfl, x2, _, rfl, x3, _, rfl, rfl, ?_⟩
      refine ⟨_, rfl, _, rfl, ?_⟩
      refine spIsDrawer_sc c0 ⟨_, rfl, ?_⟩
      unfold barB at k
      cases d0 : isD n x0 with
      | false => rw [d0] at k; exact iteT (iteT k)
      | true =>
        rw [d0] at k
        refine iteF ⟨_, rfl, _, rfl, ?_⟩
        refine spIsDrawer_sc c2 ⟨_, rfl, ?_⟩
        cases d2 : isD n x2 with
        | false => rw [d2] at k; exact iteT k
        | true =>
          rw [d2] at k
          refine iteF ?_
          obtain ⟨i0, rfl⟩ : ∃ i, x0 = .int i := by cases x0 <;> first | exact ⟨_, rfl⟩ | cases d0
          obtain ⟨i2, rfl⟩ : ∃ i, x2 = .int i := by cases x2 <;> first | exact ⟨_, rfl⟩ | cases d2
          refine ⟨_, rfl, _, rfl, rfl, _, rfl, ?_⟩
          have k' : Q (.bl (!decide ((.int i0 : V) = .int i2) && (inW x1 && inW x3))) H := k
          cases e : decide ((.int i0 : V) = .int i2) with
          | true => rw [e] at k'; exact iteF k'
          | false =>
            rw [e] at k'
            refine iteT ⟨_, rfl, aW, _, rfl, .inr (hW H), (inW_in x1 c1).2, rfl, _, rfl, ?_⟩
            show if inV x1 _ = true then _ else _
            rw [(inW_in x1 c1).1]
            have k'' : Q (.bl (inW x1 && inW x3)) H := k'
            cases e1 : inW x1 with
            | false => rw [e1] at k''; exact iteF k''
            | true =>
              rw [e1] at k''
              refine iteT ⟨_, rfl, aW, _, rfl, .inr (hW H), (inW_in x3 c3).2, rfl, ?_⟩
              show Q (.bl (inV x3 _)) H
              rw [(inW_in x3 c3).1]
              exact k''
end
end DL

set_option Elab.async false
set_option maxRecDepth 100000
namespace DL
open PySem L2
/-! ### bars of the heap -/
structure BarsAt (H : Hp) (t : Addr) (ks : List (Addr × Bar)) : Prop where
  tu : H t = some (.tup (ks.map fun k => V.ref k.1))
  el : ∀ k ∈ ks, H k.1 = some (.tup k.2.vs)
theorem BarsAt.same {H H' : Hp} {t : Addr} {ks : List (Addr × Bar)} (B : BarsAt H t ks) (s : Same H H') : BarsAt H' t ks := ⟨s _ _ B.tu, fun k hk => s _ _ (B.el k hk)⟩
def Bar.ok (n : Int) (b : Bar) : Prop := 0 ≤ b.d ∧ b.d < n ∧ 0 ≤ b.o ∧ b.o < n ∧ b.d ≠ b.o
theorem Bar.ok.low {n : Int} {b : Bar} (h : b.ok n) (hn : n ≤ 7) : b.low := by
  obtain ⟨h1, h2, h3, h4, _⟩ := h
  exact ⟨h1, by omega, h3, by omega⟩
structure OkBars (n : Int) (bs : List Bar) : Prop where
  ok : ∀ b ∈ bs, b.ok n
  asc : bs.Pairwise fun x y => x.code < y.code
theorem inW_wd (b : Bool) : inW (.str (wd b)) = true := by revert b; decide +kernel
theorem barB_ok {n : Int} {b : Bar} (h : b.ok n) : barB n (.int b.d) (.str (wd b.w)) (.int b.o) (.str (wd b.t)) = true := by
  obtain ⟨h1, h2, h3, h4, h5⟩ := h
  unfold barB
  rw [inW_wd, inW_wd]
  show ((decide (0 ≤ b.d) && decide (b.d < n)) && ((decide (0 ≤ b.o) && decide (b.o < n)) && (!decide ((.int b.d : V) = .int b.o) && true))) = true
  have e : decide ((.int b.d : V) = .int b.o) = false := decide_eq_false fun q => h5 (by injection q)
  rw [decide_eq_true h1, decide_eq_true h2, decide_eq_true h3, decide_eq_true h4, e]
  rfl
theorem spIsBar_ok {K : PySem.W.Frag} {n : Int} {a : Addr} {b : Bar} {H : Hp} {Q : VK} {E : XK} (h : b.ok n) (ha : SqT K H a b.vs) (k : Q (.bl true) H) : spIsBar K [.int n, .ref a] H Q E :=
  ⟨⟨n, .inr (.inr ⟨a, _, _, _, _, rfl, ha, rfl, rfl, rfl, rfl, by rw [barB_ok h]; exact k⟩)⟩⟩
theorem SqT.of' {K : PySem.W.Frag} {H : Hp} {a : Addr} {xs : List V} (h : H a = some (.tup xs)) : SqT K H a xs := .inl (.inl h)
theorem same_upd {H : Hp} {p : Addr} {o : HO} (h : H p = none) : Same H (upd H p o) := fun b u e => by rw [upd_ne (ne_of_none e h)]; exact e
theorem at_prev {α : Type} {xs : List α} {i : Nat} {v : α} (h0 : 0 < i) (h : xs[i - 1]? = some v) : atI xs ((i : Int) - 1) = some v := by
  have e : (i : Int) - 1 = ((i - 1 : Nat) : Int) := by omega
  rw [e]
  exact atI_nat h
theorem pw_prev {bs : List Bar} (h : bs.Pairwise fun x y => x.code < y.code) {i : Nat} (h0 : 0 < i) {x y : Bar} (hx : bs[i - 1]? = some x) (hy : bs[i]? = some y) : x.code < y.code := by
  obtain ⟨l1, e1⟩ := List.getElem?_eq_some_iff.mp hx
  obtain ⟨l2, e2⟩ := List.getElem?_eq_some_iff.mp hy
  have := List.pairwise_iff_getElem.mp h (i - 1) i l1 l2 (by omega)
  rw [e1, e2] at this
  exact this
theorem not_leq {n : Int} {x y : Bar} (hn : n ≤ 7) (hx : x.ok n) (hy : y.ok n) (h : x.code < y.code) : y.leq x = false := by
  rw [Bar.leq_code (hy.low hn) (hx.low hn)]
  exact decide_eq_false (by omega)
/-! ### check_drawers, check_bars, __init__ of what is right -/
structure spCheckDrawers (vs : List V) (H : Hp) (Q : VK) (_ : XK) : Prop where
  h : ∃ n : Int, vs = [.int n] ∧ 1 ≤ n ∧ n ≤ 7 ∧ Q .non H
structure spCheckBars (vs : List V) (H : Hp) (Q : VK) (_ : XK) : Prop where
  h : ∃ (n : Int) (t : Addr) (ks : List (Addr × Bar)), vs = [.int n, .ref t] ∧ n ≤ 7 ∧ BarsAt H t ks ∧ OkBars n (ks.map (·.2)) ∧ ∀ H', Same H H' → Q .non H'
theorem kd_ : ¬ (("_drawers" : Str) = "_bars") := by decide +kernel
def cfl (n : Int) (t : Addr) : List (Str × V) := putF "_bars" (.ref t) (putF "_drawers" (.int n) [])
theorem cfl_d (n : Int) (t : Addr) : (cfl n t).lookup ("_drawers" : Str) = some (.int n) := by
  unfold cfl
  rw [lookup_putF, if_neg kd_, lookup_putF, if_pos rfl]
theorem cfl_b (n : Int) (t : Addr) : (cfl n t).lookup ("_bars" : Str) = some (.ref t) := by
  unfold cfl
  rw [lookup_putF, if_pos rfl]
/-- a Cabinet stands at c -/
def CabAt (C : Addr) (H : Hp) (c : Addr) (n : Int) (t : Addr) : Prop := ∃ dx, H c = some (.ins C dx (cfl n t))
structure spInit (C : Addr) (vs : List V) (H : Hp) (Q : VK) (_ : XK) : Prop where
  h : ∃ (p dx : Addr) (n : Int) (t : Addr) (ks : List (Addr × Bar)), vs = [.ref p, .int n, .ref t] ∧ H p = some (.ins C dx []) ∧ 1 ≤ n ∧ n ≤ 7 ∧ BarsAt H t ks ∧ OkBars n (ks.map (·.2)) ∧
    ∀ H', H' p = some (.ins C dx (cfl n t)) → (∀ b o, b ≠ p → H b = some o → H' b = some o) → Q .non H'
/-- the class -/
structure CabT (K : PySem.W.Frag) (mg : Str → Option Value) (C : Addr) : Prop where
  cl : Cls K C
  nD : NoAttr K C "_drawers"
  nB : NoAttr K C "_bars"
  mgC : mg "Cabinet" = some (.ref C)
section
variable {P : Program} {w : World} {K : PySem.W.Frag} {mg : Str → Option Value} {base : Heap}
theorem scCheckDrawers : FnScope ["drawers"] ["drawers"] (defScope sCheckDrawers) := ⟨rfl, rfl, rfl, by decide +kernel, rfl, by decide +kernel, by decide +kernel⟩
theorem ok_checkDrawers {f f1 : Addr} {fd fd1 : FuncData} (F : Fun K "check_drawers" "check_drawers" sCheckDrawers f fd) (G : FnOk P w K mg base CX0 2 f1 fd1 ["value"] (spIsCount K)) (g1 : mg "is_drawer_count" = some (.ref f1)) (k1 : PySem.W.keepIn K (.ref f1) = true) (b1 : Binds K fd1 ["value"] []) :
    FnOk P w K mg base CX0 3 f fd ["drawers"] spCheckDrawers := by
  refine F.ok scCheckDrawers (fun vs H Q E h => ?_) (fun cdv A outer s H vs Q E hr h => ?_)
  · obtain ⟨n, rfl, _⟩ := h.h
    rfl
  · obtain ⟨n, rfl, h1, h2, k⟩ := h.h
    refine ⟨_, pss_one (ps_if (pt_not (pt_val (pe_call G (hr.mono (by decide)) rfl g1 k1 b1 .nil pass0 (pa_cons (pv 0) pa_nil)))) (pss_one ps_never) pss_nil), ?_⟩
    refine ⟨_, rfl, ⟨.inl ⟨n, rfl, _, rfl, ?_⟩⟩⟩
    rw [decide_eq_true h1, decide_eq_true h2]
    exact iteF k
theorem scCheckBars : FnScope ["drawers", "bars", "index", "bar"] ["drawers", "bars"] (defScope sCheckBars) := ⟨rfl, rfl, rfl, by decide +kernel, rfl, by decide +kernel, by decide +kernel⟩
theorem ok_checkBars {f f1 : Addr} {fd fd1 : FuncData} (F : Fun K "check_bars" "check_bars" sCheckBars f fd) (T : Bt mg) (G : FnOk P w K mg base CX0 3 f1 fd1 ["drawers", "value"] (spIsBar K)) (g1 : mg "is_bar" = some (.ref f1)) (k1 : PySem.W.keepIn K (.ref f1) = true) (b1 : Binds K fd1 ["drawers", "value"] []) :
    FnOk P w K mg base CX0 4 f fd ["drawers", "bars"] spCheckBars := by
  refine F.ok scCheckBars (fun vs H Q E h => ?_) (fun cdv A outer s H vs Q E hr h => ?_)
  · obtain ⟨n, t, ks, rfl, _⟩ := h.h
    rfl
  · obtain ⟨n, t, ks, rfl, hn, B, O, k⟩ := h.h
    have hu : _ < cLine := hr.units0
    refine ⟨_, pss_cons (ps_if (pt_not (pt_val (pe_callB call_isi (by rfl) T.isinstance (by decide +kernel) (pa_cons (pv 1) (pa_cons (pe_bltn (v := .ty "tuple") (by rfl) T.tuple (by decide +kernel) rfl) pa_nil))))) (pss_one ps_never) pss_nil)
      (pss_one (ps_for PassesOwn.never rfl (pi_enumT (by rfl) T.enumerate (pa_cons (pv 1) pa_nil)) (pg_tup (by rfl) (pgs_cons (pg_name (i := 2) scCheckBars.nd rfl (.inl rfl)) (pgs_cons (pg_name (i := 3) scCheckBars.nd rfl (.inl rfl)) pgs_nil)))
        (pss_cons (ps_if (pt_not (pt_val (pe_call G (hr.mono (by decide)) rfl g1 k1 b1 .nil pass0 (pa_cons (pv 0) (pa_cons (pv 3) pa_nil))))) (pss_one ps_never) pss_nil)
        (pss_one (ps_if (PW.pt (pw_and (pt_cmpR op_gt (pv 2) pe_int (nomark _)) (pw_and1 (pt_cmpR (op_leB hu) (pv 3) (pe_ix ix_tup (pv 1) (pe_op op_sub (pv 2) pe_int) (fun _ _ => rfl)) (nomark _))))) (pss_one ps_never) pss_nil))))), ?_⟩
    refine ⟨_, rfl, _, _, _, _, true, rfl, .ty "tuple", tyT (SqT.of' B.tu), kit_ty (by decide +kernel), _, rfl, iteF ?_⟩
    refine ⟨_, rfl, t, _, rfl, SqT.of' B.tu, ?_⟩
    refine for_it walk_enumT (fun i σ H' => ∃ v2 v3, σ = [some (.int n), some (.ref t), v2, v3] ∧ Same H H') ⟨_, _, rfl, Same.refl H⟩ (fun i σ H' _ ⟨_, _, _, s1⟩ => SqT.of' (s1 _ _ B.tu)) ?_ ?_
    · rintro i x σ H1 H2 hi ⟨v2, v3, rfl, s1⟩ ⟨T, x1, x2, rfl, hT, rfl, e1, e2⟩
      have e1' : V.int (i : Nat) = x1 := Option.some.inj e1
      subst e1'
      have e2 : (ks.map fun k => V.ref k.1)[i]? = some x2 := e2
      rw [List.getElem?_map] at e2
      cases ek : ks[i]? with
      | none => rw [ek] at e2; cases e2
      | some kk =>
        rw [ek] at e2
        have e2' : V.ref kk.1 = x2 := Option.some.inj e2
        subst e2'
        have s2 : Same H (upd H1 T (.tup [.int (i : Nat), .ref kk.1])) := s1.trans (same_upd hT)
        have hm : kk ∈ ks := List.mem_of_getElem? ek
        have hok : kk.2.ok n := O.ok _ (List.mem_map.mpr ⟨kk, hm, rfl⟩)
        refine ⟨T, _, rfl, SqT.of' upd_same, rfl, _, _, rfl, _, _, rfl, rfl, ?_⟩
        refine ⟨_, rfl, _, rfl, spIsBar_ok hok (SqT.of' (s2 _ _ (B.el kk hm))) ⟨_, rfl, iteF ?_⟩⟩
        refine ⟨_, rfl, _, _, rfl, rfl, _, rfl, ?_⟩
        refine ite2 (fun z => ?_) (fun z => iteF ⟨_, _, rfl, s2⟩)
        have h0 : 0 < i := by have := of_decide_eq_true z; omega
        obtain ⟨kp, ep⟩ : ∃ kp, ks[i - 1]? = some kp := by
          have := (List.getElem?_eq_some_iff.mp ek).1
          exact ⟨ks[i - 1]'(by omega), List.getElem?_eq_getElem (by omega)⟩
        have hmp : kp ∈ ks := List.mem_of_getElem? ep
        have hokp : kp.2.ok n := O.ok _ (List.mem_map.mpr ⟨kp, hmp, rfl⟩)
        refine ⟨_, rfl, _, rfl, _, rfl, _, _, rfl, rfl, t, _, _, .ref kp.1, rfl, rfl, SqT.of' (s2 _ _ B.tu), at_prev h0 (by rw [List.getElem?_map, ep]; rfl), ?_⟩
        refine ⟨kk.1, kp.1, kk.2, kp.2, rfl, rfl, SqT.of' (s2 _ _ (B.el kk hm)), SqT.of' (s2 _ _ (B.el kp hmp)), _, rfl, ?_⟩
        have hlt : kp.2.code < kk.2.code := pw_prev O.asc h0 (by rw [List.getElem?_map, ep]; rfl) (by rw [List.getElem?_map, ek]; rfl)
        rw [not_leq hn hokp hok hlt]
        exact iteF ⟨_, _, rfl, s2⟩
    · rintro σ H' ⟨v2, v3, rfl, s1⟩
      exact k H' s1
theorem scInit : FnScope ["self", "drawers", "bars"] ["self", "drawers", "bars"] (defScope sInit) := ⟨rfl, rfl, rfl, by decide +kernel, rfl, by decide +kernel, by decide +kernel⟩
theorem ok_init {f f1 f2 C : Addr} {fd fd1 fd2 : FuncData} (F : Fun K "__init__" "Cabinet.__init__" sInit f fd) (T : CabT K mg C) (G1 : FnOk P w K mg base CX0 3 f1 fd1 ["drawers"] spCheckDrawers) (g1 : mg "check_drawers" = some (.ref f1)) (k1 : PySem.W.keepIn K (.ref f1) = true) (b1 : Binds K fd1 ["drawers"] [])
    (G2 : FnOk P w K mg base CX0 4 f2 fd2 ["drawers", "bars"] spCheckBars) (g2 : mg "check_bars" = some (.ref f2)) (k2 : PySem.W.keepIn K (.ref f2) = true) (b2 : Binds K fd2 ["drawers", "bars"] []) : FnOk P w K mg base CX0 5 f fd ["self", "drawers", "bars"] (spInit C) := by
  refine F.ok scInit (fun vs H Q E h => ?_) (fun cdv A outer s H vs Q E hr h => ?_)
  · obtain ⟨p, dx, n, t, ks, rfl, _⟩ := h.h
    rfl
  · obtain ⟨p, dx, n, t, ks, rfl, hp, h1, h7, B, O, k⟩ := h.h
    refine ⟨_, pss_cons (ps_expr (pe_call G1 (hr.mono (by decide)) rfl g1 k1 b1 .nil pass0 (pa_cons (pv 1) pa_nil))) (pss_cons (ps_expr (pe_call G2 (hr.mono (by decide)) rfl g2 k2 b2 .nil pass0 (pa_cons (pv 1) (pa_cons (pv 2) pa_nil))))
      (pss_cons (ps_fld (pv 0) (pv 1) rfl) (pss_one (ps_fld (pv 0) (pv 2) rfl)))), ?_⟩
    refine ⟨_, rfl, ⟨n, rfl, h1, h7, ?_⟩⟩
    refine ⟨_, rfl, _, rfl, ⟨n, t, ks, rfl, h7, B, O, fun H1 s1 => ?_⟩⟩
    refine ⟨_, rfl, _, rfl, p, C, dx, _, rfl, s1 _ _ hp, T.cl, T.nD, (by show 0 < 1000; decide), _, rfl, _, rfl, p, C, dx, _, rfl, upd_same, T.cl, T.nB, (by show 1 < 1000; decide), ?_⟩
    refine k _ upd_same fun b o hb e => ?_
    rw [upd_ne hb, upd_ne hb]
    exact s1 _ _ e
end
end DL

set_option Elab.async false
set_option maxRecDepth 100000
set_option maxHeartbeats 1000000
namespace DL
open PySem PySem.Spec PyProof.Rows L2
/-- super().__init__(..) called: the error's args are laid anew -/
theorem mw_call {P : Program} {w : World} {A : Around} {E : Value → Shared → Prop} {h : Heap} {g : Array GenState} {d : Drawn} {t : Nat} {os : OsState} {nm q : Str} {C N : Addr} {bs bm : List Value} {hdct : Bool} {sn : List Str} {sub : List Value} {ab : Bool} {col : Option Bool} {dd : Option Addr} {k0 k1 k2 k3 k5 : Option Value}
    {u e t0 : Addr} {rest : List Value} {Q : Value → Shared → Prop}
    (hC : h.get? C = some (excClassObj nm q C N bs bm hdct sn sub ab col dd k0 k1 k2 k3 k5 "ValueError.__new__")) (he : h.get? e = some ({ cls := .ref C, dict := none, data := .fields #[.ref t0, .none, .none, .none, .bool false, .none] } : Obj)) (hu : h.get? u = some (PySem.W.kxs_mw "ValueError.__init__" e)) (hrest : rest.length ≤ sizeLine)
    (hq : ∀ h' t1, (∀ b o, b ≠ e → h.get? b = some o → h'.get? b = some o) → h'.get? e = some ({ cls := .ref C, dict := none, data := .fields #[.ref t1, .none, .none, .none, .bool false, .none] } : Obj) → Q .none ⟨h', g, d, t, os⟩) :
    wpAny (model P w) A (call (.ref u) rest) Q E ⟨h, g, d, t, os⟩ := by
  have FB := F.excBase_ValueError
  refine wpAny_call (codeAny_of_tree ?_)
  show wpAny _ A.in1 (callAny (.ref u) ⟨rest, []⟩) _ _ _
  simp only [callAny]
  refine wpAny_bind (wpAny_load hu ?_)
  simp only [PySem.W.kxs_mw, show (Value.type "method-wrapper" == Value.type "method" || Value.type "method-wrapper" == Value.type "builtin_function_or_method" || Value.type "method-wrapper" == Value.type "method-wrapper") = true by decide, if_true]
  refine PySem.W.KFB.if_so (by decide) ?_
  refine wpAny_bind (PySem.W.check_bound_init FB.toExcCallFacts hC he rfl ?_)
  refine wpAny_bind (wpAny_pure (wpAny_pure ?_))
  refine ⟨plainId_quiet FB.init.plain _, codeAny_builtin FB.initEntry ?_⟩
  exact PySem.W.exc_init_tree (cls := .ref C) (t0 := t0) (dv := none) (c2 := .none) (c3 := .none) (b4 := .bool false) he hrest fun h' k he' _ => hq h' _ k he'
structure SupK (K : PySem.W.Frag) (P : Program) (f C cc cda : Addr) (fd : FuncData) (slf : Str) : Prop where
  T : OexC K C
  mro : ∃ cd, PySem.W.clsIn K C = some cd ∧ PySem.W.alongIn K "__init__" ((cd.mro.dropWhile (· != .ref C)).drop 1) = some (some (.builtin "ValueError.__init__"))
  lf : ∃ oc od osl, K.lookup f = some ⟨oc, od, .func fd, osl⟩
  hp : ∃ ar, (fd.params.posonlyargs ++ fd.params.args).head? = some ar ∧ ar.arg = slf
  code : ∃ ccl cdd vs ccs file tf, K.lookup cda = some ⟨ccl, cdd, .fields vs, ccs⟩ ∧ vs[2]? = some (.str file tf) ∧ ((P.main.file : Str) == file) = true
  cell : ∃ cl cld csl, K.lookup cc = some ⟨cl, cld, .cell (some (.ref C)), csl⟩
  sub : PySem.W.mroIn K C (.ref C) = some true
  any : PySem.W.nsIn K cStatics "thirdparty.any" = some none
  subB : PySem.W.subIn K (.ref C) (.type "ValueError") = some true
  top : (P.main.scope.names.lookup ("super" : Str)).isSome = false
theorem boot_super_ : bootBuiltins ("super" : Str) = some (.type "super") := by decide +kernel
section
variable {X : Cx} {pins : List (Addr × Obj)} {σ : L2.St} {H : Hp} {s : Shared} {D : Ends} {f C cc cda a : Addr} {fd : FuncData} {slf : Str} {e : Expr} {es : List Expr} {ta : TA} {body : List Stmt} {p0 p1 apos pos pos' : Pos} {pl : Sem Bool}
theorem sup_run (S : SupK X.K X.prog f C cc cda fd slf) (hfu : X.env.func = some f) (hco : X.env.code = .ref cda) (hcl : X.env.cells.lookup ("__class__" : Str) = some cc) (hks : X.env.kindOf "super" = some .globalImplicit) (hkc : X.env.kindOf "__class__" = some .free)
    (hka : X.env.kindOf slf = some .local) (hN : X.N[0]? = some slf) (hm : X.mg "super" = none) (ha : PA X (e :: es) ta) (I : Inv X pins σ H s) (hσ : σ[0]? = some (some (.ref a))) (hea : H a = some (exo a C none))
    (h : ta σ H fun vs H1 => vs.length ≤ 1000 ∧ H1 a = some (exo a C none) ∧ D.nx σ H1)
    (hev : eval (.Call (.Attribute (.Call (.Name "super" p0) [] [] p1) "__init__" apos) (e :: es) [] pos) X.env = (do
      let ov ← attributeBase (.Call (.Name "super" p0) [] [] p1) "__init__" X.env (eval (.Call (.Name "super" p0) [] [] p1) X.env)
      standAt apos.atName
      let (f, first) ← holding [ov] (getMethod ov "__init__" pl)
      callWith pos f first (backTo pos (starEach (e :: es) X.env)) []) := by rfl)
    (hi : interactive X.env = false := by rfl) (hsw : swapsWith (.Call (.Attribute (.Call (.Name "super" p0) [] [] p1) "__init__" apos) (e :: es) [] pos) none pos'.line X.env = pure false := by rfl)
    (hst : starEach (e :: es) X.env = (false, eval e X.env) :: starEach es X.env := by rfl) (hpl : (backTo pos (starEach es X.env)).any (·.1) = false := by rfl) :
    PySem.wpAt (model X.prog X.w) X.A (.func body X.env) (exec (.Expr (.Call (.Attribute (.Call (.Name "super" p0) [] [] p1) "__init__" apos) (e :: es) [] pos) pos') X.env) (SP X pins D) X.xe s := by
  obtain ⟨cd, hcd, halong⟩ := S.mro
  obtain ⟨oc, od, osl, lf⟩ := S.lf
  obtain ⟨ar, har, hslf⟩ := S.hp
  obtain ⟨ccl, cdd, vs, ccs, file, tf, hcode, hvs, hfile⟩ := S.code
  obtain ⟨cl, cld, csl, hcell⟩ := S.cell
  have X0 := I.kIn
  obtain ⟨mb, hb1, hb2⟩ := I.mod.blt
  obtain ⟨m, hn, hl⟩ := I.loc
  obtain ⟨u, ru, hlook⟩ := hl 0 slf (.ref a) hN hσ (.inl hka)
  have hmv : m slf = some (.ref a) := by
    obtain rfl : u = Value.ref a := ru
    rcases hlook with ⟨_, q⟩ | ⟨q | q, _⟩
    · exact q
    · rw [hka] at q; cases q
    · rw [hka] at q; cases q
  have hbk := I.bk
  have hok := I.ok
  obtain ⟨t1, ho⟩ := exo_at I.hok hea
  have hac : a ≠ C := fun z => by
    obtain ⟨nm, q, N, bs, bm, sn, sub, ab, col, dd, k0, k1, k2, k3, k5, hC, _⟩ := S.T.cls
    have := (I.bs C _ (I.mod.kin _ _ hC)).2
    rw [← z, hea] at this
    cases this
  have hD : ∃ oD, s.heap.get? C = some oD ∧ oD.data = .cls cd := by
    unfold PySem.W.clsIn at hcd
    split at hcd
    · rename_i c d cd' sl ho'
      cases hcd
      exact ⟨_, X0 _ _ ho', rfl⟩
    · cases hcd
  obtain ⟨oD, hD1, hD2⟩ := hD
  obtain ⟨hh, g, d, t, os⟩ := s
  refine PySem.ks_wpAt_Expr_any ?_ hi hsw
  refine PySem.ks_wpAt_MethodCall ?_ hev
  refine PySem.ks_wpAt_super_base hks hkc rfl hfu (X0 _ _ lf) rfl har hco (X0 _ _ hcode) rfl hvs hfile S.top ?_
  refine PySem.W.ks_loadName_global hok.kind hks (Calls.loadGlobal_builtin (by rw [hok.glob]; exact I.mod.glob.keeps hbk) hm (by rw [hok.blt]; exact hb1.keeps hbk) ((hb2 "super" (by decide)).trans boot_super_) ⟨rfl, ?_⟩)
  refine wpAny_loadName_free hok.kind hkc hcl ⟨_, X0 _ _ hcell, rfl⟩ ?_
  rw [hslf]
  refine wpAny_loadName_local hok.kind hka hn hmv ?_
  refine PySem.ks_wpAny_isType_cls hD1 hD2 ⟨rfl, ?_⟩
  refine PySem.ks_wpAny_call_super hD1 hD2 ho rfl (fun c z => by cases z) (PySem.W.looks_mroIn X0 S.sub) (fun h' e' k => ?_)
  have I1 : Inv X pins σ H ⟨h', g, d, t, os⟩ := I.kept (t' := t) k
  have X1 := I1.kIn
  obtain ⟨t2, ho1⟩ := exo_at I1.hok hea
  have hI : PySem.W.Looks (model X.prog X.w) h' (isInstance (.ref a) (.type "ValueError")) true := (show PySem.W.InstAt h' a _ C none from ⟨ho1, rfl, rfl, trivial⟩).type.andThen (PySem.W.looks_subIn X1 S.subB)
  refine PySem.W.kxs_getMethod PySem.W.kxs_ValueError e' (PySem.W.looks_opaque X1 S.any) (l₀ := cd.mro) (fun A Q E s k q => wpAny_bind ((PySem.W.looks_clsIn X1 hcd) A _ E s k (wpAny_pure q))) rfl X1 halong hI hac rfl ?_
  have I2 : Inv X ((h'.objs.size, PySem.W.kxs_mw "ValueError.__init__" a) :: pins) σ H ⟨h'.push (PySem.W.kxs_mw "ValueError.__init__" a), g, d, t + 1, os⟩ :=
    ClX.pin_new (t' := t + 1) I1 (fun b u z => Heap.get?_push_of_some _ z) (Nat.le_refl _) (Heap.get?_push_size _ rfl) (fun v z => by cases z)
  rw [hst]
  refine PySem.W.kxs_callWith (i := "ValueError.__init__") (x := a) (by show (false || (backTo pos (starEach es X.env)).any (·.1)) = false; rw [hpl]; rfl) ?_
  refine PySem.Calls.evalArgs_plain ?_
  have hrun := ha.run pos _ _ σ H _ I2 h
  rw [hst] at hrun
  refine thn hrun fun us s1 ⟨vs1, H1, I3, r1, hlen, hea3, q⟩ => ⟨ClX.pin_at I3, ?_⟩
  obtain ⟨t3, ho3⟩ := exo_at I3.hok hea3
  obtain ⟨nm, q', N', bs, bm, sn, sub, ab, col, dd, k0, k1, k2, k3, k5, hC, hbm⟩ := S.T.cls
  have hlen2 : us.length ≤ sizeLine := by
    rw [← Paired.length r1, sizeLine_eq]
    omega
  obtain ⟨hh3, g3, d3, t4, os3⟩ := s1
  refine mw_call (I3.kIn _ _ hC) ho3 (ClX.pin_at I3) hlen2 fun h4 t5 k4 e4 => ?_
  have J := (ClX.unpin I3).write (t' := t4) (x := a) (e := a) (o := exo a C none) (by rw [hea3]; exact True.intro) (.inl rfl) k4 ⟨_, e4⟩ (exo_ok e4)
  have eu : upd H1 a (exo a C none) = H1 := by
    funext b
    by_cases hb : b = a
    · rw [hb, upd_same, hea3]
    · rw [upd_ne hb]
  rw [eu] at J
  exact ⟨σ, H1, J, q⟩
end
/-! ### a method that says super(): its body runs where its class's cell is read -/
structure SupScope (N ps : List Str) (sc : Scope) : Prop where
  kind : sc.kind = .function
  co : sc.isCoroutine = false
  gen : sc.isGenerator = false
  nd : N.Nodup
  pre : N.take ps.length = ps
  par : ∀ x ∈ ps, sc.names.lookup x = some .local
  nocell : ∀ y ∈ sc.names, y.2 ≠ .cell
  only : ∀ y ∈ sc.names, y.2 = .free → y.1 = "__class__"
def cxS (CX : CXT) (P : Program) (w : World) (K : PySem.W.Frag) (mg : Str → Option Value) (base : Heap) (N : List Str) (qual : Str) (scope : Scope) (f : Addr) (cd : Value) (cc : Addr) (A : Around) (outer : List Env) (s : Shared) (H : Hp) (E : XK) : Cx where
  prog := P
  w := w
  K := K
  mg := mg
  base := base
  A := A.deeper (PySem.W.ksEnv qual scope s.heap.objs.size f cd cc)
  N := N
  s_0 := s
  H_0 := H
  env := PySem.W.ksEnv qual scope s.heap.objs.size f cd cc
  outer := outer
  stack := PySem.W.ksEnv qual scope s.heap.objs.size f cd cc :: outer
  ex := []
  calm := true
  fn := fun _ => false
  pn := []
  xe := fun e s' => wpAny (model P w) (A.deeper (PySem.W.ksEnv qual scope s.heap.objs.size f cd cc)) (leaving (PySem.W.ksEnv qual scope s.heap.objs.size f cd cc) e) (fun _ s'' => CX outer H s E e s'') (fun e' s'' => CX outer H s E e' s'') s'
theorem zip_sub : ∀ (ps : List Str) (us : List Value), ((ps.zip us).map (·.1)).Sublist ps
  | [], us => by simp
  | p :: ps, [] => by simp
  | p :: ps, u :: us => by
    show (p :: (ps.zip us).map (·.1)).Sublist (p :: ps)
    exact (zip_sub ps us).cons₂ p
theorem zip_get : ∀ {ps : List Str} {us : List Value} {i : Nat} {x : Str} {u : Value}, ps.Nodup → ps[i]? = some x → us[i]? = some u → (ps.zip us).reverse.lookup x = some u := by
  intro ps us i x u nd hp hu
  have hm : (x, u) ∈ (ps.zip us).reverse := by
    rw [List.mem_reverse]
    have : (ps.zip us)[i]? = some (x, u) := by
      rw [List.getElem?_zip_eq_some]
      exact ⟨hp, hu⟩
    exact List.mem_of_getElem? this
  have nd' : ((ps.zip us).reverse.map (·.1)).Nodup := by
    rw [List.map_reverse]
    refine (List.reverse_perm _).nodup_iff.mpr ?_
    exact nd.sublist (zip_sub ps us)
  clear hp hu nd
  generalize (ps.zip us).reverse = l at hm nd'
  induction l with
  | nil => cases hm
  | cons p l ih =>
    obtain ⟨y, v⟩ := p
    rw [List.map_cons, List.nodup_cons] at nd'
    rcases List.mem_cons.mp hm with e | e
    · cases e
      simp [List.lookup]
    · have hne : ¬ x = y := fun z => nd'.1 (z ▸ List.mem_map.mpr ⟨(x, u), e, rfl⟩)
      have : (x == y) = false := by simpa using hne
      simp only [List.lookup, this]
      exact ih e nd'.2
theorem inv_startS {CX : CXT} {P : Program} {w : World} {K : PySem.W.Frag} {mg : Str → Option Value} {base : Heap} {N ps : List Str} {qual : Str} {scope : Scope} {f cc D : Addr} {cd cl : Value} {cld : Option Addr} {csl : Array (Option Value)} {A : Around} {outer : List Env} {s : Shared} {h₀ : Heap} {H : Hp} {E : XK} {us : List Value} {vs : List V} {tk : Nat}
    (S : SupScope N ps scope) (hcell : K.lookup cc = some ⟨cl, cld, .cell (some (.ref D)), csl⟩) (hd : A.handled = none) (e0 : Env0 P w K mg base A outer s H) (hl : vs.length = ps.length) (r : Vals vs us)
    (hns : h₀.Ns s.heap.objs.size (fun x => (ps.zip us).reverse.lookup x)) (hk : ∀ b o, s.heap.get? b = some o → h₀.get? b = some o) :
    Inv (cxS CX P w K mg base N qual scope f cd cc A outer s H E) [] (L2.start N vs) H { s with heap := h₀, toks := tk } := by
  have hpl : ps.length ≤ N.length := by have := congrArg List.length S.pre; rw [List.length_take] at this; omega
  have noA : ∀ b : Addr, b ∉ (cxS CX P w K mg base N qual scope f cd cc A outer s H E).ex := fun b z => absurd (show b ∈ ([] : List Addr) from z) (by simp)
  have one : ∀ {y : Str} {c : Addr}, (cxS CX P w K mg base N qual scope f cd cc A outer s H E).env.cells.lookup y = some c → y = "__class__" ∧ c = cc := fun {y c} z => by
    have z : ([("__class__", cc)] : List (Str × Addr)).lookup y = some c := z
    by_cases q : y = "__class__"
    · subst q
      simp [List.lookup] at z
      exact ⟨rfl, z.symm⟩
    · have : (y == ("__class__" : Str)) = false := by simpa using q
      simp [List.lookup, this] at z
  have hcb := e0.mod.kin _ _ hcell
  refine ⟨⟨e0.mod, S.kind, rfl, rfl, Nat.le_refl _, fun y z c h1 h2 => ?_, fun y hy => ?_, fun y c z _ => (by cases z), fun _ => hd, Around.frames_deeper e0.frames, .inr ⟨rfl, rfl⟩, fun b z => absurd z (noA b), e0.bs, e0.bsz, fun b _ _ => noA b, fun b z => absurd z (noA b), e0.funs, e0.frf⟩,
    rfl, e0.bare, Un.kept hk, ⟨_, hns, fun i y v h1 h2 h3 => ?_⟩, fun y c h => ?_, e0.hok.fresh (Nat.le_refl _), fun y c h => ?_, fun p hp => absurd (show p ∈ ([] : List (Addr × Obj)) from hp) (by simp), e0.hok.kept hk, ?_⟩
  · rw [(one h1).1, (one h2).1]
  · have hy : scope.names.lookup y = some .cell ∨ scope.names.lookup y = some .free := hy
    rcases hy with hy | hy
    · exact absurd rfl (S.nocell _ (PySem.mem_of_lookup hy))
    · have := S.only _ (PySem.mem_of_lookup hy) rfl
      have this : y = "__class__" := this
      subst this
      exact ⟨cc, by show ([("__class__", cc)] : List (Str × Addr)).lookup ("__class__" : Str) = some cc; simp [List.lookup]⟩
  · have hi : i < vs.length := by
      unfold L2.start at h2
      by_cases hi : i < vs.length
      · exact hi
      · rw [List.getElem?_append_right (by simpa using hi)] at h2
        rw [List.getElem?_replicate] at h2
        split at h2 <;> cases h2
    have ha : vs[i]? = some v := by
      unfold L2.start at h2
      rw [List.getElem?_append_left (by simpa using hi), List.getElem?_map] at h2
      cases e : vs[i]? with
      | none => rw [e] at h2; cases h2
      | some a => rw [e] at h2; cases h2; rfl
    obtain ⟨u, hu, rv⟩ := r.get ha
    have hp : ps[i]? = some y := by
      rw [← S.pre, List.getElem?_take_of_lt (by omega)]; exact h1
    have ndP : ps.Nodup := by rw [← S.pre]; exact S.nd.sublist (List.take_sublist _ _)
    exact ⟨u, rv, .inl ⟨S.par y (List.mem_of_getElem? hp), zip_get ndP hp hu⟩⟩
  · rw [(one h).2]
    exact ⟨_, _, hk _ _ (e0.bs _ _ hcb).1, rfl⟩
  · rw [(one h).2]
    exact (e0.bs _ _ hcb).2
  · unfold L2.start
    show _ = N.length
    rw [List.length_append, List.length_map, List.length_replicate]
    omega
theorem fn_ofS {CX : CXT} {P : Program} {w : World} {K : PySem.W.Frag} {mg : Str → Option Value} {base : Heap} {k : Nat} {f cc D : Addr} {name qual : Str} {params : Arguments} {body : List Stmt} {scope : Scope} {dV kV doc pm cdv ct oc cl : Value} {an od cld : Option Addr}
    {osl csl : Array (Option Value)} {N ps : List Str} {sp : Sp} (lk : K.lookup f = some ⟨oc, od, .func (PySem.W.ksFn name qual params body scope dV kV doc pm an cdv ct cc), osl⟩) (hcd : PySem.W.codeIn K cdv qual = true) (hcell : K.lookup cc = some ⟨cl, cld, .cell (some (.ref D)), csl⟩) (S : SupScope N ps scope)
    (len : ∀ vs H Q E, sp vs H Q E → vs.length = ps.length)
    (hbody : ∀ (A : Around) (outer : List Env) (s s1 : Shared) (H : Hp) (vs : List V) (Q : VK) (E : XK), sp vs H Q E → Inv (cxS CX P w K mg base N qual scope f cdv cc A outer s H E) [] (L2.start N vs) H s1 →
      PySem.wpAt (model P w) (cxS CX P w K mg base N qual scope f cdv cc A outer s H E).A (.func body (cxS CX P w K mg base N qual scope f cdv cc A outer s H E).env) (execs body (cxS CX P w K mg base N qual scope f cdv cc A outer s H E).env)
        (SP (cxS CX P w K mg base N qual scope f cdv cc A outer s H E) [] { nx := fun _ H' => Q .non H', rt := Q }) (cxS CX P w K mg base N qual scope f cdv cc A outer s H E).xe s1) :
    FnOk P w K mg base CX (k + 1) f (PySem.W.ksFn name qual params body scope dV kV doc pm an cdv ct cc) ps sp := by
  refine ⟨len, fun A outer s H args us vs Q E hr e0 hb r hsp => ?_⟩
  have hl := len _ _ _ _ hsp
  have KX : K.In s.heap := e0.mod.kin.keeps fun b o e => (e0.bs b o e).1
  have lim : s.heap.NoLimit := e0.mod.nolimit.keeps fun b o e => (e0.bs b o e).1
  refine PySem.ks_codeAny_call_defAt (fd := PySem.W.ksFn name qual params body scope dV kV doc pm an cdv ct cc) (body := body) (binds := ps.zip us) hr.depth (KX _ _ lk) rfl lim (PySem.W.codeRec_of KX hcd) rfl hb S.nocell (fun y hy => S.par _ (List.of_mem_zip hy).1) (fun h₀ hns hk => ?_) S.co S.gen S.kind
  have I : Inv (cxS CX P w K mg base N qual scope f cdv cc A outer s H E) [] (L2.start N vs) H { s with heap := h₀, toks := s.toks + (ps.zip us).length } := inv_startS S hcell hr.hd e0 hl r hns hk
  refine PySem.ks_wpAt_mono (hbody A outer s _ H vs Q E hsp I) (fun fl s' hs => ?_) fun e s' hs => hs
  have fin : ∀ {σ' : L2.St} {H' : Hp} {v : V} {u : Value}, Inv (cxS CX P w K mg base N qual scope f cdv cc A outer s H E) [] σ' H' s' → RelV v u → Q v H' → CE outer P w H s Q u s' :=
    fun {σ' H' v u} J rv q => ⟨v, H', J.os, J.bare, J.base, J.hok, rv, q⟩
  cases fl with
  | ret u =>
    obtain ⟨v, σ', H', J, rv, q⟩ := hs
    exact fin J rv q
  | next =>
    obtain ⟨σ', H', J, q⟩ := hs
    exact fin (v := V.non) (u := Value.none) J rfl q
  | brk =>
    obtain ⟨_, _, _, q⟩ := hs
    exact False.elim q
  | cont =>
    obtain ⟨_, _, _, q⟩ := hs
    exact False.elim q
end DL

set_option Elab.async false
set_option maxRecDepth 100000
set_option maxHeartbeats 1000000
namespace DL
open PySem PySem.Spec PyProof.Rows L2
/-! ### {x}: None or a number -/
def tFmtN (te : TE) : TE := fun σ H Q => te σ H fun x H1 => (x = .non ∧ Q (.str "None") H1) ∨ ∃ i : Int, x = .int i ∧ i.natAbs.log2 < 1920 ∧ Q (.str (toString i)) H1
theorem pe_fmtN {X : Cx} {e : Expr} {te : TE} {pos : Pos} (he : PE X e te) : PE X (.FormattedValue e (-1) none pos) (tFmtN te) := by
  refine ⟨fun pins s σ H Q I h => ?_⟩
  refine wpAny_FormattedValue_plain (thn (he.run pins s σ H _ I h) fun v s1 hv => ?_)
  obtain ⟨x, H1, I1, r1, q⟩ := hv
  rcases q with ⟨rfl, q⟩ | ⟨i, rfl, hz, q⟩
  · obtain rfl : v = Value.none := r1
    exact wpAny_formatField_none ⟨.str "None", H1, I1.tok _, ⟨_, rfl⟩, q⟩
  · obtain ⟨t, rfl⟩ := r1
    exact wpAny_formatField_int hz ⟨.str (toString i), H1, I1.tok _, ⟨_, rfl⟩, q⟩
/-- a def of a class with super() in it -/
structure FunS (K : PySem.W.Frag) (x qual : Str) (st : Stmt) (f cda cc : Addr) (fd : FuncData) : Prop where
  ex : ∃ (oc : Value) (od an : Option Addr) (kV doc pm ct : Value) (osl : Array (Option Value)), fd = PySem.W.ksFn x qual (defArgs st) (defBody st) (defScope st) .none kV doc pm an (.ref cda) ct cc ∧ K.lookup f = some ⟨oc, od, .func fd, osl⟩ ∧ PySem.W.codeIn K (.ref cda) qual = true
structure spBad (C : Addr) (vs : List V) (H : Hp) (Q : VK) (_ : XK) : Prop where
  h : ∃ (a : Addr) (x : V), vs = [.ref a, x] ∧ (x = .non ∨ ∃ i : Int, x = .int i ∧ 0 ≤ i ∧ i ≤ 100) ∧ H a = some (exo a C none) ∧ ∀ dx, H dx = none → dx ≠ a → Q .non (upd (upd H dx (exd dx [("index", x)])) a (exo a C (some dx)))
theorem small_log {i : Int} (h0 : 0 ≤ i) (h1 : i ≤ 1000) : i.natAbs.log2 < 1920 := by
  have : i.natAbs < 2 ^ 1920 := Nat.lt_of_le_of_lt (show i.natAbs ≤ 1000 by omega) (by decide +kernel)
  by_cases z : i.natAbs = 0
  · rw [z]; decide
  · exact (Nat.log2_lt z).mpr this
theorem int_len {i : Int} (h0 : 0 ≤ i) (h1 : i ≤ 100) : ((Str.empty ++ ("wrong bars, index " : Str)) ++ (toString i : Str)).length ≤ sizeLine := by
  have z : ∀ n : Fin 101, ((Str.empty ++ ("wrong bars, index " : Str)) ++ (toString ((n.val : Nat) : Int) : Str)).length ≤ sizeLine := by decide +kernel
  have := z ⟨i.toNat, by omega⟩
  rw [show ((i.toNat : Nat) : Int) = i by omega] at this
  exact this
section
variable {P : Program} {w : World} {K : PySem.W.Frag} {mg : Str → Option Value} {base : Heap}
theorem scBad : SupScope ["self", "index"] ["self", "index"] (defScope s_BadBars__init_) := ⟨rfl, rfl, rfl, by decide +kernel, rfl, by decide +kernel, by decide +kernel, by decide +kernel⟩
theorem ok_badInit {f C cc cda : Addr} {fd : FuncData} (F : FunS K "__init__" "BadBars.__init__" s_BadBars__init_ f cda cc fd) (S : SupK K P f C cc cda fd "self") (hm : mg "super" = none) (hi : PySem.W.findIn K (.ref C) "index" = some none) : FnOk P w K mg base CX0 1 f fd ["self", "index"] (spBad C) := by
  obtain ⟨oc, od, an, kV, doc, pm, ct, osl, rfl, lk, hcd⟩ := F.ex
  obtain ⟨cl, cld, csl, hcell⟩ := S.cell
  refine fn_ofS lk hcd hcell scBad (fun vs H Q E h => ?_) (fun A outer s s1 H vs Q E hsp I => ?_)
  · obtain ⟨a, x, rfl, _⟩ := h.h
    rfl
  · obtain ⟨a, x, rfl, hx, hea, q⟩ := hsp.h
    have rest : PSs (cxS CX0 P w K mg base ["self", "index"] "BadBars.__init__" (defScope s_BadBars__init_) f (.ref cda) cc A outer s H E) ((defBody s_BadBars__init_).drop 1) _ := pss_one (ps_ost (pv 0) (pv 1))
    refine PySem.ks_wpAt_execs_cons (PySem.ks_wpAt_mono (sup_run (D := { nx := fun σ' H' => σ' = L2.start ["self", "index"] [.ref a, x] ∧ H' = H, rt := fun _ _ => False }) S rfl rfl rfl rfl rfl rfl rfl hm
      (pa_cons (pe_joined (.cons pe_str (.cons (pe_fmtN (pv 1)) .nil))) pa_nil) I rfl hea ?_) (fun fl s' hs => ?_) fun _ _ z => z)
    · refine ⟨_, rfl, by decide +kernel, _, rfl, ?_⟩
      rcases hx with rfl | ⟨i, rfl, i0, i1⟩
      · exact .inl ⟨rfl, _, rfl, by decide +kernel, by show 1 ≤ 1000; decide, hea, rfl, rfl⟩
      · exact .inr ⟨i, rfl, small_log i0 (by omega), _, rfl, int_len i0 i1, by show 1 ≤ 1000; decide, hea, rfl, rfl⟩
    · cases fl with
      | next =>
        obtain ⟨σ', H', J, rfl, rfl⟩ := hs
        exact PySem.wpAt_of_wpAny (rest.run [] s' _ _ _ J ⟨_, rfl, _, rfl, a, C, rfl, S.T, hi, .inl ⟨hea, fun dx hdx hda => q dx hdx hda⟩⟩)
      | ret u =>
        obtain ⟨_, _, _, _, _, z⟩ := hs
        exact False.elim z
      | brk =>
        obtain ⟨_, _, _, z⟩ := hs
        exact False.elim z
      | cont =>
        obtain ⟨_, _, _, z⟩ := hs
        exact False.elim z
end
end DL

set_option Elab.async false
set_option maxRecDepth 100000
set_option maxHeartbeats 1000000
namespace DL
open PySem L2
/-! ### the checks with what they raise -/
/-- an own error without its own making -/
structure ErrT (K : PySem.W.Frag) (mg : Str → Option Value) (x : Str) (CB : Addr) : Prop where
  g : mg x = some (.ref CB)
  x : PySem.W.excIn K CB [.type "ValueError", .type "Exception", .type "BaseException", .type "object"] "ValueError.__new__" = true
  k : PySem.W.keepIn K (.ref CB) = true
  b : PySem.W.subIn K (.ref CB) (.type "BaseException") = some true
  t : PySem.W.typeIn K (.ref CB) = some (.type "type")
/-- BadBars: the class, its __init__ -/
structure BadT (P : Program) (w : World) (K : PySem.W.Frag) (mg : Str → Option Value) (base : Heap) (CB : Addr) : Prop where
  T : OexC K CB
  g : mg "BadBars" = some (.ref CB)
  i : ∃ fI fd, PySem.W.findIn K (.ref CB) "__init__" = some (some (.ref fI)) ∧ PySem.W.typeIn K (.ref fI) = some (.type "function") ∧ FnOk P w K mg base CX0 1 fI fd ["self", "index"] (spBad CB) ∧ Binds K fd ["self", "index"] []
/-- the raised error: its dict is new -/
def exBad (CB : Addr) (x : V) (H : Hp) (E : XK) : Prop := ∀ (d : Addr) (H' : Hp), H d = none → Same H H' → H' d = some (.xd [("index", x)]) → E (.ref CB) (some d) H'
structure spCkDX (K : PySem.W.Frag) (CD : Addr) (vs : List V) (H : Hp) (Q : VK) (E : XK) : Prop where
  h : (∃ n : Int, vs = [.int n] ∧ (1 ≤ n ∧ n ≤ 7 → Q .non H) ∧ (¬ (1 ≤ n ∧ n ≤ 7) → E (.ref CD) none H)) ∨
  ∃ (v : V) (t : Value) (b1 b2 : Bool), vs = [v] ∧ TyX K H v t ∧ PySem.W.kitOne K t (.type "int") = some b1 ∧ PySem.W.kitOne K t (.type "bool") = some b2 ∧ (b1 && !b2) = false ∧ E (.ref CD) none H
/-- what is_bar says False of -/
def NoBar (K : PySem.W.Frag) (H : Hp) (n : Int) (v : V) : Prop := (∃ t : Value, TyX K H v t ∧ PySem.W.kitOne K t (.type "tuple") = some false) ∨
  (∃ (a : Addr) (xs : List V), v = .ref a ∧ SqT K H a xs ∧ xs.length ≠ 4) ∨
  ∃ (a : Addr) (x0 x1 x2 x3 : V), v = .ref a ∧ SqT K H a [x0, x1, x2, x3] ∧ scV x0 = true ∧ scV x1 = true ∧ scV x2 = true ∧ scV x3 = true ∧ barB n x0 x1 x2 x3 = false
theorem NoBar.sp {K : PySem.W.Frag} {H : Hp} {n : Int} {v : V} {Q : VK} {E : XK} (h : NoBar K H n v) (k : Q (.bl false) H) : spIsBar K [.int n, v] H Q E := by
  rcases h with ⟨t, h1, h2⟩ | ⟨a, xs, rfl, h1, h2⟩ | ⟨a, x0, x1, x2, x3, rfl, h1, c0, c1, c2, c3, h2⟩
  · exact ⟨⟨n, .inl ⟨v, t, rfl, h1, h2, k⟩⟩⟩
  · exact ⟨⟨n, .inr (.inl ⟨a, xs, rfl, h1, h2, k⟩)⟩⟩
  · exact ⟨⟨n, .inr (.inr ⟨a, x0, x1, x2, x3, rfl, h1, c0, c1, c2, c3, by rw [h2]; exact k⟩)⟩⟩
/-- wrong bars, no tuple: None; else the first wrong one stands behind good ones -/
structure spCkBX (K : PySem.W.Frag) (CB : Addr) (vs : List V) (H : Hp) (Q : VK) (E : XK) : Prop where
  h : (∃ (n : Int) (t : Addr) (ks : List (Addr × Bar)), vs = [.int n, .ref t] ∧ n ≤ 7 ∧ BarsAt H t ks ∧ OkBars n (ks.map (·.2)) ∧ ∀ H', Same H H' → Q .non H') ∨
  (∃ (n : Int) (v : V) (t : Value), vs = [.int n, v] ∧ TyX K H v t ∧ PySem.W.kitOne K t (.type "tuple") = some false ∧ exBad CB .non H E) ∨
  ∃ (n : Int) (t : Addr) (ks : List (Addr × Bar)) (x : V) (ys : List V), vs = [.int n, .ref t] ∧ n ≤ 7 ∧ H t = some (.tup ((ks.map fun k => V.ref k.1) ++ x :: ys)) ∧ (∀ k ∈ ks, H k.1 = some (.tup k.2.vs)) ∧ OkBars n (ks.map (·.2)) ∧ ks.length ≤ 100 ∧
    ((∀ H', Same H H' → NoBar K H' n x) ∨ ∃ (a : Addr) (b : Bar) (kp : Addr × Bar), x = .ref a ∧ H a = some (.tup b.vs) ∧ b.ok n ∧ 0 < ks.length ∧ ks[ks.length - 1]? = some kp ∧ b.leq kp.2 = true) ∧ ∀ H', Same H H' → exBad CB (.int ks.length) H' E
section
variable {P : Program} {w : World} {K : PySem.W.Frag} {mg : Str → Option Value} {base : Heap}
theorem ok_ckDX {f f1 CD : Addr} {fd fd1 : FuncData} (F : Fun K "check_drawers" "check_drawers" sCheckDrawers f fd) (BT : ErrT K mg "BadDrawers" CD) (G : FnOk P w K mg base CX0 2 f1 fd1 ["value"] (spIsCount K)) (g1 : mg "is_drawer_count" = some (.ref f1)) (k1 : PySem.W.keepIn K (.ref f1) = true) (b1 : Binds K fd1 ["value"] []) :
    FnOk P w K mg base (L2.CX P w) 3 f fd ["drawers"] (spCkDX K CD) := by
  refine F.okX scCheckDrawers (fun vs H Q E h => ?_) (fun cdv A outer s H vs Q E hr h => ?_)
  · rcases h.h with ⟨n, rfl, _⟩ | ⟨v, t, c1, c2, rfl, _⟩ <;> rfl
  · refine ⟨_, pss_one (ps_if (pt_not (pt_val (pe_call G (hr.mono (by decide)) rfl g1 k1 b1 .nil pass0 (pa_cons (pv 0) pa_nil)))) (pss_one (ps_raise rfl (takes_of rfl rfl rfl rfl) (pmk_own PySem.F.excBase_ValueError BT.x BT.g BT.k (raises_own BT.b BT.t) (by exact rfl)))) pss_nil), ?_⟩
    rcases h.h with ⟨n, rfl, kq, ke⟩ | ⟨v, t, c1, c2, rfl, ty, e1, e2, e3, ke⟩
    · refine ⟨_, rfl, ⟨.inl ⟨n, rfl, _, rfl, ?_⟩⟩⟩
      by_cases h1 : 1 ≤ n ∧ n ≤ 7
      · rw [decide_eq_true h1.1, decide_eq_true h1.2]
        exact iteF (kq h1)
      · have e : (decide (1 ≤ n) && decide (n ≤ 7)) = false := by
          rw [Bool.and_eq_false_iff]
          by_cases q : 1 ≤ n
          · exact .inr (decide_eq_false fun z => h1 ⟨q, z⟩)
          · exact .inl (decide_eq_false q)
        rw [e]
        exact iteT (ke h1)
    · exact ⟨_, rfl, ⟨.inr ⟨v, t, c1, c2, rfl, ty, e1, e2, e3, _, rfl, iteT ke⟩⟩⟩
theorem bad_end {CB a dx : Addr} {x : V} {H H1 : Hp} {E : XK} (hs : Same H H1) (ha : H1 a = none) (hd : (upd H1 a (exo a CB none)) dx = none) (hda : dx ≠ a) (k : exBad CB x H E) :
    E (.ref CB) (some dx) (upd (del (upd (upd (upd H1 a (exo a CB none)) dx (exd dx [("index", x)])) a (exo a CB (some dx))) a) dx (.xd [("index", x)])) := by
  have hd1 : H1 dx = none := by rw [upd_ne hda] at hd; exact hd
  refine k dx _ (hs.free hd1) (fun b o e => ?_) upd_same
  have hb1 := hs _ _ e
  have hba : b ≠ a := ne_of_none hb1 ha
  have hbd : b ≠ dx := ne_of_none hb1 hd1
  rw [upd_ne hbd, del_ne hba, upd_ne hba, upd_ne hbd, upd_ne hba]
  exact hb1
theorem bad_mk {CB a : Addr} {x : V} {H1 : Hp} {E : XK} {E2 : XK} (ha : H1 a = none) (hx : x = .non ∨ ∃ i : Int, x = .int i ∧ 0 ≤ i ∧ i ≤ 100) (k : exBad CB x H1 E) :
    spBad CB [.ref a, x] (upd H1 a (exo a CB none)) (fun v H2 => v = .non ∧ ∃ (d : Addr) (fs : List (Str × V)), H2 a = some (exo a CB (some d)) ∧ H2 d = some (exd d fs) ∧ H1 d = none ∧ E (.ref CB) (some d) (upd (del H2 a) d (.xd fs))) E2 :=
  ⟨⟨a, x, rfl, hx, upd_same, fun dx hdx hda => ⟨rfl, dx, _, upd_same, by rw [upd_ne hda, upd_same], by rw [upd_ne hda] at hdx; exact hdx, bad_end (Same.refl H1) ha hdx hda k⟩⟩⟩
theorem ok_ckBX {f f1 CB : Addr} {fd fd1 : FuncData} (F : Fun K "check_bars" "check_bars" sCheckBars f fd) (T : Bt mg) (BT : BadT P w K mg base CB) (G : FnOk P w K mg base CX0 3 f1 fd1 ["drawers", "value"] (spIsBar K)) (g1 : mg "is_bar" = some (.ref f1)) (k1 : PySem.W.keepIn K (.ref f1) = true) (b1 : Binds K fd1 ["drawers", "value"] []) :
    FnOk P w K mg base (L2.CX P w) 4 f fd ["drawers", "bars"] (spCkBX K CB) := by
  refine F.okX scCheckBars (fun vs H Q E h => ?_) (fun cdv A outer s H vs Q E hr h => ?_)
  · rcases h.h with ⟨n, t, ks, rfl, _⟩ | ⟨n, v, t, rfl, _⟩ | ⟨n, t, ks, x, ys, rfl, _⟩ <;> rfl
  · have hu : _ < cLine := hr.units0
    obtain ⟨fI, fdI, i1, i2, GI, bI⟩ := BT.i
    refine ⟨_, pss_cons (ps_if (pt_not (pt_val (pe_callB call_isi (by rfl) T.isinstance (by decide +kernel) (pa_cons (pv 1) (pa_cons (pe_bltn (v := .ty "tuple") (by rfl) T.tuple (by decide +kernel) rfl) pa_nil)))))
        (pss_one (ps_raise rfl (takes_of rfl rfl rfl rfl) (pmk_oex BT.T i1 i2 GI (hr.mono (by decide)) bI .nil pass0 rfl BT.g (pa_cons pe_non pa_nil)))) pss_nil)
      (pss_one (ps_for (passes_of rfl) rfl (pi_enumT (by rfl) T.enumerate (pa_cons (pv 1) pa_nil)) (pg_tup (by rfl) (pgs_cons (pg_name (i := 2) scCheckBars.nd rfl (.inl rfl)) (pgs_cons (pg_name (i := 3) scCheckBars.nd rfl (.inl rfl)) pgs_nil)))
        (pss_cons (ps_if (pt_not (pt_val (pe_call G (hr.mono (by decide)) rfl g1 k1 b1 .nil pass0 (pa_cons (pv 0) (pa_cons (pv 3) pa_nil))))) (pss_one (ps_raise rfl (takes_of rfl rfl rfl rfl) (pmk_oex BT.T i1 i2 GI (hr.mono (by decide)) bI .nil pass0 rfl BT.g (pa_cons (pv 2) pa_nil)))) pss_nil)
        (pss_one (ps_if (PW.pt (pw_and (pt_cmpR op_gt (pv 2) pe_int (nomark _)) (pw_and1 (pt_cmpR (op_leB hu) (pv 3) (pe_ix ix_tup (pv 1) (pe_op op_sub (pv 2) pe_int) (fun _ _ => rfl)) (nomark _))))) (pss_one (ps_raise rfl (takes_of rfl rfl rfl rfl) (pmk_oex BT.T i1 i2 GI (hr.mono (by decide)) bI .nil pass0 rfl BT.g (pa_cons (pv 2) pa_nil)))) pss_nil))))), ?_⟩
    rcases h.h with ⟨n, t, ks, rfl, hn, B, O, k⟩ | ⟨n, v, t, rfl, ty, hk, ke⟩ | ⟨n, t, ks, x, ys, rfl, hn, ht, hel, O, h100, hbad, ke⟩
    · refine ⟨_, rfl, _, _, _, _, true, rfl, .ty "tuple", tyT (SqT.of' B.tu), kit_ty (by decide +kernel), _, rfl, iteF ?_⟩
      refine ⟨_, rfl, t, _, rfl, SqT.of' B.tu, ?_⟩
      refine for_it walk_enumT (fun i σ H' => ∃ v2 v3, σ = [some (.int n), some (.ref t), v2, v3] ∧ Same H H') ⟨_, _, rfl, Same.refl H⟩ (fun i σ H' _ ⟨_, _, _, s1⟩ => SqT.of' (s1 _ _ B.tu)) ?_ ?_
      · rintro i x σ H1 H2 hi ⟨v2, v3, rfl, s1⟩ ⟨T, x1, x2, rfl, hT, rfl, e1, e2⟩
        have e1' : V.int (i : Nat) = x1 := Option.some.inj e1
        subst e1'
        have e2 : (ks.map fun k => V.ref k.1)[i]? = some x2 := e2
        rw [List.getElem?_map] at e2
        cases ek : ks[i]? with
        | none => rw [ek] at e2; cases e2
        | some kk =>
          rw [ek] at e2
          have e2' : V.ref kk.1 = x2 := Option.some.inj e2
          subst e2'
          have s2 : Same H (upd H1 T (.tup [.int (i : Nat), .ref kk.1])) := s1.trans (same_upd hT)
          have hm : kk ∈ ks := List.mem_of_getElem? ek
          have hok : kk.2.ok n := O.ok _ (List.mem_map.mpr ⟨kk, hm, rfl⟩)
          refine ⟨T, _, rfl, SqT.of' upd_same, rfl, _, _, rfl, _, _, rfl, rfl, ?_⟩
          refine ⟨_, rfl, _, rfl, spIsBar_ok hok (SqT.of' (s2 _ _ (B.el kk hm))) ⟨_, rfl, iteF ?_⟩⟩
          refine ⟨_, rfl, _, _, rfl, rfl, _, rfl, ?_⟩
          refine ite2 (fun z => ?_) (fun z => iteF ⟨_, _, rfl, s2⟩)
          have h0 : 0 < i := by have := of_decide_eq_true z; omega
          obtain ⟨kp, ep⟩ : ∃ kp, ks[i - 1]? = some kp := by
            have := (List.getElem?_eq_some_iff.mp ek).1
            exact ⟨ks[i - 1]'(by omega), List.getElem?_eq_getElem (by omega)⟩
          have hmp : kp ∈ ks := List.mem_of_getElem? ep
          have hokp : kp.2.ok n := O.ok _ (List.mem_map.mpr ⟨kp, hmp, rfl⟩)
          refine ⟨_, rfl, _, rfl, _, rfl, _, _, rfl, rfl, t, _, _, .ref kp.1, rfl, rfl, SqT.of' (s2 _ _ B.tu), at_prev h0 (by rw [List.getElem?_map, ep]; rfl), ?_⟩
          refine ⟨kk.1, kp.1, kk.2, kp.2, rfl, rfl, SqT.of' (s2 _ _ (B.el kk hm)), SqT.of' (s2 _ _ (B.el kp hmp)), _, rfl, ?_⟩
          have hlt : kp.2.code < kk.2.code := pw_prev O.asc h0 (by rw [List.getElem?_map, ep]; rfl) (by rw [List.getElem?_map, ek]; rfl)
          rw [not_leq hn hokp hok hlt]
          exact iteF ⟨_, _, rfl, s2⟩
      · rintro σ H' ⟨v2, v3, rfl, s1⟩
        exact k H' s1
    · refine ⟨_, rfl, _, _, _, _, false, rfl, .ty "tuple", ty, hk, _, rfl, iteT ?_⟩
      exact ⟨by show 1 ≤ 1000; decide, fun a ha => bad_mk ha (.inl rfl) ke⟩
    · have hS : ∀ {H' : Hp}, Same H H' → SqT K H' t ((ks.map fun k => V.ref k.1) ++ x :: ys) := fun s => SqT.of' (s _ _ ht)
      refine ⟨_, rfl, _, _, _, _, true, rfl, .ty "tuple", tyT (hS (Same.refl H)), kit_ty (by decide +kernel), _, rfl, iteF ?_⟩
      refine ⟨_, rfl, t, _, rfl, hS (Same.refl H), ?_⟩
      refine for_it walk_enumT (fun i σ H' => i ≤ ks.length ∧ ∃ v2 v3, σ = [some (.int n), some (.ref t), v2, v3] ∧ Same H H') ⟨Nat.zero_le _, _, _, rfl, Same.refl H⟩ (fun i σ H' _ ⟨_, _, _, _, s1⟩ => hS s1) ?_ ?_
      · rintro i y σ H1 H2 hi ⟨hik, v2, v3, rfl, s1⟩ ⟨T, x1, x2, rfl, hT, rfl, e1, e2⟩
        have e1' : V.int (i : Nat) = x1 := Option.some.inj e1
        subst e1'
        have e2 : ((ks.map fun k => V.ref k.1) ++ x :: ys)[i]? = some x2 := e2
        have s2 : Same H (upd H1 T (.tup [.int (i : Nat), x2])) := s1.trans (same_upd hT)
        refine ⟨T, _, rfl, SqT.of' upd_same, rfl, _, _, rfl, _, _, rfl, rfl, ?_⟩
        have hlen : (ks.map fun k => V.ref k.1).length = ks.length := List.length_map ..
        rcases Nat.lt_or_ge i ks.length with hlt | hge
        · rw [List.getElem?_append_left (by rw [hlen]; exact hlt), List.getElem?_map] at e2
          cases ek : ks[i]? with
          | none => rw [ek] at e2; cases e2
          | some kk =>
            rw [ek] at e2
            have e2' : V.ref kk.1 = x2 := Option.some.inj e2
            subst e2'
            have hm : kk ∈ ks := List.mem_of_getElem? ek
            have hok : kk.2.ok n := O.ok _ (List.mem_map.mpr ⟨kk, hm, rfl⟩)
            refine ⟨_, rfl, _, rfl, spIsBar_ok hok (SqT.of' (s2 _ _ (hel kk hm))) ⟨_, rfl, iteF ?_⟩⟩
            refine ⟨_, rfl, _, _, rfl, rfl, _, rfl, ?_⟩
            refine ite2 (fun z => ?_) (fun z => iteF ⟨hlt, _, _, rfl, s2⟩)
            have h0 : 0 < i := by have := of_decide_eq_true z; omega
            obtain ⟨kp, ep⟩ : ∃ kp, ks[i - 1]? = some kp := ⟨ks[i - 1]'(by omega), List.getElem?_eq_getElem (by omega)⟩
            have hmp : kp ∈ ks := List.mem_of_getElem? ep
            have hokp : kp.2.ok n := O.ok _ (List.mem_map.mpr ⟨kp, hmp, rfl⟩)
            refine ⟨_, rfl, _, rfl, _, rfl, _, _, rfl, rfl, t, _, _, .ref kp.1, rfl, rfl, hS s2, at_prev h0 (by rw [List.getElem?_append_left (by rw [hlen]; omega), List.getElem?_map, ep]; rfl), ?_⟩
            refine ⟨kk.1, kp.1, kk.2, kp.2, rfl, rfl, SqT.of' (s2 _ _ (hel kk hm)), SqT.of' (s2 _ _ (hel kp hmp)), _, rfl, ?_⟩
            have hlt2 : kp.2.code < kk.2.code := pw_prev O.asc h0 (by rw [List.getElem?_map, ep]; rfl) (by rw [List.getElem?_map, ek]; rfl)
            rw [not_leq hn hokp hok hlt2]
            exact iteF ⟨hlt, _, _, rfl, s2⟩
        · obtain rfl : i = ks.length := by omega
          have ex2 : x = x2 := by
            rw [List.getElem?_append_right (by rw [hlen]; exact Nat.le_refl _), hlen, Nat.sub_self] at e2
            exact Option.some.inj e2
          subst ex2
          have raise : ∀ (σ' : L2.St), σ'[2]? = some (some (V.int (ks.length : Nat))) → True := fun _ _ => trivial
          clear raise
          rcases hbad with hno | ⟨b, bb, kp, rfl, hb, hbok, h0, hkp, hleq⟩
          · refine ⟨_, rfl, _, rfl, (hno _ s2).sp ⟨_, rfl, iteT ?_⟩⟩
            exact ⟨_, rfl, by show 1 ≤ 1000; decide, fun a ha => bad_mk ha (.inr ⟨_, rfl, by omega, by omega⟩) (ke _ s2)⟩
          · refine ⟨_, rfl, _, rfl, spIsBar_ok hbok (SqT.of' (s2 _ _ hb)) ⟨_, rfl, iteF ?_⟩⟩
            refine ⟨_, rfl, _, _, rfl, rfl, _, rfl, ?_⟩
            have hgt : decide ((ks.length : Int) > 0) = true := decide_eq_true (by omega)
            refine ite2 (fun _ => ?_) (fun z => absurd hgt (by simpa using z))
            have hmp : kp ∈ ks := List.mem_of_getElem? hkp
            refine ⟨_, rfl, _, rfl, _, rfl, _, _, rfl, rfl, t, _, _, .ref kp.1, rfl, rfl, hS s2, at_prev h0 (by rw [List.getElem?_append_left (by rw [hlen]; omega), List.getElem?_map, hkp]; rfl), ?_⟩
            refine ⟨b, kp.1, bb, kp.2, rfl, rfl, SqT.of' (s2 _ _ hb), SqT.of' (s2 _ _ (hel kp hmp)), _, rfl, ?_⟩
            rw [hleq]
            refine iteT ?_
            exact ⟨_, rfl, by show 1 ≤ 1000; decide, fun a ha => bad_mk ha (.inr ⟨_, rfl, by omega, by omega⟩) (ke _ s2)⟩
      · rintro σ H' ⟨hik, _⟩
        rw [List.length_append, List.length_map, List.length_cons] at hik
        omega
end
end DL

set_option Elab.async false
set_option maxRecDepth 100000
namespace DL
open PySem L2
/-! ### drawing: the row of draws stands at r, the script at sc -/
def But (r : Addr) (H H' : Hp) : Prop := ∀ b o, b ≠ r → H b = some o → H' b = some o
theorem But.refl (r : Addr) (H : Hp) : But r H H := fun _ _ _ h => h
theorem But.trans {r : Addr} {H H1 H2 : Hp} (a : But r H H1) (b : But r H1 H2) : But r H H2 := fun c o hc h => b c o hc (a c o hc h)
theorem sbut {r : Addr} {H H' : Hp} (s : Same H H') : But r H H' := fun c o _ h => s c o h
theorem but_upd {r : Addr} {H : Hp} {o : HO} : But r H (upd H r o) := fun c u hc h => by rw [upd_ne hc]; exact h
theorem But.seq {K : PySem.W.Frag} {r : Addr} {H H' : Hp} {a : Addr} {xs : List V} (s : But r H H') (ha : a ≠ r) (h : SqL K H a xs) : SqL K H' a xs := by
  rcases h with (h | ⟨o, h⟩) | h
  · exact .inl (.inl (s _ _ ha h))
  · exact .inl (.inr ⟨o, s _ _ ha h⟩)
  · exact .inr h
theorem But.tup {r : Addr} {H H' : Hp} {a : Addr} {xs : List V} {ys : List V} (s : But r H H') (hr : H r = some (.lst ys)) (h : H a = some (.tup xs)) : H' a = some (.tup xs) :=
  s _ _ (ne_of h hr (by intro z; cases z)) h
structure RowOk (H : Hp) (r sc : Addr) : Prop where
  h : ∃ i m e : Int, H r = some (.lst [.ref sc, .int i, .int m, .int e]) ∧ 0 ≤ i ∧ 0 ≤ m ∧ m < 2147483647 ∧ 0 ≤ e
theorem RowOk.same {H H' : Hp} {r sc : Addr} (R : RowOk H r sc) (s : Same H H') : RowOk H' r sc := by
  obtain ⟨i, m, e, h, q⟩ := R.h
  exact ⟨⟨i, m, e, s _ _ h, q⟩⟩
theorem But.seqR {K : PySem.W.Frag} {r sc : Addr} {H H' : Hp} {a : Addr} {ns : List Int} (s : But r H H') (R : RowOk H r sc) (h : SqL K H a (ns.map V.int)) : SqL K H' a (ns.map V.int) := by
  obtain ⟨i, m, e, hR, _⟩ := R.h
  have nd : ∀ u : HO, H a = some u → u ≠ .lst [.ref sc, .int i, .int m, .int e] → a ≠ r := fun u hu hn z => by
    rw [z, hR] at hu
    exact hn (Option.some.inj hu).symm
  rcases h with (h | ⟨o, h⟩) | h
  · refine .inl (.inl (s _ _ (nd _ h fun z => ?_) h))
    injection z with z
    cases ns with
    | nil => cases z
    | cons n ns => injection z with z _; cases z
  · exact .inl (.inr ⟨o, s _ _ (nd _ h fun z => by cases z) h⟩)
  · exact .inr h
structure spTaken (K : PySem.W.Frag) (vs : List V) (H : Hp) (Q : VK) (_ : XK) : Prop where
  h : ∃ (r sc : Addr) (ns : List Int) (many : Int), vs = [.ref r, .int many] ∧ RowOk H r sc ∧ SqL K H sc (ns.map V.int) ∧ 1 ≤ many ∧ many ≤ 1000 ∧
    ∀ (v : Int) (H' : Hp), 0 ≤ v → v < many → RowOk H' r sc → But r H H' → Q (.int v) H'
section
variable {P : Program} {w : World} {K : PySem.W.Frag} {mg : Str → Option Value} {base : Heap}
theorem scTaken : FnScope ["_law_row", "_law_many", "_law_found", "_law_cell"] ["_law_row", "_law_many"] (defScope sTaken) := ⟨rfl, rfl, rfl, by decide +kernel, rfl, by decide +kernel, by decide +kernel⟩
theorem ok_taken {f : Addr} {fd : FuncData} (F : Fun K "_law_taken" "_law_taken" sTaken f fd) (T : Bt mg) : FnOk P w K mg base CX0 1 f fd ["_law_row", "_law_many"] (spTaken K) := by
  refine F.ok scTaken (fun vs H Q E h => ?_) (fun cdv A outer s H vs Q E hr h => ?_)
  · obtain ⟨r, sc, ns, many, rfl, _⟩ := h.h
    rfl
  · obtain ⟨r, sc, ns, many, rfl, R, S, h1, h2, k⟩ := h.h
    obtain ⟨i, m, e, hR, hi, hm0, hm, he⟩ := R.h
    have dv : CDivW e many := wide_div (b := 10) (by omega) (by omega) (by decide) (by decide)
    refine ⟨_, pss_cons (ps_if (pt_cmpR op_gt (pe_ix ix_list (pv 0) pe_int (fun _ _ => rfl)) pe_int (nomark _))
        (pss_cons (ps_set (i := 2) scTaken.nd rfl (.inl rfl) (pe_op op_mod (pe_callTy call_int1 (by rfl) T.int (by decide +kernel) (pa_cons (pe_ix ix_list (pv 0) pe_int (fun _ _ => rfl)) pa_nil)) (pv 1)))
        (pss_cons (ps_asg (pe_op op_fdivW (pe_ix ix_list (pv 0) pe_int (fun _ _ => rfl)) (pv 1)) (pg_sub (pv 0) pe_int set_list))
        (pss_one (ps_ret (pv 2))))) pss_nil)
      (pss_cons (ps_asg (pe_op op_add (pe_ix ix_list (pv 0) pe_int (fun _ _ => rfl)) pe_int) (pg_sub (pv 0) pe_int set_list))
      (pss_cons (ps_if (pt_cmpR op_gt (pe_ix ix_list (pv 0) pe_int (fun _ _ => rfl)) (pe_callB call_len_seq (by rfl) T.len PySem.boot_len (pa_cons (pe_ix ix_list (pv 0) pe_int (fun _ _ => rfl)) pa_nil)) (nomark _))
        (pss_cons (ps_asg (pe_op op_mod (pe_callTy call_int1 (by rfl) T.int (by decide +kernel) (pa_cons (pe_op op_add (pe_op op_mul (pe_ix ix_list (pv 0) pe_int (fun _ _ => rfl)) pe_int) pe_int) pa_nil)) pe_int) (pg_sub (pv 0) pe_int set_list))
        (pss_one (ps_ret (pe_op op_mod (pe_callTy call_int1 (by rfl) T.int (by decide +kernel) (pa_cons (pe_op op_fdiv (pe_ix ix_list (pv 0) pe_int (fun _ _ => rfl)) pe_int) pa_nil)) (pv 1))))) pss_nil)
      (pss_cons (ps_set (i := 3) scTaken.nd rfl (.inl rfl) (pe_ix ix_list (pe_ix ix_list (pv 0) pe_int (fun _ _ => rfl)) (pe_op op_sub (pe_ix ix_list (pv 0) pe_int (fun _ _ => rfl)) pe_int) (fun _ _ => rfl)))
      (pss_cons (ps_asg (pe_op op_mod (pe_callTy call_int1 (by rfl) T.int (by decide +kernel) (pa_cons (pe_op op_add (pe_op op_add (pe_op op_mul (pe_ix ix_list (pv 0) pe_int (fun _ _ => rfl)) pe_int) (pv 3)) pe_int) pa_nil)) pe_int) (pg_sub (pv 0) pe_int set_list))
      (pss_cons (ps_if (pt_cmpR op_ge (pv 3) (pe_op op_pow pe_int pe_int) (nomark _)) (pss_one (ps_asg (pe_op op_fdivW (pv 3) (pv 1)) (pg_sub (pv 0) pe_int set_list))) pss_nil)
      (pss_one (ps_ret (pe_op op_mod (pe_callTy call_int1 (by rfl) T.int (by decide +kernel) (pa_cons (pv 3) pa_nil)) (pv 1))))))))), ?_⟩
    refine ⟨_, rfl, r, _, _, .int e, rfl, rfl, SqL.of hR, rfl, _, _, rfl, rfl, _, rfl, ?_⟩
    refine ite2 (fun z => ?_) (fun _ => ?_)
    · refine ⟨_, rfl, r, _, _, .int e, rfl, rfl, SqL.of hR, rfl, .inl ⟨_, rfl, _, rfl, _, _, rfl, rfl, (by omega), ?_⟩⟩
      refine ⟨_, rfl, r, _, _, .int e, rfl, rfl, SqL.of hR, rfl, _, rfl, _, _, rfl, rfl, dv, ?_⟩
      refine ⟨_, rfl, r, _, _, 3, rfl, rfl, hR, rfl, _, rfl, ?_⟩
      exact k _ _ (Int.emod_nonneg _ (by omega)) (Int.emod_lt_of_pos _ (by omega)) ⟨⟨i, m, e / many, upd_same, hi, hm0, hm, Int.ediv_nonneg he (by omega)⟩⟩ but_upd
    · refine ⟨_, rfl, r, _, _, .int i, rfl, rfl, SqL.of hR, rfl, _, _, rfl, rfl, ?_⟩
      refine ⟨_, rfl, r, _, _, 1, rfl, rfl, hR, rfl, ?_⟩
      have S1 : SqL K (upd H r (.lst [.ref sc, .int (i + 1), .int m, .int e])) sc (ns.map V.int) := but_upd.seqR R S
      refine ⟨_, rfl, r, _, _, .int (i + 1), rfl, rfl, SqL.of upd_same, rfl, ?_⟩
      refine ⟨_, rfl, r, _, _, .ref sc, rfl, rfl, SqL.of upd_same, rfl, sc, _, rfl, .inl S1, _, _, rfl, rfl, _, rfl, ?_⟩
      refine ite2 (fun z => ?_) (fun z => ?_)
      · refine ⟨_, rfl, r, _, _, .int m, rfl, rfl, SqL.of upd_same, rfl, _, _, rfl, rfl, .inl ⟨by omega, by omega⟩, _, _, rfl, rfl, .inl ⟨_, rfl, _, _, rfl, rfl, (by show (0 : Int) < 2147483647; decide), ?_⟩⟩
        refine ⟨_, rfl, r, _, _, 2, rfl, rfl, upd_same, rfl, ?_⟩
        refine ⟨_, rfl, r, _, _, .int ((m * 48271 + 11) % 2147483647), rfl, rfl, SqL.of upd_same, rfl, _, _, rfl, rfl, ⟨by decide, by decide⟩, .inl ⟨_, rfl, _, rfl, _, _, rfl, rfl, (by omega), ?_⟩⟩
        refine k _ _ (Int.emod_nonneg _ (by omega)) (Int.emod_lt_of_pos _ (by omega)) ⟨⟨i + 1, (m * 48271 + 11) % 2147483647, e, upd_same, by omega, Int.emod_nonneg _ (by decide), Int.emod_lt_of_pos _ (by decide), he⟩⟩ (but_upd.trans but_upd)
      · have hlt : i < ns.length := by
          have := of_decide_eq_false (by simpa using z : decide ((ns.map V.int).length < i + 1) = false)
          rw [List.length_map] at this
          omega
        have hc : ∃ c, ns[i.toNat]? = some c := ⟨ns[i.toNat]'(by omega), List.getElem?_eq_getElem (by omega)⟩
        obtain ⟨c, hc⟩ := hc
        have hat : atI (ns.map V.int) ((i + 1) - 1) = some (.int c) := by
          have e1 : (i + 1) - 1 = ((i.toNat : Nat) : Int) := by omega
          rw [e1]
          exact atI_nat (by rw [List.getElem?_map, hc]; rfl)
        refine ⟨_, rfl, r, _, _, .ref sc, rfl, rfl, SqL.of upd_same, rfl, _, rfl, r, _, _, .int (i + 1), rfl, rfl, SqL.of upd_same, rfl, _, _, rfl, rfl, sc, _, _, .int c, rfl, rfl, S1, hat, ?_⟩
        refine ⟨_, rfl, r, _, _, .int m, rfl, rfl, SqL.of upd_same, rfl, _, _, rfl, rfl, .inl ⟨by omega, by omega⟩, _, rfl, _, _, rfl, rfl, _, _, rfl, rfl, .inl ⟨_, rfl, _, _, rfl, rfl, (by show (0 : Int) < 2147483647; decide), ?_⟩⟩
        refine ⟨_, rfl, r, _, _, 2, rfl, rfl, upd_same, rfl, ?_⟩
        refine ⟨_, rfl, _, _, rfl, rfl, ⟨by decide, by decide, by decide⟩, _, _, rfl, rfl, _, rfl, ?_⟩
        have m1 := Int.emod_nonneg (m * 48271 + c + 11) (show (2147483647 : Int) ≠ 0 by decide)
        have m2 := Int.emod_lt_of_pos (m * 48271 + c + 11) (show (0 : Int) < 2147483647 by decide)
        have v1 := Int.emod_nonneg c (show many ≠ 0 by omega)
        have v2 := Int.emod_lt_of_pos c (show 0 < many by omega)
        refine ite2 (fun z => ?_) (fun _ => ?_)
        · have hc0 : (10 : Int) ^ (18 : Int).toNat ≤ c := of_decide_eq_true z
          have hc1 : 0 ≤ c := by
            have : (0 : Int) ≤ (10 : Int) ^ (18 : Int).toNat := by decide
            omega
          refine ⟨_, rfl, _, rfl, _, _, rfl, rfl, wide_div (b := 10) (by omega) (by omega) (by decide) (by decide), ?_⟩
          refine ⟨_, rfl, r, _, _, 3, rfl, rfl, upd_same, rfl, ?_⟩
          refine ⟨_, rfl, .inl ⟨_, rfl, _, rfl, _, _, rfl, rfl, (by omega), ?_⟩⟩
          exact k _ _ v1 v2 ⟨⟨i + 1, _, c / many, upd_same, by omega, m1, m2, Int.ediv_nonneg hc1 (by omega)⟩⟩ ((but_upd.trans but_upd).trans but_upd)
        · refine ⟨_, rfl, .inl ⟨_, rfl, _, rfl, _, _, rfl, rfl, (by omega), ?_⟩⟩
          exact k _ _ v1 v2 ⟨⟨i + 1, _, e, upd_same, by omega, m1, m2, he⟩⟩ (but_upd.trans but_upd)
end
end DL

set_option Elab.async false
set_option maxRecDepth 100000
namespace DL
open PySem L2
theorem keys_put {kvs : List (List Key × V)} {bs : List Bar} {b : Bar} (v : V) (h : kvs.map (·.1) = bs.map Bar.key) (hn : bs.Nodup) :
    ∃ bs' : List Bar, (putK kvs b.key v).map (·.1) = bs'.map Bar.key ∧ bs'.Nodup ∧ (∀ x ∈ bs', x = b ∨ x ∈ bs) ∧ bs'.length ≤ bs.length + 1 := by
  unfold putK
  by_cases e : (kvs.any fun kv => decide (kv.1 = b.key)) = true
  · rw [if_pos e]
    refine ⟨bs, ?_, hn, fun x hx => .inr hx, Nat.le_succ _⟩
    rw [← h, List.map_map]
    refine List.map_congr_left fun kv _ => ?_
    show (if kv.1 = b.key then (kv.1, v) else kv).1 = kv.1
    by_cases q : kv.1 = b.key
    · rw [if_pos q]
    · rw [if_neg q]
  · rw [if_neg e]
    have hnot : b ∉ bs := fun hm => e (by
      rw [List.any_eq_true]
      have : b.key ∈ kvs.map (·.1) := by rw [h]; exact List.mem_map.mpr ⟨b, hm, rfl⟩
      obtain ⟨kv, hkv, q⟩ := List.mem_map.mp this
      exact ⟨kv, hkv, decide_eq_true q⟩)
    refine ⟨bs ++ [b], by rw [List.map_append, List.map_append, h]; rfl, ?_, fun x hx => ?_, by simp⟩
    · rw [List.nodup_append]
      refine ⟨hn, List.nodup_cons.mpr ⟨by simp, List.nodup_nil⟩, fun x hx y hy => ?_⟩
      rw [List.mem_singleton.mp hy]
      exact fun q => hnot (q ▸ hx)
    · rcases List.mem_append.mp hx with hx | hx
      · exact .inr hx
      · exact .inl (List.mem_singleton.mp hx)
theorem asc_of {n : Int} (hn : n ≤ 7) {xs bs : List Bar} (hp : xs.Perm bs) (hs : xs.Pairwise fun x y => x.code ≤ y.code) (hd : bs.Nodup) (ho : ∀ b ∈ bs, b.ok n) : OkBars n xs := by
  have hx : ∀ b ∈ xs, b.ok n := fun b hb => ho b (hp.mem_iff.mp hb)
  refine ⟨hx, ?_⟩
  have hd' : xs.Nodup := hp.nodup_iff.mpr hd
  have := hs.and hd'
  refine List.Pairwise.imp_of_mem (fun {a b} ha hb q => ?_) this
  obtain ⟨q1, q2⟩ := q
  rcases Int.lt_or_eq_of_le q1 with z | z
  · exact z
  · exact absurd (Bar.code_inj ((hx a ha).low hn) ((hx b hb).low hn) z) q2
structure spParts (K : PySem.W.Frag) (vs : List V) (H : Hp) (Q : VK) (_ : XK) : Prop where
  h : ∃ (r sc : Addr) (ns : List Int) (most : Int), vs = [.ref r, .int most] ∧ RowOk H r sc ∧ SqL K H sc (ns.map V.int) ∧ 1 ≤ most ∧ most ≤ 7 ∧
    ∀ (p t : Addr) (n : Int) (ks : List (Addr × Bar)) (H' : Hp), H p = none → H t = none → 1 ≤ n → n ≤ most → H' p = some (.lst [.int n, .ref t]) → BarsAt H' t ks → OkBars n (ks.map (·.2)) → ks.length ≤ 13 → RowOk H' r sc → But r H H' → Q (.ref p) H'
theorem three_at {v : Int} (h0 : 0 ≤ v) (h3 : v < 3) : ∃ c : Int, atI [V.int 3, V.int 6, V.int 14] v = some (.int c) ∧ 1 ≤ c ∧ c ≤ 14 := by
  have : v = 0 ∨ v = 1 ∨ v = 2 := by omega
  rcases this with rfl | rfl | rfl
  · exact ⟨3, rfl, by decide, by decide⟩
  · exact ⟨6, rfl, by decide, by decide⟩
  · exact ⟨14, rfl, by decide, by decide⟩
theorem two_at {v : Int} (h0 : 0 ≤ v) (h3 : v < 2) : ∃ c : Bool, atI [V.str "open", V.str "shut"] v = some (.str (wd c)) := by
  have : v = 0 ∨ v = 1 := by omega
  rcases this with rfl | rfl
  · exact ⟨false, rfl⟩
  · exact ⟨true, rfl⟩
section
variable {P : Program} {w : World} {K : PySem.W.Frag} {mg : Str → Option Value} {base : Heap}
/-! ### the cabinet of a draw -/
structure spMade (C : Addr) (vs : List V) (H : Hp) (Q : VK) (_ : XK) : Prop where
  h : ∃ (p t : Addr) (n : Int) (ks : List (Addr × Bar)) (zs : List V), vs = [.ref p] ∧ H p = some (.lst (.int n :: .ref t :: zs)) ∧ 1 ≤ n ∧ n ≤ 7 ∧ BarsAt H t ks ∧ OkBars n (ks.map (·.2)) ∧
    ∀ (c : Addr) (H' : Hp), H c = none → CabAt C H' c n t → Same H H' → Q (.ref c) H'
end
end DL

set_option Elab.async false
set_option maxRecDepth 100000
namespace DL
open PySem L2
/-! ### rules with the written part named, for blocks within blocks -/
theorem cr_anyK {X : Cx} {K : PySem.W.Frag} (hK : X.K = K) (hc : X.calm = true) : CallR X (.builtin "any") (rAny K) := by subst hK; exact cr_any hc
theorem cr_allK {X : Cx} {K : PySem.W.Frag} (hK : X.K = K) (hc : X.calm = true) : CallR X (.builtin "all") (rAll K) := by subst hK; exact cr_all hc
theorem pi_tupK {X : Cx} {K : PySem.W.Frag} {tg l : Expr} {tl : TE} (hK : X.K = K) (hl : PE X l tl) : PI X tg l (iTup K tl) := by subst hK; exact pi_tup hl
theorem pi_listK {X : Cx} {K : PySem.W.Frag} {tg l : Expr} {tl : TE} (hK : X.K = K) (hl : PE X l tl) : PI X tg l (iList K tl) := by subst hK; exact pi_list hl
theorem ix_listK {X : Cx} {K : PySem.W.Frag} (hK : X.K = K) : IxR X (rIxL K) := by subst hK; exact ix_list
theorem ix_tupK {X : Cx} {K : PySem.W.Frag} (hK : X.K = K) : IxR X (rIxT K) := by subst hK; exact ix_tup
theorem op_in_seqK {X : Cx} {K : PySem.W.Frag} (hK : X.K = K) : OpR X (compareOp .In) (rIn K false) := by subst hK; exact op_in_seq
theorem call_len_seqK {X : Cx} {K : PySem.W.Frag} (hK : X.K = K) : CallR X (.builtin "len") (fun xs H Q => ∃ p ys, xs = [.ref p] ∧ (SqL K H p ys ∨ SqT K H p ys) ∧ Q (.int ys.length) H) := by subst hK; exact call_len_seq
theorem pe_bmK {X : Cx} {K : PySem.W.Frag} {T : String} {name : Str} {id : String} {r : V → List V → Hp → VK → Prop} {o e : Expr} {es : List Expr} {to : TE} {t : TA} {apos cpos : Pos} (hK : X.K = K) (pa : PlainAttrs T) (slot : Slot T name id) (hty : typeOf (.builtin id) = pure (.type "method_descriptor")) (hm : MtR X id r) (ho : PE X o to) (ha : PA X (e :: es) t)
    (hbase : attributeBase o name X.env (eval o X.env) = eval o X.env := by rfl)
    (hfew : ((backTo cpos (starEach (e :: es) X.env)).all (fun x => !x.1) && (backToKw cpos (keywordEach [] X.env)).all (fun x => x.1.isSome)
      && decide ((e :: es).length + ([] : List Keyword).length + (if ([] : List Keyword).isEmpty then 0 else 1) < 30)) = true := by rfl)
    (hline : (apos.endLine == cpos.line) = true := by rfl) (hs : starEach (e :: es) X.env = (false, eval e X.env) :: starEach es X.env := by rfl) (hplain : (backTo cpos (starEach es X.env)).any (·.1) = false := by rfl) :
    PE X (.Call (.Attribute o name apos) (e :: es) [] cpos) (tBM K T r to t) := by subst hK; exact pe_bm pa slot hty hm ho ha hbase hfew hline hs hplain
theorem boot_any_ : bootBuiltins ("any" : Str) = some (.builtin "any") := by decide +kernel
theorem boot_all_ : bootBuiltins ("all" : Str) = some (.builtin "all") := by decide +kernel
end DL

set_option Elab.async false
set_option maxRecDepth 100000
namespace DL
open PySem L2 HT TL
/-! ### standings: a truth value a drawer (true: open) -/
def sg (b : Bool) : Nat := if b = true then 111 else 115
def sgs (b : Bool) : Str := ⟨#[sg b]⟩
def sstr (st : List Bool) : Str := ⟨(st.map sg).toArray⟩
theorem sstr_tl (st : List Bool) : (sstr st).cps.toList = st.map sg := by simp [sstr]
theorem sstr_len (st : List Bool) : (sstr st).length = st.length := by
  show (sstr st).cps.size = st.length
  rw [← Array.length_toList, sstr_tl, List.length_map]
theorem sg_inj : ∀ {a b : Bool}, sg a = sg b → a = b := by decide
theorem sstr_inj {a b : List Bool} (h : sstr a = sstr b) : a = b := by
  have h1 : a.map sg = b.map sg := by rw [← sstr_tl, ← sstr_tl, h]
  have : ∀ {a b : List Bool}, a.map sg = b.map sg → a = b := by
    intro a
    induction a with
    | nil => intro b h; cases b with | nil => rfl | cons y b => simp at h
    | cons x a ih =>
      intro b h
      cases b with
      | nil => simp at h
      | cons y b =>
        rw [List.map_cons, List.map_cons] at h
        injection h with h1 h2
        rw [sg_inj h1, ih h2]
  exact this h1
def sat (st : List Bool) (i : Int) : Bool := st.getD i.toNat false
theorem sstr_at {st : List Bool} {i : Int} (h0 : 0 ≤ i) (h1 : i < st.length) : atI (sstr st).cps.toList i = some (sg (sat st i)) := by
  have e : i = ((i.toNat : Nat) : Int) := by omega
  have hl : i.toNat < st.length := by omega
  rw [e]
  refine atI_nat ?_
  rw [sstr_tl, List.getElem?_map]
  unfold sat
  rw [Int.toNat_natCast, List.getD_eq_getElem?_getD, List.getElem?_eq_getElem hl]
  rfl
def sgn (b : Bool) : Str := if b = true then "s" else "o"
theorem sgs_sgn (x b : Bool) : decide ((V.str ⟨#[sg x]⟩) = V.str (sgn b)) = (x != b) := by revert x b; decide +kernel
theorem sgs_o (x : Bool) : decide ((V.str ⟨#[sg x]⟩) = V.str "o") = x := by revert x; decide +kernel
theorem sgs_s (x : Bool) : decide ((V.str ⟨#[sg x]⟩) = V.str "s") = !x := by revert x; decide +kernel
theorem wd_ne (a b : Bool) : decide ((V.str (wd a)) = V.str (wd b)) = (a == b) := by revert a b; decide +kernel
theorem wd_open : wd false = "open" := by decide +kernel
theorem wd_shut : wd true = "shut" := by decide +kernel
/-- whether the bar stands against the pull -/
def hind (b : Bar) (st : List Bool) (d : Int) : Bool := decide (b.d = d) && ((sat st d == b.w) && (sat st b.o == b.t))
def goesB (bs : List Bar) (st : List Bool) (d : Int) : Bool := !(bs.any fun b => hind b st d)
def flip (st : List Bool) (d : Int) : List Bool := st.set d.toNat (!sat st d)
theorem flip_len (st : List Bool) (d : Int) : (flip st d).length = st.length := by unfold flip; rw [List.length_set]
def drs (n : Nat) : List Int := (List.range n).map fun (i : Nat) => (i : Int)
def freeL (bs : List Bar) (st : List Bool) : List Int := (drs st.length).filter fun d => goesB bs st d
/-- the table of signs -/
structure SgT (K : PySem.W.Frag) (w : World) (mg : Str → Option Value) (aS : Addr) : Prop where
  g : mg "SIGNS" = some (.ref aS)
  o : KDct K w aS "open" (.str "o")
  s : KDct K w aS "shut" (.str "s")
theorem SgT.at {K : PySem.W.Frag} {w : World} {mg : Str → Option Value} {aS : Addr} (T : SgT K w mg aS) (b : Bool) : KDct K w aS (wd b) (.str (sgn b)) := by
  cases b
  · exact T.o
  · exact T.s
structure spHold (K : PySem.W.Frag) (vs : List V) (H : Hp) (Q : VK) (_ : XK) : Prop where
  h : ∃ (a : Addr) (b : Bar) (st : List Bool) (d : Int), vs = [.ref a, .str (sstr st), .int d] ∧ SqT K H a b.vs ∧ b.ok st.length ∧ st.length ≤ 7 ∧ 0 ≤ d ∧ d < st.length ∧ Q (.bl (hind b st d)) H
structure spMoved (vs : List V) (H : Hp) (Q : VK) (_ : XK) : Prop where
  h : ∃ (st : List Bool) (d : Int), vs = [.str (sstr st), .int d] ∧ st.length ≤ 7 ∧ 0 ≤ d ∧ d < st.length ∧ ∀ H', Same H H' → Q (.str (sstr (flip st d))) H'
theorem str_small {st : List Bool} (h : st.length ≤ 7) : (sstr st).length ≤ sizeLine := by rw [sstr_len]; exact Nat.le_of_lt (small1000 (by omega))
theorem cut_flip (st : List Bool) (d : Int) (h0 : 0 ≤ d) (h1 : d < st.length) (x : Str) (hx : x.cps.toList = [sg (!sat st d)]) : (cutS (sstr st) none (some d) ++ x) ++ cutS (sstr st) (some (d + 1)) none = sstr (flip st d) := by
  refine PyProof.Rows.ext_toList ?_
  obtain ⟨k, rfl⟩ : ∃ k : Nat, d = (k : Int) := ⟨d.toNat, by omega⟩
  have hk : k < st.length := by omega
  have e1 : ((k : Int) + 1) = ((k + 1 : Nat) : Int) := by omega
  have t1 : tl (cutS (sstr st) none (some (k : Int))) = (st.map sg).take k := by
    unfold tl cutS
    rw [HT.sIx_none, HT.sIx_nat, sstr_len, sstr_tl]
    simp [Nat.min_eq_left (Nat.le_of_lt hk)]
  have t2 : tl (cutS (sstr st) (some ((k : Int) + 1)) none) = (st.map sg).drop (k + 1) := by
    unfold tl cutS
    rw [e1, HT.sIx_none, HT.sIx_nat, sstr_len, sstr_tl]
    simp only [Nat.min_eq_left (show k + 1 ≤ st.length by omega)]
    rw [List.take_of_length_le (by rw [List.length_drop, List.length_map]; omega)]
  show tl _ = tl _
  rw [tl_append, tl_append, t1, t2, show tl x = _ from hx, show tl (sstr (flip st (k : Int))) = _ from sstr_tl _]
  unfold flip
  rw [Int.toNat_natCast, List.map_set, List.set_eq_take_append_cons_drop, if_pos (by rw [List.length_map]; exact hk)]
  simp
section
variable {P : Program} {w : World} {K : PySem.W.Frag} {mg : Str → Option Value} {base : Heap}
theorem scHinders : FnScope ["bar", "standing", "drawer", "barred", "way", "other", "stand"] ["bar", "standing", "drawer"] (defScope s_hinders) := ⟨rfl, rfl, rfl, by decide +kernel, rfl, by decide +kernel, by decide +kernel⟩
theorem ok_hinders {f aS : Addr} {fd : FuncData} (F : Fun K "hinders" "hinders" s_hinders f fd) (T : SgT K w mg aS) : FnOk P w K mg base CX0 1 f fd ["bar", "standing", "drawer"] (spHold K) := by
  refine F.ok scHinders (fun vs H Q E h => ?_) (fun cdv A outer s H vs Q E hr h => ?_)
  · obtain ⟨a, b, st, d, rfl, _⟩ := h.h
    rfl
  · obtain ⟨a, b, st, d, rfl, hq, hb, h7, d0, d1, k⟩ := h.h
    obtain ⟨b1, b2, b3, b4, b5⟩ := hb
    refine ⟨_, pss_cons (ps_asg (pv 0) (pg_tup (by rfl) (pgs_cons (pg_name (i := 3) scHinders.nd rfl (.inl rfl)) (pgs_cons (pg_name (i := 4) scHinders.nd rfl (.inl rfl)) (pgs_cons (pg_name (i := 5) scHinders.nd rfl (.inl rfl)) (pgs_cons (pg_name (i := 6) scHinders.nd rfl (.inl rfl)) pgs_nil))))))
      (pss_cons (ps_if (PW.pt (pw_or (pt_cmpR op_ne (pv 3) (pv 2) (nomark _)) (pw_or1 (pt_cmpR op_eq (pe_ix ix_str (pv 1) (pv 2) (fun _ _ => rfl)) (pe_ix ix_kdict (pe_glob (v := .ref aS) rfl T.g rfl) (pv 4) (fun _ _ => rfl)) (nomark _))))) (pss_one (ps_ret pe_bl)) pss_nil)
      (pss_one (ps_ret (pe_cmpR op_ne (pe_ix ix_str (pv 1) (pv 5) (fun _ _ => rfl)) (pe_ix ix_kdict (pe_glob (v := .ref aS) rfl T.g rfl) (pv 6) (fun _ _ => rfl)) (nomark _))))), ?_⟩
    refine ⟨_, rfl, a, _, rfl, hq, rfl, _, _, rfl, _, _, rfl, _, _, rfl, _, _, rfl, rfl, ?_⟩
    refine ⟨_, rfl, _, rfl, rfl, _, rfl, ?_⟩
    have e0 : decide ((V.int b.d) = V.int d) = decide (b.d = d) := decide_eq_decide.mpr ⟨fun z => by injection z, fun z => by rw [z]⟩
    show if (!decide ((V.int b.d) = V.int d)) = true then _ else _
    rw [e0]
    by_cases q : b.d = d
    · rw [decide_eq_true q]
      refine iteF ?_
      refine ⟨_, rfl, _, rfl, _, d, _, rfl, rfl, str_small h7, sstr_at d0 d1, _, rfl, aS, wd b.w, _, rfl, rfl, T.at b.w, rfl, _, rfl, ?_⟩
      show if decide ((V.str ⟨#[sg (sat st d)]⟩) = V.str (sgn b.w)) = true then _ else _
      rw [sgs_sgn]
      unfold hind at k
      rw [decide_eq_true q] at k
      cases e : (sat st d != b.w) with
      | true =>
        have e' : (sat st d == b.w) = false := by rw [bne, Bool.not_eq_true'] at e; exact e
        rw [e'] at k
        exact iteT k
      | false =>
        have e' : (sat st d == b.w) = true := by rw [bne, Bool.not_eq_false'] at e; exact e
        rw [e'] at k
        refine iteF ?_
        refine ⟨_, rfl, _, rfl, _, b.o, _, rfl, rfl, str_small h7, sstr_at b3 b4, _, rfl, aS, wd b.t, _, rfl, rfl, T.at b.t, rfl, ?_⟩
        show Q (.bl (!decide ((V.str ⟨#[sg (sat st b.o)]⟩) = V.str (sgn b.t)))) H
        rw [sgs_sgn, bne, Bool.not_not]
        exact k
    · rw [decide_eq_false q]
      unfold hind at k
      rw [decide_eq_false q] at k
      exact iteT k
theorem scMoved : FnScope ["standing", "drawer", "word"] ["standing", "drawer"] (defScope s_moved) := ⟨rfl, rfl, rfl, by decide +kernel, rfl, by decide +kernel, by decide +kernel⟩
theorem ok_moved {f aS : Addr} {fd : FuncData} (F : Fun K "moved" "moved" s_moved f fd) (T : SgT K w mg aS) : FnOk P w K mg base CX0 1 f fd ["standing", "drawer"] spMoved := by
  refine F.ok scMoved (fun vs H Q E h => ?_) (fun cdv A outer s H vs Q E hr h => ?_)
  · obtain ⟨st, d, rfl, _⟩ := h.h
    rfl
  · obtain ⟨st, d, rfl, h7, d0, d1, k⟩ := h.h
    refine ⟨_, pss_cons (ps_set (i := 2) scMoved.nd rfl (.inl rfl) (pe_ifExp (pt_cmpR op_eq (pe_ix ix_str (pv 0) (pv 1) (fun _ _ => rfl)) (pe_ix ix_kdict (pe_glob (v := .ref aS) rfl T.g rfl) pe_str (fun _ _ => rfl)) (nomark _)) pe_str pe_str))
      (pss_one (ps_ret (pe_op op_add_str (pe_op op_add_str (pe_slice sl_str (pv 0) po_none (po_some (pv 1))) (pe_ix ix_kdict (pe_glob (v := .ref aS) rfl T.g rfl) (pv 2) (fun _ _ => rfl))) (pe_slice sl_str (pv 0) (po_some (pe_op op_add (pv 1) pe_int)) po_none)))), ?_⟩
    refine ⟨_, rfl, _, rfl, _, d, _, rfl, rfl, str_small h7, sstr_at d0 d1, aS, _, _, rfl, rfl, T.s, rfl, _, rfl, ?_⟩
    show if decide ((V.str ⟨#[sg (sat st d)]⟩) = V.str "s") = true then _ else _
    rw [sgs_s]
    have fin : ∀ x : Bool, x = sat st d → (∃ v, ((L2.start ["standing", "drawer", "word"] [.str (sstr st), .int d]).set 2 (some (.str (wd x))))[0]? = some (some v) ∧ (∃ z, v = .str z ∧ ∃ i, i = d ∧ True)) → True := fun _ _ _ => trivial
    have small : ∀ a b : Str, a.length ≤ 7 → b.length ≤ 7 → a.length + b.length ≤ sizeLine := fun a b ha hb => Nat.le_of_lt (small1000 (by omega))
    have c7 : ∀ lo hi, (cutS (sstr st) lo hi).length ≤ 7 := fun lo hi => by
      show (cutS (sstr st) lo hi).cps.size ≤ 7
      unfold cutS
      rw [List.size_toArray, List.length_take, List.length_drop, sstr_tl, List.length_map]
      omega
    have one : ∀ b : Bool, (sgn b).length ≤ 7 ∧ (sgn b).cps.toList = [sg (!b)] := by decide +kernel
    have app : ∀ a b : Str, (a ++ b).length = a.length + b.length := fun a b => by
      show (a ++ b).cps.size = a.cps.size + b.cps.size
      rw [← Array.length_toList, ← Array.length_toList, ← Array.length_toList]
      exact (congrArg List.length (tl_append a b)).trans (List.length_append ..)
    cases e : sat st d with
    | false =>
      refine iteT ?_
      refine ⟨_, rfl, _, rfl, _, rfl, _, rfl, str_small h7, _, rfl, aS, wd false, _, rfl, rfl, T.at false, _, _, rfl, rfl, small _ _ (c7 _ _) (one false).1, ?_⟩
      refine ⟨_, rfl, _, rfl, _, _, rfl, rfl, _, rfl, _, rfl, str_small h7, _, _, rfl, rfl, ?_, ?_⟩
      · have h1 := c7 none (some d)
        have h2 := (one false).1
        have h3 := c7 (some (d + 1)) none
        have h4 := app (cutS (sstr st) none (some d)) (sgn false)
        exact Nat.le_of_lt (small1000 (by omega))
      · have := k H (Same.refl H)
        rw [← cut_flip st d d0 d1 (sgn false) (by rw [(one false).2, e])] at this
        exact this
    | true =>
      refine iteF ?_
      refine ⟨_, rfl, _, rfl, _, rfl, _, rfl, str_small h7, _, rfl, aS, wd true, _, rfl, rfl, T.at true, _, _, rfl, rfl, small _ _ (c7 _ _) (one true).1, ?_⟩
      refine ⟨_, rfl, _, rfl, _, _, rfl, rfl, _, rfl, _, rfl, str_small h7, _, _, rfl, rfl, ?_, ?_⟩
      · have h1 := c7 none (some d)
        have h2 := (one true).1
        have h3 := c7 (some (d + 1)) none
        have h4 := app (cutS (sstr st) none (some d)) (sgn true)
        exact Nat.le_of_lt (small1000 (by omega))
      · have := k H (Same.refl H)
        rw [← cut_flip st d d0 d1 (sgn true) (by rw [(one true).2, e])] at this
        exact this
end
end DL

set_option Elab.async false
set_option maxRecDepth 100000
namespace DL
open PySem L2 HT TL
theorem new_at {H : Hp} {a : Addr} {o : HO} (h : H a = none) : Same H (upd H a o) ∧ (upd H a o) a = some o := ⟨same_upd h, upd_same⟩
/-! ### comprehensions that pick, in one word -/
theorem take_pick {α : Type} (p : α → Bool) (v : α → V) {l : List α} {i : Nat} {z : α} (h : l[i]? = some z) :
    ((l.take (i + 1)).filter p).map v = if p z = true then ((l.take i).filter p).map v ++ [v z] else ((l.take i).filter p).map v := by
  obtain ⟨hl, e⟩ := List.getElem?_eq_some_iff.mp h
  rw [List.take_succ_eq_append_getElem hl, List.filter_append, e]
  by_cases q : p z = true
  · rw [if_pos q, List.filter_cons_of_pos q, List.filter_nil, List.map_append]
    rfl
  · rw [if_neg q, List.filter_cons_of_neg q, List.filter_nil, List.append_nil]
/-- what a comprehension asks once its walk is told -/
def lcC (J : It) (g : TG) (tt : TT) (te : TE) (vs : List Nat) (σ : L2.St) (Q : VK) (H1 : Hp) : Prop := ∀ D, H1 D = none → ∃ W : Nat → Nat → Hp → Prop, (∃ m, W 0 m (upd H1 D (.lst []))) ∧ ∀ i m H, W i m H →
  (J.stop i H ∧ Q (.ref D) H) ∨ (J.go i H ∧ ∃ Nx : Hp → Prop, (∀ H', Nx H' → ∃ m', m' < m ∧ W (i + 1) m' H') ∧ ∀ x H', J.yld i H x H' → g x (wipe σ vs) H' fun σ2 H2 => wipe σ2 vs = wipe σ vs ∧ tt σ2 H2 fun b H3 =>
    if b = true then te σ2 H3 fun y H4 => ∃ acc, H4 D = some (.lst acc) ∧ acc.length < sizeLine ∧ Nx (upd H4 D (.lst (acc ++ [y]))) else Nx H3)
theorem lc_pick {α : Type} {J : It} {n : Nat} {G : Hp → Prop} {Y : Nat → Hp → V → Hp → Prop} (wk : Walk J n G Y) (l : List α) (hl : l.length = n) (hn : n ≤ 3000) (p : α → Bool) (v : α → V) {g : TG} {tt : TT} {te : TE} {vs : List Nat} {σ : L2.St} {H1 : Hp} {D : Addr} {Qd : Hp → Prop}
    (hD : H1 D = none) (hG : ∀ H, Same H1 H → G H)
    (hs : ∀ i x z H H' (Tk : V → Hp → Prop) (Nk : Hp → Prop), l[i]? = some z → Same H1 H → Y i H x H' → (∀ H4, p z = true → Same H H4 → Tk (v z) H4) → (∀ H4, p z = false → Same H H4 → Nk H4) →
      g x (wipe σ vs) H' fun σ2 H2 => wipe σ2 vs = wipe σ vs ∧ tt σ2 H2 fun b H3 => if b = true then te σ2 H3 Tk else Nk H3)
    (hd : ∀ H, Same H1 H → H D = some (.lst ((l.filter p).map v)) → Qd H) :
    ∃ W : Nat → Nat → Hp → Prop, (∃ m, W 0 m (upd H1 D (.lst []))) ∧ ∀ i m H, W i m H →
      (J.stop i H ∧ Qd H) ∨ (J.go i H ∧ ∃ Nx : Hp → Prop, (∀ H', Nx H' → ∃ m', m' < m ∧ W (i + 1) m' H') ∧ ∀ x H', J.yld i H x H' → g x (wipe σ vs) H' fun σ2 H2 => wipe σ2 vs = wipe σ vs ∧ tt σ2 H2 fun b H3 =>
        if b = true then te σ2 H3 fun y H4 => ∃ acc, H4 D = some (.lst acc) ∧ acc.length < sizeLine ∧ Nx (upd H4 D (.lst (acc ++ [y]))) else Nx H3) := by
  refine lc_it wk (fun i H' => Same H1 H' ∧ H' D = some (.lst (((l.take i).filter p).map v))) ⟨same_upd hD, upd_same⟩ (fun i H' _ q => hG H' q.1) ?_ ?_
  · rintro i x H H' hi ⟨s1, hD1⟩ y
    have hi' : i < l.length := by omega
    have ez : l[i]? = some l[i] := List.getElem?_eq_getElem hi'
    refine hs i x l[i] H H' _ _ ez s1 y (fun H4 hp s4 => ?_) (fun H4 hp s4 => ?_)
    · refine ⟨_, s4 _ _ hD1, ?_, fun b o e => ?_, ?_⟩
      · rw [List.length_map]
        have h1 := List.length_filter_le p (l.take i)
        rw [List.length_take] at h1
        have h2 : (3000 : Nat) < sizeLine := by decide
        omega
      · rw [upd_ne (ne_of_none e hD)]
        exact s4 _ _ (s1 b o e)
      · rw [upd_same, take_pick p v ez, if_pos hp]
    · refine ⟨s1.trans s4, ?_⟩
      rw [take_pick p v ez, if_neg (by rw [hp]; exact Bool.false_ne_true)]
      exact s4 _ _ hD1
  · rintro H ⟨s1, hD1⟩
    rw [← hl, List.take_length] at hD1
    exact hd H s1 hD1
/-- each one counts -/
theorem lc_each {α : Type} {J : It} {n : Nat} {G : Hp → Prop} {Y : Nat → Hp → V → Hp → Prop} (wk : Walk J n G Y) (l : List α) (hl : l.length = n) (hn : n ≤ 3000) (v : α → V) {g : TG} {te : TE} {vs : List Nat} {σ : L2.St} {H1 : Hp} {D : Addr} {Qd : Hp → Prop}
    (hD : H1 D = none) (hG : ∀ H, Same H1 H → G H)
    (hs : ∀ i x z H H' (Tk : V → Hp → Prop), l[i]? = some z → Same H1 H → Y i H x H' → (∀ H4, Same H H4 → Tk (v z) H4) →
      g x (wipe σ vs) H' fun σ2 H2 => wipe σ2 vs = wipe σ vs ∧ te σ2 H2 Tk)
    (mono : ∀ x σ' H' (Q Q' : L2.St → Hp → Prop), (∀ a b, Q a b → Q' a b) → g x σ' H' Q → g x σ' H' Q')
    (hd : ∀ H, Same H1 H → H D = some (.lst (l.map v)) → Qd H) :
    ∃ W : Nat → Nat → Hp → Prop, (∃ m, W 0 m (upd H1 D (.lst []))) ∧ ∀ i m H, W i m H →
      (J.stop i H ∧ Qd H) ∨ (J.go i H ∧ ∃ Nx : Hp → Prop, (∀ H', Nx H' → ∃ m', m' < m ∧ W (i + 1) m' H') ∧ ∀ x H', J.yld i H x H' → g x (wipe σ vs) H' fun σ2 H2 => wipe σ2 vs = wipe σ vs ∧ tYes σ2 H2 fun b H3 =>
        if b = true then te σ2 H3 fun y H4 => ∃ acc, H4 D = some (.lst acc) ∧ acc.length < sizeLine ∧ Nx (upd H4 D (.lst (acc ++ [y]))) else Nx H3) := by
  refine lc_pick wk l hl hn (fun _ => true) v hD hG (fun i x z H H' Tk Nk ez s1 y k1 k2 => ?_) (fun H s1 h => ?_)
  · refine mono _ _ _ _ _ (fun a b q => ?_) (hs i x z H H' Tk ez s1 y fun H4 s4 => k1 H4 rfl s4)
    refine ⟨q.1, ?_⟩
    show (if true = true then te a b Tk else Nk b)
    rw [if_pos rfl]
    exact q.2
  · refine hd H s1 ?_
    rw [h, List.filter_eq_self.mpr fun _ _ => rfl]
/-! ### walks over the bars of a tuple -/
theorem walk_bars {K : PySem.W.Frag} {a : Addr} {α : Type} {l : List α} {f : α → V} : Walk (Itt K a) l.length (fun H => SqT K H a (l.map f)) (fun i H x H' => H' = H ∧ ∃ z, l[i]? = some z ∧ x = f z) := by
  have e : l.length = (l.map f).length := by rw [List.length_map]
  rw [e]
  refine (walk_tup (K := K) (a := a) (xs := l.map f)).mono (fun H h => h) fun i H x H' _ _ y => ⟨y.1, ?_⟩
  have h := y.2
  rw [List.getElem?_map] at h
  cases q : l[i]? with
  | none => rw [q] at h; cases h
  | some z => rw [q] at h; cases h; exact ⟨z, rfl, rfl⟩
theorem walk_lst {K : PySem.W.Frag} {a : Addr} {α : Type} {l : List α} {f : α → V} : Walk (Itl K a) l.length (fun H => SqL K H a (l.map f)) (fun i H x H' => H' = H ∧ ∃ z, l[i]? = some z ∧ x = f z) := by
  have e : l.length = (l.map f).length := by rw [List.length_map]
  rw [e]
  refine (walk_list (K := K) (a := a) (xs := l.map f)).mono (fun H h => h) fun i H x H' _ _ y => ⟨y.1, ?_⟩
  have h := y.2
  rw [List.getElem?_map] at h
  cases q : l[i]? with
  | none => rw [q] at h; cases h
  | some z => rw [q] at h; cases h; exact ⟨z, rfl, rfl⟩
end DL

set_option Elab.async false
set_option maxRecDepth 100000
namespace DL
open PySem L2 HT TL
structure CabOk (C : Addr) (H : Hp) (c : Addr) (n : Int) (bs : List Bar) : Prop where
  h : ∃ (t : Addr) (ks : List (Addr × Bar)), CabAt C H c n t ∧ BarsAt H t ks ∧ ks.map (·.2) = bs ∧ OkBars n bs ∧ 1 ≤ n ∧ n ≤ 7 ∧ bs.length ≤ 100
theorem tYes_of {σ : L2.St} {H : Hp} {Q : Bool → Hp → Prop} (h : Q true H) : tYes σ H Q := h
theorem CabOk.same {C : Addr} {H H' : Hp} {c : Addr} {n : Int} {bs : List Bar} (B : CabOk C H c n bs) (s : Same H H') : CabOk C H' c n bs := by
  obtain ⟨t, ks, ⟨dx, h1⟩, h2, h3⟩ := B.h
  exact ⟨⟨t, ks, ⟨dx, s _ _ h1⟩, h2.same s, h3⟩⟩
structure spGetD (C : Addr) (vs : List V) (H : Hp) (Q : VK) (_ : XK) : Prop where
  h : ∃ (c dx : Addr) (n : Int) (t : Addr), vs = [.ref c] ∧ H c = some (.ins C dx (cfl n t)) ∧ Q (.int n) H
structure spGetB (C : Addr) (vs : List V) (H : Hp) (Q : VK) (_ : XK) : Prop where
  h : ∃ (c dx : Addr) (n : Int) (t : Addr), vs = [.ref c] ∧ H c = some (.ins C dx (cfl n t)) ∧ Q (.ref t) H
/-- the two properties of the class -/
structure CabP (P : Program) (w : World) (K : PySem.W.Frag) (mg : Str → Option Value) (base : Heap) (C : Addr) : Prop where
  cl : Cls K C
  d : ∃ p g fd, PropOf K C "drawers" p g ∧ FnOk P w K mg base CX0 1 g fd ["self"] (spGetD C) ∧ Binds K fd ["self"] []
  b : ∃ p g fd, PropOf K C "bars" p g ∧ FnOk P w K mg base CX0 1 g fd ["self"] (spGetB C) ∧ Binds K fd ["self"] []
structure spGoes (C : Addr) (vs : List V) (H : Hp) (Q : VK) (_ : XK) : Prop where
  h : ∃ (c : Addr) (bs : List Bar) (st : List Bool) (d : Int), vs = [.ref c, .str (sstr st), .int d] ∧ CabOk C H c st.length bs ∧ 0 ≤ d ∧ d < st.length ∧ ∀ H', Same H H' → Q (.bl (goesB bs st d)) H'
structure spBarring (C : Addr) (vs : List V) (H : Hp) (Q : VK) (_ : XK) : Prop where
  h : ∃ (c t : Addr) (ks : List (Addr × Bar)) (st : List Bool) (d : Int), vs = [.ref c, .str (sstr st), .int d] ∧ CabAt C H c st.length t ∧ BarsAt H t ks ∧ OkBars st.length (ks.map (·.2)) ∧ st.length ≤ 7 ∧ ks.length ≤ 100 ∧ 0 ≤ d ∧ d < st.length ∧
    ∀ (p : Addr) (H' : Hp), H p = none → Same H H' → H' p = some (.lst ((ks.filter fun k => hind k.2 st d).map fun k => V.ref k.1)) → Q (.ref p) H'
structure spFreeDrawers (C : Addr) (vs : List V) (H : Hp) (Q : VK) (_ : XK) : Prop where
  h : ∃ (c : Addr) (bs : List Bar) (st : List Bool), vs = [.ref c, .str (sstr st)] ∧ CabOk C H c st.length bs ∧ ∀ (p : Addr) (H' : Hp), H p = none → Same H H' → H' p = some (.lst ((freeL bs st).map V.int)) → Q (.ref p) H'
theorem take_succ_map {α β : Type} (f : α → β) {l : List α} {i : Nat} {x : α} (h : l[i]? = some x) : (l.take i).map f ++ [f x] = (l.take (i + 1)).map f := by
  obtain ⟨hl, e⟩ := List.getElem?_eq_some_iff.mp h
  rw [List.take_succ_eq_append_getElem hl, List.map_append, ← e]
  rfl
theorem any_take {ks : List (Addr × Bar)} {bs : List Bar} (e : ks.map (·.2) = bs) (f : Bar → Bool) : ((ks.take (ks.map fun k => V.ref k.1).length).map fun k => f k.2).any id = bs.any f := by
  rw [List.length_map, List.take_length, ← e, List.any_map, List.any_map]
  rfl
section
variable {P : Program} {w : World} {K : PySem.W.Frag} {mg : Str → Option Value} {base : Heap}
theorem scDrawers : FnScope ["self"] ["self"] (defScope sDrawers) := ⟨rfl, rfl, rfl, by decide +kernel, rfl, by decide +kernel, by decide +kernel⟩
theorem ok_getD {f C : Addr} {fd : FuncData} (F : Fun K "drawers" "Cabinet.drawers" sDrawers f fd) (T : CabT K mg C) : FnOk P w K mg base CX0 1 f fd ["self"] (spGetD C) := by
  refine F.ok scDrawers (fun vs H Q E h => ?_) (fun cdv A outer s H vs Q E hr h => ?_)
  · obtain ⟨c, dx, n, t, rfl, _⟩ := h.h
    rfl
  · obtain ⟨c, dx, n, t, rfl, hc, k⟩ := h.h
    exact ⟨_, pss_one (ps_ret (pe_fld (pv 0) rfl)), ⟨_, rfl, c, C, dx, _, _, rfl, hc, T.cl, T.nD, cfl_d n t, k⟩⟩
theorem scBars : FnScope ["self"] ["self"] (defScope sBars) := ⟨rfl, rfl, rfl, by decide +kernel, rfl, by decide +kernel, by decide +kernel⟩
theorem ok_getB {f C : Addr} {fd : FuncData} (F : Fun K "bars" "Cabinet.bars" sBars f fd) (T : CabT K mg C) : FnOk P w K mg base CX0 1 f fd ["self"] (spGetB C) := by
  refine F.ok scBars (fun vs H Q E h => ?_) (fun cdv A outer s H vs Q E hr h => ?_)
  · obtain ⟨c, dx, n, t, rfl, _⟩ := h.h
    rfl
  · obtain ⟨c, dx, n, t, rfl, hc, k⟩ := h.h
    exact ⟨_, pss_one (ps_ret (pe_fld (pv 0) rfl)), ⟨_, rfl, c, C, dx, _, _, rfl, hc, T.cl, T.nB, cfl_b n t, k⟩⟩
abbrev nGoes : List Str := ["cabinet", "standing", "drawer", "bar"]
theorem scAg : FnScope nGoes ["cabinet", "standing", "drawer"] (defScope s_bars_against) := ⟨rfl, rfl, rfl, by decide +kernel, rfl, by decide +kernel, by decide +kernel⟩
theorem ok_against {f f1 C : Addr} {fd fd1 : FuncData} (F : Fun K "bars_against" "bars_against" s_bars_against f fd) (CP : CabP P w K mg base C) (G : FnOk P w K mg base CX0 1 f1 fd1 ["bar", "standing", "drawer"] (spHold K)) (g1 : mg "hinders" = some (.ref f1)) (k1 : PySem.W.keepIn K (.ref f1) = true) (b1 : Binds K fd1 ["bar", "standing", "drawer"] []) :
    FnOk P w K mg base CX0 4 f fd ["cabinet", "standing", "drawer"] (spBarring C) := by
  refine F.ok scAg (fun vs H Q E h => ?_) (fun cdv A outer s H vs Q E hr h => ?_)
  · obtain ⟨c, t, ks, st, d, rfl, _⟩ := h.h
    rfl
  · obtain ⟨c, t, ks, st, d, rfl, ⟨dx, hc⟩, B, O, n7, n100, d0, d1, k⟩ := h.h
    obtain ⟨pB, gB, fdB, hpB, GB, bB⟩ := CP.b
    refine ⟨_, pss_one (ps_ret (pe_lc (own := [("bar", 3)]) (g := gName 3) (by rfl) scAg.nd (pi_tup (pe_prop (pv 0) CP.cl hpB GB (hr.mono (by decide)) bB .nil pass0 rfl)) (blkOk_by (N := nGoes) (sc := defScope s_bars_against) (by decide +kernel)) (fun _ _ _ _ _ => pg_name (i := 3) scAg.nd rfl (Or.inl rfl))
        (fun _ _ _ _ _ => pts_one (pt_val (pe_call G (hr.mono (by decide)) rfl g1 k1 b1 .nil pass0 (pa_cons (pv 3) (pa_cons (pv 1) (pa_cons (pv 2) pa_nil)))))) (fun _ _ _ _ _ => pv 3))), ?_⟩
    refine ⟨_, rfl, c, dx, _, rfl, hc, ⟨⟨c, dx, _, t, rfl, hc, ?_⟩⟩⟩
    refine ⟨t, rfl, ⟨_, SqT.of' B.tu⟩, fun D hD => ?_⟩
    refine lc_pick (walk_bars (K := K) (a := t) (l := ks) (f := fun k => V.ref k.1)) ks rfl (by omega) (fun k => hind k.2 st d) (fun k => V.ref k.1) hD (fun H' s1 => SqT.of' (s1 _ _ B.tu)) ?_ (fun H' s1 hD1 => k D H' hD s1 hD1)
    rintro i x kk H1 H1' Tk Nk ek s1 ⟨rfl, z, ez, rfl⟩ kT kF
    rw [ek] at ez
    cases ez
    have hm : kk ∈ ks := List.mem_of_getElem? ek
    have hok : kk.2.ok st.length := O.ok _ (List.mem_map.mpr ⟨kk, hm, rfl⟩)
    refine ⟨rfl, ?_⟩
    refine ⟨_, rfl, _, rfl, _, rfl, ⟨⟨kk.1, kk.2, st, d, rfl, SqT.of' (s1 _ _ (B.el kk hm)), hok, by omega, d0, d1, _, rfl, ?_⟩⟩⟩
    cases e : hind kk.2 st d with
    | true => exact iteT ⟨_, rfl, kT _ e (Same.refl _)⟩
    | false => exact iteF (kF _ e (Same.refl _))
theorem goes_empty {ks : List (Addr × Bar)} {bs : List Bar} (e : ks.map (·.2) = bs) (st : List Bool) (d : Int) : ((ks.filter fun k => hind k.2 st d).map fun k => V.ref k.1).isEmpty = goesB bs st d := by
  subst e
  unfold goesB
  induction ks with
  | nil => rfl
  | cons k ks ih =>
    rw [List.map_cons, List.any_cons]
    by_cases q : hind k.2 st d = true
    · rw [List.filter_cons, if_pos q, q]
      rfl
    · rw [List.filter_cons, if_neg q]
      have q' : hind k.2 st d = false := by simpa using q
      rw [q', Bool.false_or]
      exact ih
theorem scGoes : FnScope ["cabinet", "standing", "drawer"] ["cabinet", "standing", "drawer"] (defScope s_goes) := ⟨rfl, rfl, rfl, by decide +kernel, rfl, by decide +kernel, by decide +kernel⟩
theorem ok_goes {f f1 C : Addr} {fd fd1 : FuncData} (F : Fun K "goes" "goes" s_goes f fd) (G : FnOk P w K mg base CX0 4 f1 fd1 ["cabinet", "standing", "drawer"] (spBarring C)) (g1 : mg "bars_against" = some (.ref f1)) (k1 : PySem.W.keepIn K (.ref f1) = true) (b1 : Binds K fd1 ["cabinet", "standing", "drawer"] []) :
    FnOk P w K mg base CX0 6 f fd ["cabinet", "standing", "drawer"] (spGoes C) := by
  refine F.ok scGoes (fun vs H Q E h => ?_) (fun cdv A outer s H vs Q E hr h => ?_)
  · obtain ⟨c, bs, st, d, rfl, _⟩ := h.h
    rfl
  · obtain ⟨c, bs, st, d, rfl, B, d0, d1, k⟩ := h.h
    obtain ⟨t, ks, hc, hB, ebs, O, n1, n7, n100⟩ := B.h
    refine ⟨_, pss_one (ps_ret (pe_notT (pe_call G (hr.mono (by decide)) rfl g1 k1 b1 .nil pass0 (pa_cons (pv 0) (pa_cons (pv 1) (pa_cons (pv 2) pa_nil)))))), ?_⟩
    refine ⟨_, rfl, _, rfl, _, rfl, ⟨⟨c, t, ks, st, d, rfl, hc, hB, by rw [ebs]; exact O, by omega, by rw [← ebs, List.length_map] at n100; exact n100, d0, d1, fun p H' hp s1 h1 => ?_⟩⟩⟩
    refine ⟨_, .inl ⟨_, SqL.of h1, rfl⟩, ?_⟩
    rw [Bool.not_not, goes_empty ebs]
    exact k H' s1
end
end DL

set_option Elab.async false
set_option maxRecDepth 100000
namespace DL
open PySem L2 HT TL
theorem drs_get {n i : Nat} (h : i < n) : (drs n)[i]? = some (i : Int) := by
  unfold drs
  rw [List.getElem?_map, List.getElem?_range h]
  rfl
theorem take_succ_filter {α : Type} (f : α → Bool) {l : List α} {i : Nat} {x : α} (h : l[i]? = some x) : (l.take (i + 1)).filter f = if f x = true then (l.take i).filter f ++ [x] else (l.take i).filter f := by
  obtain ⟨hl, e⟩ := List.getElem?_eq_some_iff.mp h
  rw [List.take_succ_eq_append_getElem hl, List.filter_append, e]
  by_cases q : f x = true
  · rw [if_pos q, List.filter_cons_of_pos q, List.filter_nil]
  · rw [if_neg q, List.filter_cons_of_neg q, List.filter_nil, List.append_nil]
theorem drs_len (n : Nat) : (drs n).length = n := by unfold drs; rw [List.length_map, List.length_range]
/-- a drawn cabinet's parts: the list at p -/
structure DrOk (H : Hp) (p : Addr) (n : Int) (bs : List Bar) : Prop where
  h : ∃ (t : Addr) (ks : List (Addr × Bar)) (zs : List V), H p = some (.lst (.int n :: .ref t :: zs)) ∧ BarsAt H t ks ∧ ks.map (·.2) = bs ∧ OkBars n bs ∧ 1 ≤ n ∧ n ≤ 7 ∧ bs.length ≤ 100
theorem DrOk.same {H H' : Hp} {p : Addr} {n : Int} {bs : List Bar} (B : DrOk H p n bs) (s : Same H H') : DrOk H' p n bs := by
  obtain ⟨t, ks, zs, h1, h2, h3⟩ := B.h
  exact ⟨⟨t, ks, zs, s _ _ h1, h2.same s, h3⟩⟩
structure spLawFree (vs : List V) (H : Hp) (Q : VK) (_ : XK) : Prop where
  h : ∃ (p : Addr) (bs : List Bar) (st : List Bool), vs = [.ref p, .str (sstr st)] ∧ DrOk H p st.length bs ∧ ∀ (q : Addr) (H' : Hp), H q = none → Same H H' → H' q = some (.lst ((freeL bs st).map V.int)) → Q (.ref q) H'
theorem occ_so (b : Bool) : Builtin.Str.occurrences ("so" : Str) ⟨#[sg b]⟩ 0 ("so" : Str).length 1 = [if b = true then 1 else 0] := by revert b; decide +kernel
theorem os_at (b : Bool) : atI ("os" : Str).cps.toList (((if b = true then 1 else 0 : Nat) : Int)) = some (sg (!b)) := by revert b; decide +kernel
theorem join_codes (cs : List Nat) : Txt.join "" (cs.map fun c => (⟨#[c]⟩ : Str)) = ⟨cs.toArray⟩ := by
  rw [join_eq]
  refine PyProof.Rows.ext_toList ?_
  show tl _ = cs
  rw [tl_join]
  have z : tl ("" : Str) = [] := by decide +kernel
  rw [z]
  have : ∀ l : List Nat, joinL [] ((l.map fun c => (⟨#[c]⟩ : Str)).map tl) = l := by
    intro l
    induction l with
    | nil => rfl
    | cons a l ih =>
      cases l with
      | nil => rfl
      | cons b l =>
        show [a] ++ ([] ++ joinL [] (((b :: l).map fun c => (⟨#[c]⟩ : Str)).map tl)) = _
        rw [ih]
        rfl
  exact this cs
theorem sum_ones (cs : List Nat) : ((cs.map fun c => (⟨#[c]⟩ : Str)).map (·.length)).sum = cs.length := by
  induction cs with
  | nil => rfl
  | cons a l ih =>
    rw [List.map_cons, List.map_cons, List.sum_cons, ih, List.length_cons]
    show 1 + l.length = _
    omega
theorem flip_sat {st : List Bool} {d : Int} {i : Nat} (h : i < st.length) (d0 : 0 ≤ d) : (flip st d)[i]? = some (if (i : Int) = d then !sat st d else sat st i) := by
  unfold flip sat
  rw [Int.toNat_natCast]
  by_cases q : (i : Int) = d
  · subst q
    rw [if_pos rfl, Int.toNat_natCast, List.getElem?_set_self h]
  · rw [if_neg q, List.getElem?_set_ne (by omega), List.getD_eq_getElem?_getD, List.getElem?_eq_getElem h]
    rfl
structure spPattern (K : PySem.W.Frag) (vs : List V) (H : Hp) (Q : VK) (_ : XK) : Prop where
  h : ∃ (r sc : Addr) (ns : List Int) (n : Int) (z : Str), vs = [.ref r, .int n, .str z] ∧ RowOk H r sc ∧ SqL K H sc (ns.map V.int) ∧ 1 ≤ n ∧ n ≤ 7 ∧ 1 ≤ z.length ∧ z.length ≤ 100 ∧
    ∀ (cs : List Nat) (H' : Hp), (cs.length : Int) = n → (∀ c ∈ cs, c ∈ z.cps.toList) → RowOk H' r sc → But r H H' → Q (.str ⟨cs.toArray⟩) H'
theorem os_codes {cs : List Nat} (h : ∀ c ∈ cs, c ∈ ("os" : Str).cps.toList) : ∃ st : List Bool, (⟨cs.toArray⟩ : Str) = sstr st ∧ st.length = cs.length := by
  refine ⟨cs.map fun c => decide (c = 111), ?_, by rw [List.length_map]⟩
  refine PyProof.Rows.ext_toList ?_
  rw [sstr_tl, List.map_map]
  show cs = _
  refine (List.map_congr_left (g := id) fun c hc => ?_).trans (List.map_id cs) |>.symm
  have := h c hc
  have e : ("os" : Str).cps.toList = [111, 115] := by decide +kernel
  rw [e] at this
  rcases List.mem_cons.mp this with rfl | this
  · rfl
  · rw [List.mem_singleton.mp this]; rfl
section
variable {P : Program} {w : World} {K : PySem.W.Frag} {mg : Str → Option Value} {base : Heap}
abbrev nFD : List Str := ["cabinet", "standing", "drawer"]
theorem scFD : FnScope nFD ["cabinet", "standing"] (defScope s_free_drawers) := ⟨rfl, rfl, rfl, by decide +kernel, rfl, by decide +kernel, by decide +kernel⟩
theorem ok_freeDrawers {f f1 C : Addr} {fd fd1 : FuncData} (F : Fun K "free_drawers" "free_drawers" s_free_drawers f fd) (T : Bt mg) (CP : CabP P w K mg base C) (G : FnOk P w K mg base CX0 6 f1 fd1 ["cabinet", "standing", "drawer"] (spGoes C)) (g1 : mg "goes" = some (.ref f1)) (k1 : PySem.W.keepIn K (.ref f1) = true) (b1 : Binds K fd1 ["cabinet", "standing", "drawer"] []) :
    FnOk P w K mg base CX0 8 f fd ["cabinet", "standing"] (spFreeDrawers C) := by
  refine F.ok scFD (fun vs H Q E h => ?_) (fun cdv A outer s H vs Q E hr h => ?_)
  · obtain ⟨c, bs, st, rfl, _⟩ := h.h
    rfl
  · obtain ⟨c, bs, st, rfl, B, k⟩ := h.h
    obtain ⟨t, ks, ⟨dx, hc⟩, hB, ebs, O, n1, n7, n100⟩ := id B.h
    obtain ⟨pD, gD, fdD, hpD, GD, bD⟩ := CP.d
    refine ⟨_, pss_one (ps_ret
      (pe_lc (own := [("drawer", 2)]) (g := gName 2) (by rfl) scFD.nd (pi_range1 (by rfl) T.range (pa_cons (pe_prop (pv 0) CP.cl hpD GD (hr.mono (by decide)) bD .nil pass0 rfl) pa_nil)) (blkOk_by (N := nFD) (sc := defScope s_free_drawers) (by decide +kernel)) (fun _ _ _ _ _ => pg_name (i := 2) scFD.nd rfl (by first | exact Or.inl rfl | exact Or.inr rfl))
        (fun _ _ _ _ _ => pts_one (pt_val (pe_call G (hr.mono (by decide)) rfl g1 k1 b1 .nil pass0 (pa_cons (pv 0) (pa_cons (pv 1) (pa_cons (pv 2) pa_nil)))))) (fun _ _ _ _ _ => pv 2))), ?_⟩
    refine ⟨_, rfl, c, dx, _, rfl, hc, ⟨⟨c, dx, _, t, rfl, hc, ?_⟩⟩⟩
    refine ⟨_, rfl, by omega, by omega, fun D hD => ?_⟩
    refine lc_range (lo := 0) (n := st.length) (fun i H' => Same H H' ∧ H' D = some (.lst ((((drs st.length).take i).filter fun d => goesB bs st d).map V.int))) ⟨same_upd hD, upd_same⟩ ?_ ?_
    · rintro i H' hi ⟨s1, hD1⟩
      refine ⟨rfl, ?_⟩
      have ei : (0 : Int) + (i : Nat) = (i : Int) := by omega
      refine ⟨_, rfl, _, rfl, _, rfl, ⟨⟨c, bs, st, (0 : Int) + (i : Nat), rfl, B.same s1, by omega, by omega, fun H2 s2 => ⟨_, rfl, ?_⟩⟩⟩⟩
      rw [take_succ_filter (fun d => goesB bs st d) (drs_get hi), ei]
      cases e : goesB bs st i with
      | true =>
        refine iteT ⟨_, rfl, _, s2 _ _ hD1, ?_, fun b o eb => ?_, ?_⟩
        · rw [List.length_map]
          have := List.length_filter_le (fun d => goesB bs st d) ((drs st.length).take i)
          rw [List.length_take, drs_len] at this
          exact small1000 (by omega)
        · rw [upd_ne (ne_of_none eb hD)]
          exact s2 _ _ (s1 _ _ eb)
        · rw [upd_same, if_pos rfl, List.map_append]
          rfl
      | false =>
        refine iteF ⟨fun b o eb => s2 _ _ (s1 _ _ eb), ?_⟩
        rw [if_neg Bool.false_ne_true]
        exact s2 _ _ hD1
    · rintro H' ⟨s1, hD1⟩
      refine k D H' hD s1 ?_
      rw [List.take_of_length_le (by rw [drs_len]; exact Nat.le_refl _)] at hD1
      exact hD1
end
end DL

set_option Elab.async false
set_option maxRecDepth 100000
namespace DL
open PySem L2 HT TL
def retE (st : Stmt) : Expr := match defBody st with
  | [.Return (some e) _] => e
  | _ => .Constant .none 0 ⟨0, 0, 0, 0⟩
def lcSc : Expr → Scope
  | .ListComp _ _ sc _ => sc
  | _ => { kind := .function, names := [], isGenerator := false, isCoroutine := false }
section
variable {P : Program} {w : World} {K : PySem.W.Frag} {mg : Str → Option Value} {base : Heap}
abbrev nLF : List Str := ["_law_d", "_law_standing", "_law_drawer", "_law_bar"]
abbrev nLM : List Str := ["_law_standing", "_law_drawer", "_law_at"]
abbrev nLP : List Str := ["_law_row", "_law_many", "_law_signs", "_law_at"]
end
end DL

set_option Elab.async false
set_option maxRecDepth 100000
namespace DL
open PySem L2 HT TL
/-! ### plain data: what == sees -/
/-- data of so many levels at most, whose texts are texts -/
def dok (k : Nat) (d : PyData) : Prop := d.canLay0 = true ∧ d.depth ≤ k
theorem dok_shaped {k : Nat} {d : PyData} (h : dok k d) (hk : k ≤ 64) : SeqAt.shaped d = true := by
  unfold SeqAt.shaped
  rw [h.1, decide_eq_true (Nat.le_trans h.2 hk)]
  rfl
theorem dok_all {k : Nat} : ∀ {ds : List PyData}, (∀ d ∈ ds, dok k d) → PyData.canLayAll0 ds = true ∧ PyData.depthAll ds ≤ k
  | [], _ => ⟨by simp [PyData.canLayAll0], by simp [PyData.depthAll]⟩
  | d :: ds, h => by
    obtain ⟨h1, h2⟩ := dok_all (ds := ds) fun e he => h e (List.mem_cons_of_mem _ he)
    obtain ⟨h3, h4⟩ := h d List.mem_cons_self
    refine ⟨by simp [PyData.canLayAll0, h1, h3], ?_⟩
    simp only [PyData.depthAll]
    omega
theorem dok_list {k : Nat} {ds : List PyData} (h : ∀ d ∈ ds, dok k d) : dok (k + 1) (.list ds) := by
  obtain ⟨h1, h2⟩ := dok_all h
  exact ⟨by simpa [PyData.canLay0] using h1, by simp only [PyData.depth]; omega⟩
theorem dok_tuple {k : Nat} {ds : List PyData} (h : ∀ d ∈ ds, dok k d) : dok (k + 1) (.tuple ds) := by
  obtain ⟨h1, h2⟩ := dok_all h
  exact ⟨by simpa [PyData.canLay0] using h1, by simp only [PyData.depth]; omega⟩
theorem dok_int (i : Int) : dok 1 (.int i) := ⟨by simp [PyData.canLay0], by simp [PyData.depth]⟩
theorem dpAll_ints {K : PySem.W.Frag} {H : Hp} : ∀ l : List Int, DpAll K H (l.map V.int) (l.map PyData.int)
  | [] => .nil
  | i :: l => .cons (.int i) (dpAll_ints l)
end DL
namespace DL
open PySem L2 HT TL
theorem dok_str {z : Str} (h : PyData.strOk z = true) : dok 1 (.str z) := ⟨by simpa [PyData.canLay0] using h, by simp [PyData.depth]⟩
theorem wd_strOk (b : Bool) : PyData.strOk (wd b) = true := by revert b; decide +kernel
def barD (b : Bar) : PyData := .tuple [.int b.d, .str (wd b.w), .int b.o, .str (wd b.t)]
theorem dok_bar (b : Bar) : dok 2 (barD b) := dok_tuple fun d hd => by
  simp only [List.mem_cons, List.not_mem_nil, or_false] at hd
  rcases hd with rfl | rfl | rfl | rfl
  · exact dok_int _
  · exact dok_str (wd_strOk _)
  · exact dok_int _
  · exact dok_str (wd_strOk _)
theorem dp_bar {K : PySem.W.Frag} {H : Hp} {a : Addr} {b : Bar} (h : SqT K H a b.vs) : Dp K H (.ref a) (barD b) := .tup h (.cons (.int _) (.cons (.str _) (.cons (.int _) (.cons (.str _) .nil))))
theorem dpAll_bars {K : PySem.W.Frag} {H : Hp} : ∀ {ks : List (Addr × Bar)}, (∀ k ∈ ks, H k.1 = some (.tup k.2.vs)) → DpAll K H (ks.map fun k => V.ref k.1) (ks.map fun k => barD k.2)
  | [], _ => .nil
  | k :: ks, h => .cons (dp_bar (SqT.of' (h k List.mem_cons_self))) (dpAll_bars fun j hj => h j (List.mem_cons_of_mem _ hj))
theorem dok_bars (ks : List (Addr × Bar)) : ∀ d ∈ ks.map (fun k => barD k.2), dok 2 d := fun d hd => by
  obtain ⟨k, _, rfl⟩ := List.mem_map.mp hd
  exact dok_bar k.2
theorem dok_ints (l : List Int) : ∀ d ∈ l.map PyData.int, dok 1 d := fun d hd => by
  obtain ⟨i, _, rfl⟩ := List.mem_map.mp hd
  exact dok_int i
theorem eqv_self {k : Nat} {d : PyData} (h : dok k d) : PyData.eqv d d = true := SeqAt.eqv_refl d h.1
end DL

set_option Elab.async false
set_option maxRecDepth 100000
namespace DL
open PySem L2 HT TL
/-! ### the checks -/
structure spSigns (vs : List V) (H : Hp) (Q : VK) (_ : XK) : Prop where
  h : ∃ (n : Int) (y z : Str), vs = [.int n, .str y, .str z] ∧ (y.length : Int) = n ∧ n ≤ 7 ∧ (∀ c ∈ y.cps.toList, c ∈ z.cps.toList) ∧ ∀ H', Same H H' → Q (.bl true) H'
structure spIsStd (vs : List V) (H : Hp) (Q : VK) (_ : XK) : Prop where
  h : ∃ st : List Bool, vs = [.int st.length, .str (sstr st)] ∧ st.length ≤ 7 ∧ ∀ H', Same H H' → Q (.bl true) H'
/-- isinstance of a cabinet -/
structure CabI (K : PySem.W.Frag) (mg : Str → Option Value) (C : Addr) : Prop where
  cl : Cls K C
  mgC : mg "Cabinet" = some (.ref C)
  ha : PySem.W.findIn K (.ref C) "__class__" = some (some (.builtin "object.__class__"))
  hn : PySem.W.specialIn K (.builtin "object.__class__") "__get__" = some (some (.builtin "getset_descriptor.__get__"))
  htk : PySem.W.takesIn K (.builtin "object.__class__") = some true
  hm : PySem.W.mroIn K C (.type "object") = some true
  kk : PySem.W.kitOne K (.ref C) (.ref C) = some true
structure spCkCab (C : Addr) (vs : List V) (H : Hp) (Q : VK) (_ : XK) : Prop where
  h : ∃ (c : Addr) (n : Int) (t : Addr), vs = [.ref c] ∧ CabAt C H c n t ∧ Q .non H
structure spCkStd (C : Addr) (vs : List V) (H : Hp) (Q : VK) (_ : XK) : Prop where
  h : ∃ (c : Addr) (st : List Bool) (t : Addr), vs = [.ref c, .str (sstr st)] ∧ CabAt C H c st.length t ∧ st.length ≤ 7 ∧ ∀ H', Same H H' → Q .non H'
structure spCkDrawer (C : Addr) (vs : List V) (H : Hp) (Q : VK) (_ : XK) : Prop where
  h : ∃ (c : Addr) (n d : Int) (t : Addr), vs = [.ref c, .int d] ∧ CabAt C H c n t ∧ 0 ≤ d ∧ d < n ∧ Q .non H
structure spBehind (C CB : Addr) (vs : List V) (H : Hp) (Q : VK) (E : XK) : Prop where
  h : ∃ (c : Addr) (bs : List Bar) (st : List Bool) (d : Int), vs = [.ref c, .str (sstr st), .int d] ∧ CabOk C H c st.length bs ∧ 0 ≤ d ∧ d < st.length ∧
    (goesB bs st d = true → ∀ H', Same H H' → Q (.str (sstr (flip st d))) H') ∧ (goesB bs st d = false → ∀ H', Same H H' → E (.ref CB) none H')
theorem sstr_codes {st : List Bool} : ∀ c ∈ (sstr st).cps.toList, c ∈ ("os" : Str).cps.toList := fun c hc => by
  rw [sstr_tl] at hc
  obtain ⟨b, _, rfl⟩ := List.mem_map.mp hc
  have z : ∀ b : Bool, sg b ∈ ("os" : Str).cps.toList := by decide +kernel
  exact z b
theorem all_true (n : Nat) : (List.replicate n true).all id = true := by
  rw [List.all_eq_true]
  intro x hx
  exact (List.mem_replicate.mp hx).2 ▸ rfl
theorem CabOk.cab {C : Addr} {H : Hp} {c : Addr} {n : Int} {bs : List Bar} (B : CabOk C H c n bs) : ∃ t, CabAt C H c n t ∧ n ≤ 7 := by
  obtain ⟨t, ks, h1, h2, h3, h4, h5, h6, h7⟩ := B.h
  exact ⟨t, h1, h6⟩
section
variable {P : Program} {w : World} {K : PySem.W.Frag} {mg : Str → Option Value} {base : Heap}
abbrev nHS : List Str := ["drawers", "value", "signs", "sign"]
theorem scHS : FnScope nHS ["drawers", "value", "signs"] (defScope s_has_signs) := ⟨rfl, rfl, rfl, by decide +kernel, rfl, by decide +kernel, by decide +kernel⟩
theorem ok_hasSigns {f : Addr} {fd : FuncData} (F : Fun K "has_signs" "has_signs" s_has_signs f fd) (T : Bt mg) (zS : mg "str" = none) (zA : mg "all" = none) : FnOk P w K mg base CX0 1 f fd ["drawers", "value", "signs"] spSigns := by
  refine F.ok scHS (fun vs H Q E h => ?_) (fun cdv A outer s H vs Q E hr h => ?_)
  · obtain ⟨n, y, z, rfl, _⟩ := h.h
    rfl
  · obtain ⟨n, y, z, rfl, hl, h7, hc, k⟩ := h.h
    refine ⟨_, pss_cons (ps_if (PW.pt (pw_or (pt_not (pt_val (pe_callB call_isi (by rfl) T.isinstance (by decide +kernel) (pa_cons (pv 1) (pa_cons (pe_bltn (v := .ty "str") (by rfl) zS (by decide +kernel) rfl) pa_nil)))))
        (pw_or1 (pt_cmpR op_ne (pe_callB call_len_str (by rfl) T.len PySem.boot_len (pa_cons (pv 1) pa_nil)) (pv 0) (nomark _))))) (pss_one (ps_ret pe_bl)) pss_nil)
      (pss_one (ps_ret (pe_callB (cr_all rfl) (by rfl) zA boot_all_ (pa_cons
        (pe_lc (own := [("sign", 3)]) (g := gName 3) (tt := tYes) (by rfl) scHS.nd (pi_str (pv 1)) (blkOk_by (N := nHS) (sc := defScope s_has_signs) (by decide +kernel)) (fun _ _ _ _ _ => pg_name (i := 3) scHS.nd rfl (by first | exact Or.inl rfl | exact Or.inr rfl)) (fun _ _ _ _ _ => pts_nil)
          (fun _ _ _ _ _ => pe_cmpR op_in_sign (pv 3) (pv 2) (by rfl))) pa_nil)))), ?_⟩
    have ysz : y.length ≤ sizeLine := Nat.le_of_lt (small1000 (by omega))
    refine ⟨_, rfl, _, _, _, _, true, rfl, .ty "str", .base (.str y), kit_ty (by decide +kernel), _, rfl, iteF ?_⟩
    refine ⟨_, rfl, _, rfl, ysz, _, rfl, rfl, _, rfl, ?_⟩
    have e0 : decide ((V.int (y.length : Int)) = V.int n) = true := decide_eq_true (by rw [hl])
    show if (!decide ((V.int (y.length : Int)) = V.int n)) = true then _ else _
    rw [e0]
    refine iteF ?_
    refine ⟨_, rfl, _, rfl, fun D hD => ?_⟩
    refine lc_it walk_str (fun i H' => Same H H' ∧ H' D = some (.lst ((List.replicate i true).map V.bl))) ⟨same_upd hD, upd_same⟩ (fun _ _ _ _ => trivial) ?_ ?_
    · rintro i x H1 H2 hi ⟨s1, hD1⟩ ⟨rfl, c, hcc, rfl⟩
      refine ⟨rfl, tYes_of (iteT ?_)⟩
      have hm : c ∈ z.cps.toList := hc c (List.mem_of_getElem? (by rw [Array.getElem?_toList]; exact hcc))
      refine ⟨_, rfl, _, rfl, c, z, rfl, rfl, ?_⟩
      rw [decide_eq_true hm]
      refine ⟨_, hD1, ?_, fun b o e => ?_, ?_⟩
      · rw [List.length_map, List.length_replicate]
        have : y.length = y.cps.size := rfl
        exact small1000 (by omega)
      · rw [upd_ne (ne_of_none e hD)]
        exact s1 b o e
      · rw [upd_same, List.replicate_succ', List.map_append]
        rfl
    · rintro H' ⟨s1, hD1⟩
      refine ⟨D, _, rfl, SqL.of hD1, ?_⟩
      rw [all_true]
      exact k H' s1
theorem scIsStd : FnScope ["drawers", "value"] ["drawers", "value"] (defScope s_is_standing) := ⟨rfl, rfl, rfl, by decide +kernel, rfl, by decide +kernel, by decide +kernel⟩
theorem ok_isStd {f f1 : Addr} {fd fd1 : FuncData} (F : Fun K "is_standing" "is_standing" s_is_standing f fd) (G : FnOk P w K mg base CX0 1 f1 fd1 ["drawers", "value", "signs"] spSigns) (g1 : mg "has_signs" = some (.ref f1)) (k1 : PySem.W.keepIn K (.ref f1) = true) (b1 : Binds K fd1 ["drawers", "value", "signs"] [])
    (gS : ∃ t, mg "STANDING_SIGNS" = some (.str "os" t)) : FnOk P w K mg base CX0 2 f fd ["drawers", "value"] spIsStd := by
  refine F.ok scIsStd (fun vs H Q E h => ?_) (fun cdv A outer s H vs Q E hr h => ?_)
  · obtain ⟨st, rfl, _⟩ := h.h
    rfl
  · obtain ⟨st, rfl, h7, k⟩ := h.h
    obtain ⟨tS, gS⟩ := gS
    refine ⟨_, pss_one (ps_ret (pe_call G (hr.mono (by decide)) rfl g1 k1 b1 .nil pass0 (pa_cons (pv 0) (pa_cons (pv 1) (pa_cons (pe_glob (v := .str "os") rfl gS ⟨_, rfl⟩) pa_nil))))), ?_⟩
    exact ⟨_, rfl, _, rfl, ⟨⟨_, sstr st, _, rfl, by rw [sstr_len], by omega, sstr_codes, k⟩⟩⟩
theorem scCkCab : FnScope ["cabinet"] ["cabinet"] (defScope s_check_cabinet) := ⟨rfl, rfl, rfl, by decide +kernel, rfl, by decide +kernel, by decide +kernel⟩
theorem ok_ckCab {f C : Addr} {fd : FuncData} (F : Fun K "check_cabinet" "check_cabinet" s_check_cabinet f fd) (T : Bt mg) (I : CabI K mg C) : FnOk P w K mg base CX0 1 f fd ["cabinet"] (spCkCab C) := by
  refine F.ok scCkCab (fun vs H Q E h => ?_) (fun cdv A outer s H vs Q E hr h => ?_)
  · obtain ⟨c, n, t, rfl, _⟩ := h.h
    rfl
  · obtain ⟨c, n, t, rfl, ⟨dx, hc⟩, k⟩ := h.h
    refine ⟨_, pss_one (ps_if (pt_not (pt_val (pe_callB call_isi (by rfl) T.isinstance (by decide +kernel) (pa_cons (pv 0) (pa_cons (pe_glob (v := .ref C) rfl I.mgC rfl) pa_nil))))) (pss_one ps_never) pss_nil), ?_⟩
    exact ⟨_, rfl, _, _, _, _, true, rfl, .own C, .base (.ins hc I.cl I.ha I.hn I.htk I.hm), I.kk, _, rfl, iteF k⟩
theorem scCkStd : FnScope ["cabinet", "standing"] ["cabinet", "standing"] (defScope s_check_standing) := ⟨rfl, rfl, rfl, by decide +kernel, rfl, by decide +kernel, by decide +kernel⟩
theorem ok_ckStd {f f1 C : Addr} {fd fd1 : FuncData} (F : Fun K "check_standing" "check_standing" s_check_standing f fd) (CP : CabP P w K mg base C) (G : FnOk P w K mg base CX0 2 f1 fd1 ["drawers", "value"] spIsStd) (g1 : mg "is_standing" = some (.ref f1)) (k1 : PySem.W.keepIn K (.ref f1) = true) (b1 : Binds K fd1 ["drawers", "value"] []) :
    FnOk P w K mg base CX0 3 f fd ["cabinet", "standing"] (spCkStd C) := by
  refine F.ok scCkStd (fun vs H Q E h => ?_) (fun cdv A outer s H vs Q E hr h => ?_)
  · obtain ⟨c, st, t, rfl, _⟩ := h.h
    rfl
  · obtain ⟨c, st, t, rfl, ⟨dx, hc⟩, h7, k⟩ := h.h
    obtain ⟨pD, gD, fdD, hpD, GD, bD⟩ := CP.d
    refine ⟨_, pss_one (ps_if (pt_not (pt_val (pe_call G (hr.mono (by decide)) rfl g1 k1 b1 .nil pass0 (pa_cons (pe_prop (pv 0) CP.cl hpD GD (hr.mono (by decide)) bD .nil pass0 rfl) (pa_cons (pv 1) pa_nil))))) (pss_one ps_never) pss_nil), ?_⟩
    exact ⟨_, rfl, c, dx, _, rfl, hc, ⟨⟨c, dx, _, t, rfl, hc, _, rfl, ⟨⟨st, rfl, h7, fun H' s1 => ⟨_, rfl, iteF (k H' s1)⟩⟩⟩⟩⟩⟩
theorem scCkDrawer : FnScope ["cabinet", "drawer"] ["cabinet", "drawer"] (defScope s_check_drawer) := ⟨rfl, rfl, rfl, by decide +kernel, rfl, by decide +kernel, by decide +kernel⟩
theorem ok_ckDrawer {f f1 C : Addr} {fd fd1 : FuncData} (F : Fun K "check_drawer" "check_drawer" s_check_drawer f fd) (CP : CabP P w K mg base C) (G : FnOk P w K mg base CX0 2 f1 fd1 ["drawers", "value"] (spIsDrawer K)) (g1 : mg "is_drawer" = some (.ref f1)) (k1 : PySem.W.keepIn K (.ref f1) = true) (b1 : Binds K fd1 ["drawers", "value"] []) :
    FnOk P w K mg base CX0 3 f fd ["cabinet", "drawer"] (spCkDrawer C) := by
  refine F.ok scCkDrawer (fun vs H Q E h => ?_) (fun cdv A outer s H vs Q E hr h => ?_)
  · obtain ⟨c, n, d, t, rfl, _⟩ := h.h
    rfl
  · obtain ⟨c, n, d, t, rfl, ⟨dx, hc⟩, d0, d1, k⟩ := h.h
    obtain ⟨pD, gD, fdD, hpD, GD, bD⟩ := CP.d
    refine ⟨_, pss_one (ps_if (pt_not (pt_val (pe_call G (hr.mono (by decide)) rfl g1 k1 b1 .nil pass0 (pa_cons (pe_prop (pv 0) CP.cl hpD GD (hr.mono (by decide)) bD .nil pass0 rfl) (pa_cons (pv 1) pa_nil))))) (pss_one ps_never) pss_nil), ?_⟩
    refine ⟨_, rfl, c, dx, _, rfl, hc, ⟨⟨c, dx, _, t, rfl, hc, _, rfl, ?_⟩⟩⟩
    refine spIsDrawer_sc (n := n) (x := .int d) rfl ⟨_, rfl, ?_⟩
    show if (!(decide (0 ≤ d) && decide (d < n))) = true then _ else _
    rw [decide_eq_true d0, decide_eq_true d1]
    exact iteF k
structure spCan (C : Addr) (vs : List V) (H : Hp) (Q : VK) (_ : XK) : Prop where
  h : ∃ (c : Addr) (bs : List Bar) (st : List Bool), vs = [.ref c, .str (sstr st)] ∧ CabOk C H c st.length bs ∧ ∀ (p : Addr) (H' : Hp), H p = none → Same H H' → H' p = some (.lst ((freeL bs st).map V.int)) → Q (.ref p) H'
theorem scCan : FnScope ["cabinet", "standing"] ["cabinet", "standing"] (defScope s_can) := ⟨rfl, rfl, rfl, by decide +kernel, rfl, by decide +kernel, by decide +kernel⟩
theorem ok_can {f f1 f2 f3 C : Addr} {fd fd1 fd2 fd3 : FuncData} (F : Fun K "can" "can" s_can f fd) (G1 : FnOk P w K mg base CX0 1 f1 fd1 ["cabinet"] (spCkCab C)) (g1 : mg "check_cabinet" = some (.ref f1)) (k1 : PySem.W.keepIn K (.ref f1) = true) (b1 : Binds K fd1 ["cabinet"] [])
    (G2 : FnOk P w K mg base CX0 3 f2 fd2 ["cabinet", "standing"] (spCkStd C)) (g2 : mg "check_standing" = some (.ref f2)) (k2 : PySem.W.keepIn K (.ref f2) = true) (b2 : Binds K fd2 ["cabinet", "standing"] [])
    (G3 : FnOk P w K mg base CX0 8 f3 fd3 ["cabinet", "standing"] (spFreeDrawers C)) (g3 : mg "free_drawers" = some (.ref f3)) (k3 : PySem.W.keepIn K (.ref f3) = true) (b3 : Binds K fd3 ["cabinet", "standing"] []) : FnOk P w K mg base CX0 10 f fd ["cabinet", "standing"] (spCan C) := by
  refine F.ok scCan (fun vs H Q E h => ?_) (fun cdv A outer s H vs Q E hr h => ?_)
  · obtain ⟨c, bs, st, rfl, _⟩ := h.h
    rfl
  · obtain ⟨c, bs, st, rfl, B, k⟩ := h.h
    obtain ⟨t, hc, n7⟩ := B.cab
    refine ⟨_, pss_cons (ps_expr (pe_call G1 (hr.mono (by decide)) rfl g1 k1 b1 .nil pass0 (pa_cons (pv 0) pa_nil))) (pss_cons (ps_expr (pe_call G2 (hr.mono (by decide)) rfl g2 k2 b2 .nil pass0 (pa_cons (pv 0) (pa_cons (pv 1) pa_nil))))
      (pss_one (ps_ret (pe_call G3 (hr.mono (by decide)) rfl g3 k3 b3 .nil pass0 (pa_cons (pv 0) (pa_cons (pv 1) pa_nil)))))), ?_⟩
    refine ⟨_, rfl, ⟨⟨c, _, t, rfl, hc, ?_⟩⟩⟩
    refine ⟨_, rfl, _, rfl, ⟨⟨c, st, t, rfl, hc, by omega, fun H1 s1 => ?_⟩⟩⟩
    refine ⟨_, rfl, _, rfl, ⟨⟨c, bs, st, rfl, B.same s1, fun p H2 hp s2 h2 => ?_⟩⟩⟩
    exact k p H2 (s1.free hp) (s1.trans s2) h2
theorem scBg : FnScope ["cabinet", "standing", "drawer"] ["cabinet", "standing", "drawer"] (defScope s_barring) := ⟨rfl, rfl, rfl, by decide +kernel, rfl, by decide +kernel, by decide +kernel⟩
theorem ok_barring {f f1 f2 f3 f4 C : Addr} {fd fd1 fd2 fd3 fd4 : FuncData} (F : Fun K "barring" "barring" s_barring f fd) (G1 : FnOk P w K mg base CX0 1 f1 fd1 ["cabinet"] (spCkCab C)) (g1 : mg "check_cabinet" = some (.ref f1)) (k1 : PySem.W.keepIn K (.ref f1) = true) (b1 : Binds K fd1 ["cabinet"] [])
    (G2 : FnOk P w K mg base CX0 3 f2 fd2 ["cabinet", "standing"] (spCkStd C)) (g2 : mg "check_standing" = some (.ref f2)) (k2 : PySem.W.keepIn K (.ref f2) = true) (b2 : Binds K fd2 ["cabinet", "standing"] [])
    (G3 : FnOk P w K mg base CX0 3 f3 fd3 ["cabinet", "drawer"] (spCkDrawer C)) (g3 : mg "check_drawer" = some (.ref f3)) (k3 : PySem.W.keepIn K (.ref f3) = true) (b3 : Binds K fd3 ["cabinet", "drawer"] [])
    (G4 : FnOk P w K mg base CX0 4 f4 fd4 ["cabinet", "standing", "drawer"] (spBarring C)) (g4 : mg "bars_against" = some (.ref f4)) (k4 : PySem.W.keepIn K (.ref f4) = true) (b4 : Binds K fd4 ["cabinet", "standing", "drawer"] []) : FnOk P w K mg base CX0 6 f fd ["cabinet", "standing", "drawer"] (spBarring C) := by
  refine F.ok scBg (fun vs H Q E h => ?_) (fun cdv A outer s H vs Q E hr h => ?_)
  · obtain ⟨c, t, ks, st, d, rfl, _⟩ := h.h
    rfl
  · obtain ⟨c, t, ks, st, d, rfl, hc, B, O, n7, n100, d0, d1, k⟩ := h.h
    refine ⟨_, pss_cons (ps_expr (pe_call G1 (hr.mono (by decide)) rfl g1 k1 b1 .nil pass0 (pa_cons (pv 0) pa_nil))) (pss_cons (ps_expr (pe_call G2 (hr.mono (by decide)) rfl g2 k2 b2 .nil pass0 (pa_cons (pv 0) (pa_cons (pv 1) pa_nil))))
      (pss_cons (ps_expr (pe_call G3 (hr.mono (by decide)) rfl g3 k3 b3 .nil pass0 (pa_cons (pv 0) (pa_cons (pv 2) pa_nil))))
      (pss_one (ps_ret (pe_call G4 (hr.mono (by decide)) rfl g4 k4 b4 .nil pass0 (pa_cons (pv 0) (pa_cons (pv 1) (pa_cons (pv 2) pa_nil)))))))), ?_⟩
    refine ⟨_, rfl, ⟨⟨c, _, t, rfl, hc, ?_⟩⟩⟩
    refine ⟨_, rfl, _, rfl, ⟨⟨c, st, t, rfl, hc, by omega, fun H1 s1 => ?_⟩⟩⟩
    obtain ⟨dx, hc0⟩ := hc
    refine ⟨_, rfl, _, rfl, ⟨⟨c, _, d, t, rfl, ⟨dx, s1 _ _ hc0⟩, d0, d1, ?_⟩⟩⟩
    refine ⟨_, rfl, _, rfl, _, rfl, ⟨⟨c, t, ks, st, d, rfl, ⟨dx, s1 _ _ hc0⟩, B.same s1, O, n7, n100, d0, d1, fun p H' hp s2 h2 => ?_⟩⟩⟩
    exact k p H' (s1.free hp) (s1.trans s2) h2
/-- Barred, an own error without its own making -/
structure BarT (K : PySem.W.Frag) (mg : Str → Option Value) (CB : Addr) : Prop where
  g : mg "Barred" = some (.ref CB)
  x : PySem.W.excIn K CB [.type "ValueError", .type "Exception", .type "BaseException", .type "object"] "ValueError.__new__" = true
  k : PySem.W.keepIn K (.ref CB) = true
  b : PySem.W.subIn K (.ref CB) (.type "BaseException") = some true
  t : PySem.W.typeIn K (.ref CB) = some (.type "type")
  e : PySem.W.exmOne K (.ref CB) (.ref CB) = some true
theorem scBh : FnScope ["cabinet", "standing", "drawer"] ["cabinet", "standing", "drawer"] (defScope s_behind) := ⟨rfl, rfl, rfl, by decide +kernel, rfl, by decide +kernel, by decide +kernel⟩
theorem ok_behind {f f1 f2 f3 f4 f5 C CB : Addr} {fd fd1 fd2 fd3 fd4 fd5 : FuncData} (F : Fun K "behind" "behind" s_behind f fd) (BT : BarT K mg CB) (G1 : FnOk P w K mg base CX0 1 f1 fd1 ["cabinet"] (spCkCab C)) (g1 : mg "check_cabinet" = some (.ref f1)) (k1 : PySem.W.keepIn K (.ref f1) = true) (b1 : Binds K fd1 ["cabinet"] [])
    (G2 : FnOk P w K mg base CX0 3 f2 fd2 ["cabinet", "standing"] (spCkStd C)) (g2 : mg "check_standing" = some (.ref f2)) (k2 : PySem.W.keepIn K (.ref f2) = true) (b2 : Binds K fd2 ["cabinet", "standing"] [])
    (G3 : FnOk P w K mg base CX0 3 f3 fd3 ["cabinet", "drawer"] (spCkDrawer C)) (g3 : mg "check_drawer" = some (.ref f3)) (k3 : PySem.W.keepIn K (.ref f3) = true) (b3 : Binds K fd3 ["cabinet", "drawer"] [])
    (G4 : FnOk P w K mg base CX0 6 f4 fd4 ["cabinet", "standing", "drawer"] (spGoes C)) (g4 : mg "goes" = some (.ref f4)) (k4 : PySem.W.keepIn K (.ref f4) = true) (b4 : Binds K fd4 ["cabinet", "standing", "drawer"] [])
    (G5 : FnOk P w K mg base CX0 1 f5 fd5 ["standing", "drawer"] spMoved) (g5 : mg "moved" = some (.ref f5)) (k5 : PySem.W.keepIn K (.ref f5) = true) (b5 : Binds K fd5 ["standing", "drawer"] []) : FnOk P w K mg base (L2.CX P w) 8 f fd ["cabinet", "standing", "drawer"] (spBehind C CB) := by
  refine F.okX scBh (fun vs H Q E h => ?_) (fun cdv A outer s H vs Q E hr h => ?_)
  · obtain ⟨c, bs, st, d, rfl, _⟩ := h.h
    rfl
  · obtain ⟨c, bs, st, d, rfl, B, d0, d1, kQ, kE⟩ := h.h
    obtain ⟨t, hc, n7⟩ := B.cab
    refine ⟨_, pss_cons (ps_expr (pe_call G1 (hr.mono (by decide)) rfl g1 k1 b1 .nil pass0 (pa_cons (pv 0) pa_nil))) (pss_cons (ps_expr (pe_call G2 (hr.mono (by decide)) rfl g2 k2 b2 .nil pass0 (pa_cons (pv 0) (pa_cons (pv 1) pa_nil))))
      (pss_cons (ps_expr (pe_call G3 (hr.mono (by decide)) rfl g3 k3 b3 .nil pass0 (pa_cons (pv 0) (pa_cons (pv 2) pa_nil))))
      (pss_cons (ps_if (pt_not (pt_val (pe_call G4 (hr.mono (by decide)) rfl g4 k4 b4 .nil pass0 (pa_cons (pv 0) (pa_cons (pv 1) (pa_cons (pv 2) pa_nil))))))
        (pss_one (ps_raise rfl (takes_of rfl rfl rfl rfl) (pmk_own PySem.F.excBase_ValueError BT.x BT.g BT.k (raises_own BT.b BT.t) (by exact rfl)))) pss_nil)
      (pss_one (ps_ret (pe_call G5 (hr.mono (by decide)) rfl g5 k5 b5 .nil pass0 (pa_cons (pv 1) (pa_cons (pv 2) pa_nil)))))))), ?_⟩
    refine ⟨_, rfl, ⟨⟨c, _, t, rfl, hc, ?_⟩⟩⟩
    refine ⟨_, rfl, _, rfl, ⟨⟨c, st, t, rfl, hc, by omega, fun H1 s1 => ?_⟩⟩⟩
    obtain ⟨dx, hc0⟩ := hc
    refine ⟨_, rfl, _, rfl, ⟨⟨c, _, d, t, rfl, ⟨dx, s1 _ _ hc0⟩, d0, d1, ?_⟩⟩⟩
    refine ⟨_, rfl, _, rfl, _, rfl, ⟨⟨c, bs, st, d, rfl, B.same s1, d0, d1, fun H2 s2 => ⟨_, rfl, ?_⟩⟩⟩⟩
    cases e : goesB bs st d with
    | false => exact iteT (kE e H2 (s1.trans s2))
    | true =>
      refine iteF ?_
      exact ⟨_, rfl, _, rfl, ⟨⟨st, d, rfl, by omega, d0, d1, fun H3 s3 => kQ e H3 ((s1.trans s2).trans s3)⟩⟩⟩
end
end DL

set_option Elab.async false
set_option maxRecDepth 100000
set_option maxHeartbeats 1000000
namespace DL
open PySem L2
/-! ### == of cabinets, by their own def -/
/-- x == y, x a plain instance, its def for == at g; what y is, is known -/
def rEqOwn (K : PySem.W.Frag) (C : Addr) (sp : Sp) (E : XK) : R2 := fun x y H Q => ∃ (a dx : Addr) (fs : List (Str × V)) (t : Value), x = .ref a ∧ H a = some (.ins C dx fs) ∧ TyX K H y t ∧ PySem.W.notFirst K C t = true ∧ sp [x, y] H Q E
theorem op_eqOwn {X : Cx} {CX : CXT} {C g : Addr} {fd : FuncData} {n : Nat} {ps : List Str} {sp : Sp} {E : XK} (hs : PySem.W.findIn X.K (.ref C) "__eq__" = some (some (.ref g))) (hf : PySem.W.isFn X.K (.ref g) = true)
    (F : FnOk X.prog X.w X.K X.mg X.base CX n g fd ps sp) (hb : Binds X.K fd ps []) (hr : Room n X.A) (hx : Passes CX X E) : OpR X (compareOp .Eq) (rEqOwn X.K C sp E) := by
  rintro pins s σ H _ y v u Q I rx ry ⟨a, dx, fs, t, rfl, ha, ty, hn, q⟩
  obtain rfl : v = Value.ref a := rx
  obtain ⟨_, O, _⟩ := ins_get I.hok ha
  obtain ⟨_, J, _⟩ := O.look
  obtain ⟨_, Z, p, _⟩ := kit_of I ry ty
  obtain ⟨_, hF⟩ := I.fr
  refine PySem.W.cmp_K (op := .Eq) hr.units0 hF I.ok.mod.kin J (Z.ty _ _ I.kIn p) hn hs hf ?_
  refine wpAny_mono (run_fn (Q := Q) (us := [.ref a, u]) (vs := [.ref a, y]) F hr hb .nil hx I (.cons rfl (.cons ry .nil)) (by simpa using q)) (fun c s' hh => ?_) fun _ _ x => x
  obtain ⟨z, H', I', rz, k⟩ := hh
  exact SlX.cmpback rz ⟨z, H', I', rz, k⟩
/-- the class's own == -/
structure spEqC (K : PySem.W.Frag) (C : Addr) (vs : List V) (H : Hp) (Q : VK) (_ : XK) : Prop where
  h : ∃ (a dx : Addr) (n : Int) (t : Addr) (y : V), vs = [.ref a, y] ∧ H a = some (.ins C dx (cfl n t)) ∧
    ((∃ u : Value, TyX K H y u ∧ PySem.W.kitOne K u (.ref C) = some false ∧ Q (.bl false) H) ∨
     (∃ (b dy : Addr) (m : Int) (r : Addr) (ks js : List (Addr × Bar)), y = .ref b ∧ H b = some (.ins C dy (cfl m r)) ∧ BarsAt H t ks ∧ BarsAt H r js ∧
       Q (.bl (decide (n = m) && PyData.eqv (.tuple (ks.map fun k => barD k.2)) (.tuple (js.map fun k => barD k.2)))) H))
section
variable {P : Program} {w : World} {K : PySem.W.Frag} {mg : Str → Option Value} {base : Heap}
theorem scEq : FnScope ["self", "other"] ["self", "other"] (defScope sEq) := ⟨rfl, rfl, rfl, by decide +kernel, rfl, by decide +kernel, by decide +kernel⟩
theorem ok_eqC {f C : Addr} {fd : FuncData} (F : Fun K "__eq__" "Cabinet.__eq__" sEq f fd) (T : Bt mg) (T2 : CabT K mg C) (I : CabI K mg C) : FnOk P w K mg base CX0 1 f fd ["self", "other"] (spEqC K C) := by
  refine F.ok scEq (fun vs H Q E h => ?_) (fun cdv A outer s H vs Q E hr h => ?_)
  · obtain ⟨a, dx, n, t, y, rfl, _⟩ := h.h
    rfl
  · obtain ⟨a, dx, n, t, y, rfl, ha, h⟩ := h.h
    have hu : _ + 64 < cLine := hr.units
    refine ⟨_, pss_one (ps_ret (pe_and (pe_callB call_isi (by rfl) T.isinstance (by decide +kernel) (pa_cons (pv 1) (pa_cons (pe_glob (v := .ref C) rfl I.mgC rfl) pa_nil)))
      (pe_and (pe_cmpR op_eq (pe_fld (pv 0) rfl) (pe_fld (pv 1) rfl) (nomark _)) (pe_one (pe_cmpR (op_eqD hu) (pe_fld (pv 0) rfl) (pe_fld (pv 1) rfl) (nomark _)))))), ?_⟩
    rcases h with ⟨u, ty, ku, k⟩ | ⟨b, dy, m, r, ks, js, rfl, hb, hB, hJ, k⟩
    · refine ⟨_, rfl, _, _, _, _, false, rfl, .own C, ty, ku, _, rfl, iteF k⟩
    · refine ⟨_, rfl, _, _, _, _, true, rfl, .own C, .base (.ins hb I.cl I.ha I.hn I.htk I.hm), I.kk, _, rfl, iteT ?_⟩
      refine ⟨_, rfl, a, C, dx, _, _, rfl, ha, I.cl, T2.nD, cfl_d n t, _, rfl, b, C, dy, _, _, rfl, hb, I.cl, T2.nD, cfl_d m r, rfl, _, rfl, ?_⟩
      have e : decide ((.int n : V) = .int m) = decide (n = m) := by rw [dec_int]; rfl
      rw [e]
      cases d : decide (n = m) with
      | false => rw [d] at k; exact iteF k
      | true =>
        rw [d] at k
        refine iteT ⟨_, rfl, a, C, dx, _, _, rfl, ha, I.cl, T2.nB, cfl_b n t, _, rfl, b, C, dy, _, _, rfl, hb, I.cl, T2.nB, cfl_b m r, ?_⟩
        exact ⟨_, _, .tup (SqT.of' hB.tu) (dpAll_bars hB.el), .tup (SqT.of' hJ.tu) (dpAll_bars hJ.el), dok_shaped (dok_tuple (dok_bars ks)) (by decide), dok_shaped (dok_tuple (dok_bars js)) (by decide), k⟩
end
end DL

set_option Elab.async false
set_option maxRecDepth 100000
namespace DL
open PySem L2
/-! ### what the top tells of own errors -/
/-- which clause takes an error of the class at S: the clause names the class at T -/
theorem exm_of {K : PySem.W.Frag} {S T : Addr} {r : Bool} (h1 : PySem.W.subIn K (.ref T) (.type "BaseException") = some true) (h2 : PySem.W.isClsIn K T = true) (h3 : PySem.W.typeIn K (.ref T) = some (.type "type")) (h4 : PySem.W.subIn K (.ref S) (.ref T) = some r) :
    PySem.W.exmOne K (.ref S) (.ref T) = some r := by
  have e1 : (PySem.W.subIn K (.ref T) (.type "BaseException") == some true) = true := by rw [h1] <;> rfl
  have e2 : ((PySem.W.clsIn K T).isSome && PySem.W.typeIn K (.ref T) == some (.type "type")) = true := by
    have h2' : (PySem.W.clsIn K T).isSome = true := h2
    rw [h2', h3] <;> rfl
  show (if (PySem.W.subIn K (.ref T) (.type "BaseException") == some true) = true then (if ((PySem.W.clsIn K T).isSome && PySem.W.typeIn K (.ref T) == some (.type "type")) = true then PySem.W.subIn K (.ref S) (.ref T) else none) else none) = some r
  rw [if_pos e1, if_pos e2]
  exact h4
theorem drop_self (C : Addr) (bm : List Value) : ((Value.ref C :: bm).dropWhile (· != Value.ref C)).drop 1 = bm := by
  have : (Value.ref C != Value.ref C) = false := by
    have e : (Value.ref C == Value.ref C) = true := by simp
    simp [bne, e]
  rw [List.dropWhile_cons, this]
  rfl
theorem mro_is {K : PySem.W.Frag} {nm q : Str} {C N : Addr} {bs bm : List Value} {hdct : Bool} {sn : List Str} {sub : List Value} {ab : Bool} {col : Option Bool} {dd : Option Addr} {k0 k1 k2 k3 k5 : Option Value} {x : Option (Option Value)}
    (h : K.lookup C = some (excClassObj nm q C N bs bm hdct sn sub ab col dd k0 k1 k2 k3 k5 "ValueError.__new__")) (al : PySem.W.alongIn K "__init__" bm = x) :
    ∃ cd, PySem.W.clsIn K C = some cd ∧ PySem.W.alongIn K "__init__" ((cd.mro.dropWhile (· != .ref C)).drop 1) = x := by
  refine ⟨_, by unfold PySem.W.clsIn; rw [h], ?_⟩
  exact (congrArg _ (drop_self C bm)).trans al
theorem bindsS {K : PySem.W.Frag} {fd : FuncData} {ps : List Str} (h : ∀ us : List Value, us.length = ps.length → bindArgs fd ⟨us, []⟩ = pure (ps.zip us)) : Binds K fd ps [] := .all h
end DL

set_option Elab.async false
set_option maxRecDepth 100000
set_option maxHeartbeats 1000000
namespace DL
open PySem PySem.Spec PyProof.Rows L2
/-! ### own errors with a field, each by its own __init__ -/
structure spIni (C : Addr) (fld : Str) (good : V → Prop) (vs : List V) (H : Hp) (Q : VK) (_ : XK) : Prop where
  h : ∃ (a : Addr) (x : V), vs = [.ref a, x] ∧ good x ∧ H a = some (exo a C none) ∧ ∀ dx, H dx = none → dx ≠ a → Q .non (upd (upd H dx (exd dx [(fld, x)])) a (exo a C (some dx)))
def goodI (x : V) : Prop := x = .non ∨ ∃ i : Int, x = .int i ∧ 0 ≤ i ∧ i ≤ 100
def goodA (_ : V) : Prop := True
/-- the class, its making -/
structure IniT (P : Program) (w : World) (K : PySem.W.Frag) (mg : Str → Option Value) (base : Heap) (nm fld : Str) (good : V → Prop) (CB : Addr) : Prop where
  T : OexC K CB
  g : mg nm = some (.ref CB)
  i : ∃ fI fd, PySem.W.findIn K (.ref CB) "__init__" = some (some (.ref fI)) ∧ PySem.W.typeIn K (.ref fI) = some (.type "function") ∧ FnOk P w K mg base CX0 1 fI fd ["self", fld] (spIni CB fld good) ∧ Binds K fd ["self", fld] []
def exIni (CB : Addr) (fld : Str) (x : V) (H : Hp) (E : XK) : Prop := ∀ (d : Addr) (H' : Hp), H d = none → Same H H' → H' d = some (.xd [(fld, x)]) → E (.ref CB) (some d) H'
theorem ini_mk {CB a : Addr} {fld : Str} {good : V → Prop} {x : V} {H1 : Hp} {E : XK} {E2 : XK} (ha : H1 a = none) (hx : good x) (k : exIni CB fld x H1 E) :
    spIni CB fld good [.ref a, x] (upd H1 a (exo a CB none)) (fun v H2 => v = .non ∧ ∃ (d : Addr) (fs : List (Str × V)), H2 a = some (exo a CB (some d)) ∧ H2 d = some (exd d fs) ∧ H1 d = none ∧ E (.ref CB) (some d) (upd (del H2 a) d (.xd fs))) E2 := by
  refine ⟨⟨a, x, rfl, hx, upd_same, fun dx hdx hda => ?_⟩⟩
  have hd1 : H1 dx = none := by rw [upd_ne hda] at hdx; exact hdx
  refine ⟨rfl, dx, _, upd_same, by rw [upd_ne hda, upd_same], hd1, ?_⟩
  refine k dx _ hd1 (fun b o e => ?_) upd_same
  have hba : b ≠ a := ne_of_none e ha
  have hbd : b ≠ dx := ne_of_none e hd1
  rw [upd_ne hbd, del_ne hba, upd_ne hba, upd_ne hbd, upd_ne hba]
  exact e
theorem msg_len (m : Str) (hm : m.length ≤ 100) {i : Int} (h0 : 0 ≤ i) (h1 : i ≤ 100) : ((Str.empty ++ m) ++ (toString i : Str)).length ≤ sizeLine := by
  have app : ∀ a b : Str, (a ++ b).length = a.length + b.length := fun a b => by
    show (a ++ b).cps.size = a.cps.size + b.cps.size
    rw [← Array.length_toList, ← Array.length_toList, ← Array.length_toList]
    exact (congrArg List.length (TL.tl_append a b)).trans (List.length_append ..)
  have z : ∀ n : Fin 101, ((toString ((n.val : Nat) : Int) : Str)).length ≤ 3 := by decide +kernel
  have := z ⟨i.toNat, by omega⟩
  rw [show ((i.toNat : Nat) : Int) = i by omega] at this
  have e0 : (Str.empty).length = 0 := by decide +kernel
  rw [app, app, e0]
  have : (103 : Nat) < sizeLine := by decide
  omega
section
variable {P : Program} {w : World} {K : PySem.W.Frag} {mg : Str → Option Value} {base : Heap}
theorem scBadPairs : SupScope ["self", "index"] ["self", "index"] (defScope s_BadPairs__init_) := ⟨rfl, rfl, rfl, by decide +kernel, rfl, by decide +kernel, by decide +kernel, by decide +kernel⟩
theorem ok_BadPairsInit {f C cc cda : Addr} {fd : FuncData} (F : FunS K "__init__" "BadPairs.__init__" s_BadPairs__init_ f cda cc fd) (S : SupK K P f C cc cda fd "self") (hm : mg "super" = none) (hi : PySem.W.findIn K (.ref C) "index" = some none) : FnOk P w K mg base CX0 1 f fd ["self", "index"] (spIni C "index" goodI) := by
  obtain ⟨oc, od, an, kV, doc, pm, ct, osl, rfl, lk, hcd⟩ := F.ex
  obtain ⟨cl, cld, csl, hcell⟩ := S.cell
  refine fn_ofS lk hcd hcell scBadPairs (fun vs H Q E h => ?_) (fun A outer s s1 H vs Q E hsp I => ?_)
  · obtain ⟨a, x, rfl, _⟩ := h.h
    rfl
  · obtain ⟨a, x, rfl, hx, hea, q⟩ := hsp.h
    have rest : PSs (cxS CX0 P w K mg base ["self", "index"] "BadPairs.__init__" (defScope s_BadPairs__init_) f (.ref cda) cc A outer s H E) ((defBody s_BadPairs__init_).drop 1) _ := pss_one (ps_ost (pv 0) (pv 1))
    refine PySem.ks_wpAt_execs_cons (PySem.ks_wpAt_mono (sup_run (D := { nx := fun σ' H' => σ' = L2.start ["self", "index"] [.ref a, x] ∧ H' = H, rt := fun _ _ => False }) S rfl rfl rfl rfl rfl rfl rfl hm
      (pa_cons (pe_joined (.cons pe_str (.cons (pe_fmtN (pv 1)) .nil))) pa_nil) I rfl hea ?_) (fun fl s' hs => ?_) fun _ _ z => z)
    · refine ⟨_, rfl, by decide +kernel, _, rfl, ?_⟩
      rcases hx with rfl | ⟨i, rfl, i0, i1⟩
      · exact .inl ⟨rfl, _, rfl, by decide +kernel, by show 1 ≤ 1000; decide, hea, rfl, rfl⟩
      · exact .inr ⟨i, rfl, small_log i0 (by omega), _, rfl, msg_len _ (by decide +kernel) i0 i1, by show 1 ≤ 1000; decide, hea, rfl, rfl⟩
    · cases fl with
      | next =>
        obtain ⟨σ', H', J, rfl, rfl⟩ := hs
        exact PySem.wpAt_of_wpAny (rest.run [] s' _ _ _ J ⟨_, rfl, _, rfl, a, C, rfl, S.T, hi, .inl ⟨hea, fun dx hdx hda => q dx hdx hda⟩⟩)
      | ret u =>
        obtain ⟨_, _, _, _, _, z⟩ := hs
        exact False.elim z
      | brk =>
        obtain ⟨_, _, _, z⟩ := hs
        exact False.elim z
      | cont =>
        obtain ⟨_, _, _, z⟩ := hs
        exact False.elim z
theorem scTooMany : SupScope ["self", "most"] ["self", "most"] (defScope s_TooMany__init_) := ⟨rfl, rfl, rfl, by decide +kernel, rfl, by decide +kernel, by decide +kernel, by decide +kernel⟩
theorem ok_TooManyInit {f C cc cda : Addr} {fd : FuncData} (F : FunS K "__init__" "TooMany.__init__" s_TooMany__init_ f cda cc fd) (S : SupK K P f C cc cda fd "self") (hm : mg "super" = none) (hi : PySem.W.findIn K (.ref C) "most" = some none) : FnOk P w K mg base CX0 1 f fd ["self", "most"] (spIni C "most" goodI) := by
  obtain ⟨oc, od, an, kV, doc, pm, ct, osl, rfl, lk, hcd⟩ := F.ex
  obtain ⟨cl, cld, csl, hcell⟩ := S.cell
  refine fn_ofS lk hcd hcell scTooMany (fun vs H Q E h => ?_) (fun A outer s s1 H vs Q E hsp I => ?_)
  · obtain ⟨a, x, rfl, _⟩ := h.h
    rfl
  · obtain ⟨a, x, rfl, hx, hea, q⟩ := hsp.h
    have rest : PSs (cxS CX0 P w K mg base ["self", "most"] "TooMany.__init__" (defScope s_TooMany__init_) f (.ref cda) cc A outer s H E) ((defBody s_TooMany__init_).drop 1) _ := pss_one (ps_ost (pv 0) (pv 1))
    refine PySem.ks_wpAt_execs_cons (PySem.ks_wpAt_mono (sup_run (D := { nx := fun σ' H' => σ' = L2.start ["self", "most"] [.ref a, x] ∧ H' = H, rt := fun _ _ => False }) S rfl rfl rfl rfl rfl rfl rfl hm
      (pa_cons (pe_joined (.cons pe_str (.cons (pe_fmtN (pv 1)) .nil))) pa_nil) I rfl hea ?_) (fun fl s' hs => ?_) fun _ _ z => z)
    · refine ⟨_, rfl, by decide +kernel, _, rfl, ?_⟩
      rcases hx with rfl | ⟨i, rfl, i0, i1⟩
      · exact .inl ⟨rfl, _, rfl, by decide +kernel, by show 1 ≤ 1000; decide, hea, rfl, rfl⟩
      · exact .inr ⟨i, rfl, small_log i0 (by omega), _, rfl, msg_len _ (by decide +kernel) i0 i1, by show 1 ≤ 1000; decide, hea, rfl, rfl⟩
    · cases fl with
      | next =>
        obtain ⟨σ', H', J, rfl, rfl⟩ := hs
        exact PySem.wpAt_of_wpAny (rest.run [] s' _ _ _ J ⟨_, rfl, _, rfl, a, C, rfl, S.T, hi, .inl ⟨hea, fun dx hdx hda => q dx hdx hda⟩⟩)
      | ret u =>
        obtain ⟨_, _, _, _, _, z⟩ := hs
        exact False.elim z
      | brk =>
        obtain ⟨_, _, _, z⟩ := hs
        exact False.elim z
      | cont =>
        obtain ⟨_, _, _, z⟩ := hs
        exact False.elim z
theorem scBadNumber : SupScope ["self", "n"] ["self", "n"] (defScope s_BadNumber__init_) := ⟨rfl, rfl, rfl, by decide +kernel, rfl, by decide +kernel, by decide +kernel, by decide +kernel⟩
theorem ok_BadNumberInit {f C cc cda : Addr} {fd : FuncData} (F : FunS K "__init__" "BadNumber.__init__" s_BadNumber__init_ f cda cc fd) (S : SupK K P f C cc cda fd "self") (hm : mg "super" = none) (hi : PySem.W.findIn K (.ref C) "n" = some none) : FnOk P w K mg base CX0 1 f fd ["self", "n"] (spIni C "n" goodA) := by
  obtain ⟨oc, od, an, kV, doc, pm, ct, osl, rfl, lk, hcd⟩ := F.ex
  obtain ⟨cl, cld, csl, hcell⟩ := S.cell
  refine fn_ofS lk hcd hcell scBadNumber (fun vs H Q E h => ?_) (fun A outer s s1 H vs Q E hsp I => ?_)
  · obtain ⟨a, x, rfl, _⟩ := h.h
    rfl
  · obtain ⟨a, x, rfl, hx, hea, q⟩ := hsp.h
    have rest : PSs (cxS CX0 P w K mg base ["self", "n"] "BadNumber.__init__" (defScope s_BadNumber__init_) f (.ref cda) cc A outer s H E) ((defBody s_BadNumber__init_).drop 1) _ := pss_one (ps_ost (pv 0) (pv 1))
    refine PySem.ks_wpAt_execs_cons (PySem.ks_wpAt_mono (sup_run (D := { nx := fun σ' H' => σ' = L2.start ["self", "n"] [.ref a, x] ∧ H' = H, rt := fun _ _ => False }) S rfl rfl rfl rfl rfl rfl rfl hm
      (pa_cons pe_str pa_nil) I rfl hea ?_) (fun fl s' hs => ?_) fun _ _ z => z)
    · exact ⟨by show 1 ≤ 1000; decide, hea, rfl, rfl⟩
    · cases fl with
      | next =>
        obtain ⟨σ', H', J, rfl, rfl⟩ := hs
        exact PySem.wpAt_of_wpAny (rest.run [] s' _ _ _ J ⟨_, rfl, _, rfl, a, C, rfl, S.T, hi, .inl ⟨hea, fun dx hdx hda => q dx hdx hda⟩⟩)
      | ret u =>
        obtain ⟨_, _, _, _, _, z⟩ := hs
        exact False.elim z
      | brk =>
        obtain ⟨_, _, _, z⟩ := hs
        exact False.elim z
      | cont =>
        obtain ⟨_, _, _, z⟩ := hs
        exact False.elim z
end
end DL

set_option Elab.async false
set_option maxRecDepth 100000
namespace DL
open PySem PySem.Spec PyProof.Rows L2
/-! ### text * number -/
theorem op_mul_str {X : Cx} : OpR X (binaryOp .Mult) (fun x y H Q => ∃ (z : Str) (n : Int), x = .str z ∧ y = .int n ∧ MulOk z n ∧ Q (.str (Txt.mul z n)) H) := by
  intro pins s σ H x y v u Q I rx ry h
  obtain ⟨z, n, rfl, rfl, ok, q⟩ := h
  obtain ⟨t, rfl⟩ := rx
  obtain ⟨t', rfl⟩ := ry
  exact SB.mul ok fun t2 k => ⟨.str _, H, I.tok k, ⟨_, rfl⟩, q⟩
theorem mulOk_one {z : Str} {n : Int} (hz : z.length = 1) (h1 : 1 ≤ n) (h7 : n ≤ 7) : MulOk z n := by
  refine ⟨?_, fun _ _ => ?_, fun _ _ => ?_⟩
  · rw [decide_eq_false (by omega), decide_eq_false (by omega)]; rfl
  · rw [hz]
    have : n = 1 ∨ n = 2 ∨ n = 3 ∨ n = 4 ∨ n = 5 ∨ n = 6 ∨ n = 7 := by omega
    rcases this with rfl | rfl | rfl | rfl | rfl | rfl | rfl <;> decide
  · rw [hz]
    have : n = 1 ∨ n = 2 ∨ n = 3 ∨ n = 4 ∨ n = 5 ∨ n = 6 ∨ n = 7 := by omega
    rcases this with rfl | rfl | rfl | rfl | rfl | rfl | rfl <;> decide +kernel
/-! ### for a, b in zip(x, y), two texts -/
def ItzS (x y : Str) : It :=
  ⟨fun i _ => i < x.cps.size ∧ i < y.cps.size, fun i H v H' => ∃ T c d, v = .ref T ∧ H T = none ∧ H' = upd H T (.tup [.str ⟨#[c]⟩, .str ⟨#[d]⟩]) ∧ x.cps[i]? = some c ∧ y.cps[i]? = some d,
    fun i _ => i ≤ x.cps.size ∧ i ≤ y.cps.size ∧ (i = x.cps.size ∨ i = y.cps.size)⟩
theorem turn_zipS {P : Program} {w : World} {K : PySem.W.Frag} {elts : List Expr} {kk : Nat} {tpos : Pos} {x y : Str} {tx ty : Tok} {z TI TO i1 i2 : Addr} (S : ZipSep2 z TI TO i1 i2 [i1] [i2]) :
    Turn P w K (.Tuple elts kk tpos) (ItzS x y) [z, TI, TO, i1, i2] z (fun i h => IsZip h z TI TO .none ∧ IsTupOf2 h TI (.ref i1) (.ref i2) ∧ (∃ a b, IsTupOf2 h TO a b) ∧ h.IsStrIter i1 (strIterType x) x tx i ∧ h.IsStrIter i2 (strIterType y) y ty i) where
  mem := by simp
  obj := fun i h st c hc => by
    obtain ⟨hz, hTI, ⟨a, b, hTO⟩, ⟨o1, e1, _, d1⟩, ⟨o2, e2, _, d2⟩⟩ := st
    have e' : c = z ∨ c = TI ∨ c = TO ∨ c = i1 ∨ c = i2 := by simpa using hc
    rcases e' with q | q | q | q | q
    · rw [q]; exact ⟨_, hz, fun v q => nomatch q⟩
    · rw [q]; exact ⟨_, hTI, fun v q => nomatch q⟩
    · rw [q]; exact ⟨_, hTO, fun v q => nomatch q⟩
    · rw [q]; exact ⟨o1, e1, fun v q => by rw [d1] at q; cases q⟩
    · rw [q]; exact ⟨o2, e2, fun v q => by rw [d2] at q; cases q⟩
  keep := fun i h h' st k => by
    obtain ⟨hz, hTI, ⟨a, b, hTO⟩, ⟨o1, e1, r1⟩, ⟨o2, e2, r2⟩⟩ := st
    exact ⟨k z (by simp) _ hz, k TI (by simp) _ hTI, ⟨a, b, k TO (by simp) _ hTO⟩, ⟨o1, k i1 (by simp) _ e1, r1⟩, ⟨o2, k i2 (by simp) _ e2, r2⟩⟩
  item := by
    intro X hP hw hK hc i pins s σ H E I hf st hg
    subst hP hw hK
    obtain ⟨hz, hTI, ⟨a0, b0, hTO⟩, h1, h2⟩ := st
    have hzl : z < s.heap.objs.size := Heap.lt_size hz
    have D1 := Draws.text (prog := X.prog) (w := X.w) (A := X.A.in1) (I.ok.hd hc) i1 x tx
    have D2 := Draws.text (prog := X.prog) (w := X.w) (A := X.A.in1) (I.ok.hd hc) i2 y ty
    refine wpAny_pyNext_zipD2_item S D1 D2 hz hTI hTO h1 h2 hg.1 hg.2 fun x1 x2 h' tk p1 p2 z' TO' h1' h2' hT hsz hk => ?_
    obtain ⟨c, t1, hc1, rfl⟩ := p1
    obtain ⟨d, t2, hd1, rfl⟩ := p2
    refine ⟨_, rfl, wpAny_letOwnedTupleGo_zip (s := { s with heap := h', toks := tk }) z' fun h'' z'' sb => ?_⟩
    have hT2 : h''.get? s.heap.objs.size = some { cls := .type "tuple", data := .seq #[.str ⟨#[c]⟩ t1, .str ⟨#[d]⟩ t2] } := (sb.2 _ (Nat.ne_of_gt hzl)).trans hT
    have new : ObjOk X.prog X.w (upd H s.heap.objs.size (.tup [.str ⟨#[c]⟩, .str ⟨#[d]⟩])) h'' s.heap.objs.size (.tup [.str ⟨#[c]⟩, .str ⟨#[d]⟩]) :=
      ⟨by show 2 ≤ sizeLine; decide, [.str ⟨#[c]⟩ t1, .str ⟨#[d]⟩ t2], .cons ⟨_, rfl⟩ (.cons ⟨_, rfl⟩ .nil), ⟨_, hT2, rfl, _, rfl⟩⟩
    have I1 : Inv X pins σ (upd H s.heap.objs.size (.tup [.str ⟨#[c]⟩, .str ⟨#[d]⟩])) { s with heap := h'', toks := tk } :=
      I.turnedNew (t' := tk) (ch := [z, TI, TO, i1, i2]) (fun c o hb q => (sb.2 c (fun q' => hb (by simp [q']))).trans (hk c o (fun q' => hb (by simp [q'])) (fun q' => hb (by simp [q'])) (fun q' => hb (by simp [q'])) (fun q' => hb (by simp [q'])) q)) hf (Nat.le_refl _) new
    have sep : ∀ b, b ≠ z → ∀ o, h'.get? b = some o → h''.get? b = some o := fun b hb o q => (sb.2 b hb).trans q
    refine ⟨.ref s.heap.objs.size, _, I1, rfl, ⟨_, c, d, rfl, I.hok.fresh (Nat.le_refl _), rfl, hc1, hd1⟩, ⟨z'', ?_, ⟨.str ⟨#[c]⟩ t1, .str ⟨#[d]⟩ t2, ?_⟩, ?_, ?_⟩, fun b hcm => ?_⟩
    · exact sep _ S.TIz _ (hk _ _ S.TIz S.TITO S.TIi1 S.TIi2 hTI)
    · exact sep _ S.TOz _ TO'
    · obtain ⟨o, q, r⟩ := h1'
      exact ⟨o, sep _ S.zi1.symm _ q, r⟩
    · obtain ⟨o, q, r⟩ := h2'
      exact ⟨o, sep _ S.zi2.symm _ q, r⟩
    · have hlt : b < s.heap.objs.size := by
        have e' : b = z ∨ b = TI ∨ b = TO ∨ b = i1 ∨ b = i2 := by simpa using hcm
        rcases e' with q | q | q | q | q
        · rw [q]; exact hzl
        · rw [q]; exact Heap.lt_size hTI
        · rw [q]; exact Heap.lt_size hTO
        · rw [q]; obtain ⟨_, e1, _⟩ := h1; exact Heap.lt_size e1
        · rw [q]; obtain ⟨_, e2, _⟩ := h2; exact Heap.lt_size e2
      rw [upd_ne (Nat.ne_of_lt hlt)]
      exact (hf b hcm).1
  done := by
    intro X hP hw hK hc i pins s σ H E I hf st hg
    subst hP hw hK
    obtain ⟨hz, hTI, ⟨a0, b0, hTO⟩, h1, h2⟩ := st
    have D1 := Draws.text (prog := X.prog) (w := X.w) (A := X.A.in1) (I.ok.hd hc) i1 x tx
    have D2 := Draws.text (prog := X.prog) (w := X.w) (A := X.A.in1) (I.ok.hd hc) i2 y ty
    exact wpAny_pyNext_zipD2_end S D1 D2 hz hTI hTO h1 h2 hg.1 hg.2.1 hg.2.2 fun h' tk hk => ⟨rfl, I.turnedL (t' := tk) (ch := [z, TI, TO, i1, i2]) (fun c o hb q =>
      hk c o (fun q' => hb (by simp [q'])) (fun q' => hb (by simp [q'])) (fun q' => hb (by simp [q'])) (fun q' => hb (by simp [q'])) q) hf⟩
  self := fun A i s Q E st h => wpAny_pyIter_zip st.1 h
def iZipS (ta : TA) : TI := fun σ H R => ta σ H fun vs H1 => ∃ x y, vs = [.str x, .str y] ∧ R (ItzS x y) H1
theorem pi_zipS {X : Cx} {e e2 : Expr} {ta : TA} {p pos tpos : Pos} {elts : List Expr} {kk : Nat} (hg : Gl X "zip") (hm : X.mg "zip" = none) (ha : PA X [e, e2] ta)
    (hs : starEach [e, e2] X.env = (false, eval e X.env) :: starEach [e2] X.env := by rfl) (hpl : (backTo pos (starEach [e2] X.env)).any (·.1) = false := by rfl) :
    PI X (.Tuple elts kk tpos) (.Call (.Name "zip" p) [e, e2] [] pos) (iZipS ta) := by
  refine ⟨fun pins s σ H R I h => ?_⟩
  refine Call_ (ld_blt I hg hm PyProof.Rows.boot_zip (PyProof.Rows.callWith_type1 (thn (ha.run pos pins s σ H _ I h) fun us s1 ⟨vs, H1, I1, r1, q1⟩ => ?_) hs hpl))
  obtain ⟨x, y, ex, q⟩ := q1
  subst ex
  cases r1 with
  | cons r rr =>
    cases rr with
    | cons r' rr =>
      cases rr
      obtain ⟨t1, rfl⟩ := r
      obtain ⟨t2, rfl⟩ := r'
      refine zip_begins2 (begins_text x t1) (begins_text y t2) trivial trivial fun h' hz hTI hTO h1 h2 hsz hk => wpAny_pyIter_zip hz ?_
      have I2 : Inv X pins σ H1 { s1 with heap := h' } := I1.kept (t' := s1.toks) hk
      have sep : ZipSep2 (s1.heap.objs.size + 4) (s1.heap.objs.size + 2) (s1.heap.objs.size + 3) s1.heap.objs.size (s1.heap.objs.size + 1) [s1.heap.objs.size] [s1.heap.objs.size + 1] := zip_sep2 (fp1 := []) (fp2 := []) (fun b hb => by simp at hb) fun b hb => by simp at hb
      refine ⟨s1.heap.objs.size + 4, [s1.heap.objs.size + 4, s1.heap.objs.size + 2, s1.heap.objs.size + 3, s1.heap.objs.size, s1.heap.objs.size + 1], _, _, H1, rfl, I2, turn_zipS sep, ⟨hz, hTI, ⟨_, _, hTO⟩, ⟨_, h1, rfl, rfl⟩, ⟨_, h2, rfl, rfl⟩⟩, fun c hcm => ?_, q⟩
      have e' : c = s1.heap.objs.size + 4 ∨ c = s1.heap.objs.size + 2 ∨ c = s1.heap.objs.size + 3 ∨ c = s1.heap.objs.size ∨ c = s1.heap.objs.size + 1 := by simpa using hcm
      have hle : s1.heap.objs.size ≤ c := by
        rcases e' with z | z | z | z | z
        · rw [z]; exact Nat.le_add_right _ _
        · rw [z]; exact Nat.le_add_right _ _
        · rw [z]; exact Nat.le_add_right _ _
        · rw [z]; exact Nat.le_refl _
        · rw [z]; exact Nat.le_add_right _ _
      exact I1.fpOk hle (I1.hok.fresh hle)
theorem walk_zipS {x y : Str} (hl : x.cps.size = y.cps.size) : Walk (ItzS x y) x.cps.size (fun _ => True) (fun i H v H' => ∃ T c d, v = .ref T ∧ H T = none ∧ H' = upd H T (.tup [.str ⟨#[c]⟩, .str ⟨#[d]⟩]) ∧ x.cps[i]? = some c ∧ y.cps[i]? = some d) :=
  ⟨fun i _ hi _ => ⟨hi, by omega⟩, fun _ _ => ⟨Nat.le_refl _, by omega, .inl rfl⟩, fun _ _ _ _ _ _ y => y⟩
end DL

set_option Elab.async false
set_option maxRecDepth 100000
namespace DL
open PySem L2 HT TL
/-! ### patterns and rows -/
theorem pg_tupK {X : Cx} {K : PySem.W.Frag} {pos : Pos} {es : List Expr} {k : Nat} {t : TGs} {n : Nat} (hK : X.K = K) (hc : X.calm = true) (h : PGs X es t) (h1 : (assignEach es X.env).length = n := by rfl) (h2 : List.findIdx? (fun x => x.1) (assignEach es X.env) = none := by rfl) :
    PG X (.Tuple es k pos) (gTup K n t) := by subst hK; exact pg_tup hc h h1 h2
theorem SqT.same {K : PySem.W.Frag} {H H' : Hp} {a : Addr} {xs : List V} (s : Same H H') (h : SqT K H a xs) : SqT K H' a xs := by
  rcases h with (h | ⟨o, h⟩) | h
  · exact .inl (.inl (s _ _ h))
  · exact .inl (.inr ⟨o, s _ _ h⟩)
  · exact .inr h
def pstr (cs : List Nat) : Str := ⟨cs.toArray⟩
theorem pstr_tl (cs : List Nat) : (pstr cs).cps.toList = cs := rfl
theorem pstr_len (cs : List Nat) : (pstr cs).length = cs.length := by
  show (pstr cs).cps.size = cs.length
  rw [← Array.length_toList, pstr_tl]
def PatOk (cs : List Nat) : Prop := ∀ c ∈ cs, c ∈ ("os?" : Str).cps.toList
def fitAt (st : List Bool) (cs : List Nat) (i : Nat) : Bool := decide (cs.getD i 0 = 63) || decide (cs.getD i 0 = sg (st.getD i false))
def fitB (st : List Bool) (cs : List Nat) : Bool := ((List.range st.length).map (fitAt st cs)).all id
theorem str1 {c d : Nat} : ((⟨#[c]⟩ : Str) == ⟨#[d]⟩) = decide (d = c) := by
  rw [beq_dec]
  refine decide_eq_decide.mpr ⟨fun h => ?_, fun h => by rw [h]⟩
  injection h with h
  injection h with h
  injection h with h
  exact h.symm
theorem in_two (c d : Nat) : inV (.str ⟨#[d]⟩) [.str "?", .str ⟨#[c]⟩] = (decide (d = 63) || decide (d = c)) := by
  have e : ("?" : Str) = ⟨#[63]⟩ := by decide +kernel
  rw [e]
  show ((⟨#[63]⟩ : Str) == ⟨#[d]⟩ || ((⟨#[c]⟩ : Str) == ⟨#[d]⟩ || false)) = _
  rw [str1, str1, Bool.or_false]
def pullV (bs : List Bar) (st : List Bool) (d : Int) : V := if goesB bs st d = true then .str (sstr (flip st d)) else .non
def runB (bs : List Bar) (st : List Bool) : List Int → Option (List Bool)
  | [] => some st
  | d :: ds => if goesB bs st d = true then runB bs (flip st d) ds else none
theorem runB_cons (bs : List Bar) (st : List Bool) (d : Int) (ds : List Int) : runB bs st (d :: ds) = if goesB bs st d = true then runB bs (flip st d) ds else none := rfl
theorem putK_le {κ : Type} [DecidableEq κ] (c : List (κ × V)) (k : κ) (x : V) : (putK c k x).length ≤ c.length + 1 := by
  unfold putK
  by_cases q : (c.any fun kv => decide (kv.1 = k)) = true
  · rw [if_pos q, List.length_map]; omega
  · rw [if_neg q, List.length_append]; exact Nat.le_refl _
theorem runB_len {bs : List Bar} : ∀ {ds : List Int} {st e : List Bool}, runB bs st ds = some e → e.length = st.length
  | [], st, e, h => by injection h with h; rw [h]
  | d :: ds, st, e, h => by
    unfold runB at h
    by_cases q : goesB bs st d = true
    · rw [if_pos q] at h
      rw [runB_len h, flip_len]
    · rw [if_neg q] at h
      cases h
def endV : Option (List Bool) → V
  | some e => .str (sstr e)
  | none => .non
def shutS (n : Nat) : List Bool := List.replicate n false
def isRowB (n : Nat) (bs : List Bar) (cs : List Nat) (ds : List Int) : Bool := match runB bs (shutS n) ds with
  | some e => fitB e cs
  | none => false
def intOf : V → Int
  | .int i => i
  | _ => 0
theorem ints_of {n : Int} : ∀ {xs : List V}, xs.all (isD n) = true → xs = (xs.map intOf).map V.int ∧ ∀ d ∈ xs.map intOf, 0 ≤ d ∧ d < n
  | [], _ => ⟨rfl, fun d hd => by simp at hd⟩
  | x :: xs, h => by
    rw [List.all_cons, Bool.and_eq_true] at h
    obtain ⟨h1, h2⟩ := ints_of h.2
    cases x with
    | int i =>
      have hi : (decide (0 ≤ i) && decide (i < n)) = true := h.1
      rw [Bool.and_eq_true] at hi
      refine ⟨?_, fun d hd => ?_⟩
      · show V.int i :: xs = V.int i :: (xs.map intOf).map V.int
        rw [← h1]
      · rcases List.mem_cons.mp hd with rfl | hd
        · exact ⟨of_decide_eq_true hi.1, of_decide_eq_true hi.2⟩
        · exact h2 d hd
    | _ => exact absurd h.1 (by intro z; cases z)
def rowB (n : Nat) (bs : List Bar) (cs : List Nat) (xs : List V) : Bool := xs.all (isD n) && isRowB n bs cs (xs.map intOf)
structure spFits (vs : List V) (H : Hp) (Q : VK) (_ : XK) : Prop where
  h : ∃ (st : List Bool) (cs : List Nat), vs = [.str (sstr st), .str (pstr cs)] ∧ st.length = cs.length ∧ st.length ≤ 7 ∧ ∀ H', Same H H' → Q (.bl (fitB st cs)) H'
structure spFirst (vs : List V) (H : Hp) (Q : VK) (_ : XK) : Prop where
  h : ∃ n : Nat, vs = [.int n] ∧ 1 ≤ n ∧ n ≤ 7 ∧ Q (.str (sstr (shutS n))) H
structure spIsPat (vs : List V) (H : Hp) (Q : VK) (_ : XK) : Prop where
  h : ∃ cs : List Nat, vs = [.int cs.length, .str (pstr cs)] ∧ cs.length ≤ 7 ∧ PatOk cs ∧ ∀ H', Same H H' → Q (.bl true) H'
structure spCkPat (C : Addr) (vs : List V) (H : Hp) (Q : VK) (_ : XK) : Prop where
  h : ∃ (c : Addr) (cs : List Nat) (t : Addr), vs = [.ref c, .str (pstr cs)] ∧ CabAt C H c cs.length t ∧ cs.length ≤ 7 ∧ PatOk cs ∧ ∀ H', Same H H' → Q .non H'
structure spEnd (K : PySem.W.Frag) (C : Addr) (vs : List V) (H : Hp) (Q : VK) (_ : XK) : Prop where
  h : ∃ (c t : Addr) (bs : List Bar) (st : List Bool) (ds : List Int), vs = [.ref c, .str (sstr st), .ref t] ∧ CabOk C H c st.length bs ∧ SqT K H t (ds.map V.int) ∧ (∀ d ∈ ds, 0 ≤ d ∧ d < st.length) ∧ ds.length ≤ 100 ∧
    ∀ H', Same H H' → Q (endV (runB bs st ds)) H'
structure spRight (K : PySem.W.Frag) (C : Addr) (vs : List V) (H : Hp) (Q : VK) (_ : XK) : Prop where
  h : ∃ (c : Addr) (bs : List Bar) (cs : List Nat) (v : V), vs = [.ref c, .str (pstr cs), v] ∧ CabOk C H c cs.length bs ∧ PatOk cs ∧
    ((∃ t, (∀ H', Same H H' → TyX K H' v t) ∧ PySem.W.kitOne K t (.type "tuple") = some false ∧ ∀ H', Same H H' → Q (.bl false) H') ∨
    ∃ (a : Addr) (xs : List V), v = .ref a ∧ SqT K H a xs ∧ xs.length ≤ 100 ∧ (∀ x ∈ xs, scV x = true) ∧ ∀ H', Same H H' → Q (.bl (rowB cs.length bs cs xs)) H')
theorem all_ids (l : List Bool) : (l.map V.bl).length = l.length := by rw [List.length_map]
theorem key_inj {st st' : List Bool} {d d' : Int} (h : ([.inr (sstr st), .inl d] : List Key) = [.inr (sstr st'), .inl d']) : st = st' ∧ d = d' := by
  injection h with h1 h
  injection h with h2 _
  injection h1 with h1
  injection h2 with h2
  exact ⟨sstr_inj h1, h2⟩
theorem mul_shut {n : Nat} (h1 : 1 ≤ n) (h7 : n ≤ 7) : Txt.mul "s" (n : Int) = sstr (shutS n) := by
  have : n = 1 ∨ n = 2 ∨ n = 3 ∨ n = 4 ∨ n = 5 ∨ n = 6 ∨ n = 7 := by omega
  rcases this with rfl | rfl | rfl | rfl | rfl | rfl | rfl <;> decide +kernel
section
variable {P : Program} {w : World} {K : PySem.W.Frag} {mg : Str → Option Value} {base : Heap}
theorem scIsPat : FnScope ["drawers", "value"] ["drawers", "value"] (defScope s_is_pattern) := ⟨rfl, rfl, rfl, by decide +kernel, rfl, by decide +kernel, by decide +kernel⟩
theorem ok_isPat {f f1 : Addr} {fd fd1 : FuncData} (F : Fun K "is_pattern" "is_pattern" s_is_pattern f fd) (G : FnOk P w K mg base CX0 1 f1 fd1 ["drawers", "value", "signs"] spSigns) (g1 : mg "has_signs" = some (.ref f1)) (k1 : PySem.W.keepIn K (.ref f1) = true) (b1 : Binds K fd1 ["drawers", "value", "signs"] [])
    (gS : ∃ t, mg "PATTERN_SIGNS" = some (.str "os?" t)) : FnOk P w K mg base CX0 2 f fd ["drawers", "value"] spIsPat := by
  refine F.ok scIsPat (fun vs H Q E h => ?_) (fun cdv A outer s H vs Q E hr h => ?_)
  · obtain ⟨cs, rfl, _⟩ := h.h
    rfl
  · obtain ⟨cs, rfl, h7, hp, k⟩ := h.h
    obtain ⟨tS, gS⟩ := gS
    refine ⟨_, pss_one (ps_ret (pe_call G (hr.mono (by decide)) rfl g1 k1 b1 .nil pass0 (pa_cons (pv 0) (pa_cons (pv 1) (pa_cons (pe_glob (v := .str "os?") rfl gS ⟨_, rfl⟩) pa_nil))))), ?_⟩
    exact ⟨_, rfl, _, rfl, ⟨⟨_, pstr cs, _, rfl, by rw [pstr_len], by omega, hp, k⟩⟩⟩
theorem scCkPat : FnScope ["cabinet", "pattern"] ["cabinet", "pattern"] (defScope s_check_pattern) := ⟨rfl, rfl, rfl, by decide +kernel, rfl, by decide +kernel, by decide +kernel⟩
theorem ok_ckPat {f f1 C : Addr} {fd fd1 : FuncData} (F : Fun K "check_pattern" "check_pattern" s_check_pattern f fd) (CP : CabP P w K mg base C) (G : FnOk P w K mg base CX0 2 f1 fd1 ["drawers", "value"] spIsPat) (g1 : mg "is_pattern" = some (.ref f1)) (k1 : PySem.W.keepIn K (.ref f1) = true) (b1 : Binds K fd1 ["drawers", "value"] []) :
    FnOk P w K mg base CX0 3 f fd ["cabinet", "pattern"] (spCkPat C) := by
  refine F.ok scCkPat (fun vs H Q E h => ?_) (fun cdv A outer s H vs Q E hr h => ?_)
  · obtain ⟨c, cs, t, rfl, _⟩ := h.h
    rfl
  · obtain ⟨c, cs, t, rfl, ⟨dx, hc⟩, h7, hp, k⟩ := h.h
    obtain ⟨pD, gD, fdD, hpD, GD, bD⟩ := CP.d
    refine ⟨_, pss_one (ps_if (pt_not (pt_val (pe_call G (hr.mono (by decide)) rfl g1 k1 b1 .nil pass0 (pa_cons (pe_prop (pv 0) CP.cl hpD GD (hr.mono (by decide)) bD .nil pass0 rfl) (pa_cons (pv 1) pa_nil))))) (pss_one ps_never) pss_nil), ?_⟩
    exact ⟨_, rfl, c, dx, _, rfl, hc, ⟨⟨c, dx, _, t, rfl, hc, _, rfl, ⟨⟨cs, rfl, h7, hp, fun H' s1 => ⟨_, rfl, iteF (k H' s1)⟩⟩⟩⟩⟩⟩
theorem scFirst : FnScope ["drawers"] ["drawers"] (defScope s_first_standing) := ⟨rfl, rfl, rfl, by decide +kernel, rfl, by decide +kernel, by decide +kernel⟩
theorem ok_first {f aS : Addr} {fd : FuncData} (F : Fun K "first_standing" "first_standing" s_first_standing f fd) (T : SgT K w mg aS) : FnOk P w K mg base CX0 1 f fd ["drawers"] spFirst := by
  refine F.ok scFirst (fun vs H Q E h => ?_) (fun cdv A outer s H vs Q E hr h => ?_)
  · obtain ⟨n, rfl, _⟩ := h.h
    rfl
  · obtain ⟨n, rfl, h1, h7, k⟩ := h.h
    refine ⟨_, pss_one (ps_ret (pe_op op_mul_str (pe_ix ix_kdict (pe_glob (v := .ref aS) rfl T.g rfl) pe_str (fun _ _ => rfl)) (pv 0))), ?_⟩
    refine ⟨aS, _, _, rfl, rfl, T.s, _, rfl, "s", (n : Int), rfl, rfl, mulOk_one (by decide +kernel) (by omega) (by omega), ?_⟩
    rw [mul_shut h1 h7]
    exact k
abbrev nFi : List Str := ["standing", "pattern", "sign", "wanted"]
theorem scFi : FnScope nFi ["standing", "pattern"] (defScope s_fits) := ⟨rfl, rfl, rfl, by decide +kernel, rfl, by decide +kernel, by decide +kernel⟩
theorem ok_fits {f : Addr} {fd : FuncData} (F : Fun K "fits" "fits" s_fits f fd) (zZ : mg "zip" = none) (zA : mg "all" = none) : FnOk P w K mg base CX0 1 f fd ["standing", "pattern"] spFits := by
  refine F.ok scFi (fun vs H Q E h => ?_) (fun cdv A outer s H vs Q E hr h => ?_)
  · obtain ⟨st, cs, rfl, _⟩ := h.h
    rfl
  · obtain ⟨st, cs, rfl, hl, h7, k⟩ := h.h
    refine ⟨_, pss_one (ps_ret (pe_callB (cr_all rfl) (by rfl) zA boot_all_ (pa_cons
        (pe_lc (own := [("sign", 2), ("wanted", 3)]) (g := gTup K 2 (gCons (gName 2) (gCons (gName 3) gNil))) (tt := tYes) (by rfl) scFi.nd (pi_zipS (by rfl) zZ (pa_cons (pv 0) (pa_cons (pv 1) pa_nil))) (blkOk_by (N := nFi) (sc := defScope s_fits) (by decide +kernel))
          (fun _ _ _ _ _ => pg_tupK (K := K) rfl rfl (pgs_cons (pg_name (i := 2) scFi.nd rfl (Or.inl rfl)) (pgs_cons (pg_name (i := 3) scFi.nd rfl (Or.inl rfl)) pgs_nil))) (fun _ _ _ _ _ => pts_nil)
          (fun _ _ _ _ _ => pe_cmpR (op_in_seqK (K := K) rfl) (pv 3) (pe_tup (pa_cons pe_str (pa_cons (pv 2) pa_nil))) (by rfl))) pa_nil))), ?_⟩
    refine ⟨_, rfl, _, rfl, _, _, rfl, fun D hD => ?_⟩
    have hsz : (sstr st).cps.size = (pstr cs).cps.size := by
      have e1 : (sstr st).cps.size = st.length := sstr_len st
      have e2 : (pstr cs).cps.size = cs.length := pstr_len cs
      omega
    refine lc_it (walk_zipS hsz) (fun i H' => Same H H' ∧ H' D = some (.lst ((((List.range st.length).take i).map (fitAt st cs)).map V.bl))) ⟨same_upd hD, upd_same⟩ (fun _ _ _ _ => trivial) ?_ ?_
    · rintro i x H1 H2 hi ⟨s1, hD1⟩ ⟨T, c, d, rfl, hT, rfl, ec, ed⟩
      have hi' : i < st.length := by
        have e1 : (sstr st).cps.size = st.length := sstr_len st
        omega
      refine ⟨T, _, rfl, SqT.of' upd_same, rfl, _, _, rfl, _, _, rfl, rfl, rfl, tYes_of (iteT ?_)⟩
      refine ⟨_, rfl, _, rfl, (by show 2 ≤ sizeLine; decide), fun q hq => ?_⟩
      refine ⟨q, _, rfl, .inr (SqT.of' upd_same), rfl, rfl, ?_⟩
      rw [if_neg Bool.false_ne_true, in_two]
      have s2 := (s1.trans (same_upd (o := .tup [.str ⟨#[c]⟩, .str ⟨#[d]⟩]) hT)).trans (same_upd (o := .tup [.str "?", .str ⟨#[c]⟩]) hq)
      have hDq : D ≠ q := ne_of_none (by rw [upd_ne (ne_of_none hD1 hT)]; exact hD1) hq
      refine ⟨_, by rw [upd_ne hDq, upd_ne (ne_of_none hD1 hT)]; exact hD1, ?_, fun b o e => ?_, ?_⟩
      · rw [List.length_map, List.length_map, List.length_take, List.length_range]
        exact small1000 (by omega)
      · rw [upd_ne (ne_of_none e hD)]
        exact s2 b o e
      · rw [upd_same, ← take_succ_map (fitAt st cs) (List.getElem?_range hi'), List.map_append]
        congr 3
        show [V.bl (decide (d = 63) || decide (d = c))] = [V.bl (fitAt st cs i)]
        unfold fitAt
        have e1 : c = sg (st.getD i false) := by
          rw [← Array.getElem?_toList, sstr_tl, List.getElem?_map] at ec
          rw [List.getD_eq_getElem?_getD]
          cases q : st[i]? with
          | none => rw [q] at ec; cases ec
          | some b => rw [q] at ec; exact (Option.some.inj ec).symm
        have e2 : d = cs.getD i 0 := by
          rw [← Array.getElem?_toList, pstr_tl] at ed
          rw [List.getD_eq_getElem?_getD, ed]
          rfl
        rw [e1, e2]
    · rintro H' ⟨s1, hD1⟩
      refine ⟨D, _, rfl, SqL.of hD1, ?_⟩
      have e1 : (sstr st).cps.size = st.length := sstr_len st
      rw [e1, List.take_of_length_le (by rw [List.length_range]; exact Nat.le_refl _)]
      exact k H' s1
abbrev nEn : List Str := ["cabinet", "standing", "drawers", "known", "drawer", "pull"]
theorem scEn : FnScope nEn ["cabinet", "standing", "drawers"] (defScope s_end_of_row) := ⟨rfl, rfl, rfl, by decide +kernel, rfl, by decide +kernel, by decide +kernel⟩
theorem ok_end {f f1 f2 C : Addr} {fd fd1 fd2 : FuncData} (F : Fun K "end_of_row" "end_of_row" s_end_of_row f fd) (G1 : FnOk P w K mg base CX0 6 f1 fd1 ["cabinet", "standing", "drawer"] (spGoes C)) (g1 : mg "goes" = some (.ref f1)) (k1 : PySem.W.keepIn K (.ref f1) = true) (b1 : Binds K fd1 ["cabinet", "standing", "drawer"] [])
    (G2 : FnOk P w K mg base CX0 1 f2 fd2 ["standing", "drawer"] spMoved) (g2 : mg "moved" = some (.ref f2)) (k2 : PySem.W.keepIn K (.ref f2) = true) (b2 : Binds K fd2 ["standing", "drawer"] []) : FnOk P w K mg base CX0 8 f fd ["cabinet", "standing", "drawers"] (spEnd K C) := by
  refine F.ok scEn (fun vs H Q E h => ?_) (fun cdv A outer s H vs Q E hr h => ?_)
  · obtain ⟨c, t, bs, st, ds, rfl, _⟩ := h.h
    rfl
  · obtain ⟨c, t, bs, st, ds, rfl, B, S, hd, hlen, k⟩ := h.h
    have hu := hu_of hr
    refine ⟨_, pss_cons (ps_set (i := 3) scEn.nd rfl (Or.inl rfl) pe_dnewT)
      (pss_cons (ps_for PassesOwn.never rfl (pi_tup (pv 2)) (pg_name (i := 4) scEn.nd rfl (Or.inl rfl))
        (pss_cons (ps_set (i := 5) scEn.nd rfl (Or.inl rfl) (pe_tup (pa_cons (pv 1) (pa_cons (pv 4) pa_nil))))
        (pss_cons (ps_if (pt_cmp (pc_dnotin hu (pv 5) (pv 3))) (pss_one (ps_dput hu (pv 3) (pv 5) (pe_ifExp (pt_val (pe_call G1 (hr.mono (by decide)) rfl g1 k1 b1 .nil pass0 (pa_cons (pv 0) (pa_cons (pv 1) (pa_cons (pv 4) pa_nil))))) (pe_call G2 (hr.mono (by decide)) rfl g2 k2 b2 .nil pass0 (pa_cons (pv 1) (pa_cons (pv 4) pa_nil))) pe_non) rfl)) pss_nil)
        (pss_cons (ps_set (i := 1) scEn.nd rfl (Or.inl rfl) (pe_dget hu (pv 3) (pv 5) (fun _ _ => rfl)))
        (pss_one (ps_if (pt_cmp (pc_isN (pv 1))) (pss_one (ps_ret pe_non)) pss_nil))))))
      (pss_one (ps_ret (pv 1)))), ?_⟩
    intro kd hkd
    refine ⟨_, rfl, t, rfl, ⟨_, SqT.same (same_upd hkd) S⟩, ?_⟩
    refine for_tup (K := K) (a := t) (xs := ds.map V.int) (fun i σ H' => ∃ (s' : List Bool) (u4 u5 : Option V) (kvs : List (List Key × V)), σ = [some (.ref c), some (.str (sstr s')), some (.ref t), some (.ref kd), u4, u5] ∧ s'.length = st.length ∧ runB bs s' (ds.drop i) = runB bs st ds ∧ Same H H' ∧
        H' kd = some (.dT kvs) ∧ kvs.length ≤ i ∧ ∀ (s0 : List Bool) (d0 : Int) (v : V), valV kvs ([.inr (sstr s0), .inl d0] : List Key) = some v → v = pullV bs s0 d0)
      ⟨st, _, _, [], rfl, rfl, rfl, same_upd hkd, upd_same, Nat.le_refl _, fun s0 d0 v e => by cases e⟩ ?_ ?_ ?_
    · rintro i σ H' _ ⟨s', u4, u5, kvs, _, _, _, s1, _⟩
      exact SqT.same s1 S
    · rintro i x σ H1 hi ⟨s', u4, u5, kvs, rfl, hl, hrun, s1, hk, hkl, hkv⟩
      rw [List.getElem?_map] at hi
      cases ei : ds[i]? with
      | none => rw [ei] at hi; cases hi
      | some d =>
        rw [ei] at hi
        cases hi
        obtain ⟨d0, d1⟩ := hd d (List.mem_of_getElem? ei)
        have hil : i < ds.length := (List.getElem?_eq_some_iff.mp ei).1
        have hdrop : ds.drop i = d :: ds.drop (i + 1) := by
          rw [List.drop_eq_getElem_cons hil]
          congr 1
          exact (List.getElem?_eq_some_iff.mp ei).2
        rw [hdrop] at hrun
        refine ⟨_, rfl, _, rfl, (by show 2 ≤ sizeLine; decide), fun q hq => ?_⟩
        have s2 := s1.trans (same_upd (o := .tup [.str (sstr s'), .int d]) hq)
        have hk2 : (upd H1 q (.tup [.str (sstr s'), .int d])) kd = some (.dT kvs) := by rw [upd_ne (ne_of_none hk hq)]; exact hk
        have hq2 : (upd H1 q (.tup [.str (sstr s'), .int d])) q = some (.tup (([.inr (sstr s'), .inl d] : List Key).map kV)) := upd_same
        generalize (upd H1 q (.tup [.str (sstr s'), .int d])) = H2 at s2 hk2 hq2 ⊢
        -- what follows once the pull is known
        have fin : ∀ (H3 : Hp) (kvs' : List (List Key × V)), Same H H3 → H3 kd = some (.dT kvs') → H3 q = some (.tup (([.inr (sstr s'), .inl d] : List Key).map kV)) → kvs'.length ≤ i + 1 →
            (∀ (s0 : List Bool) (d0 : Int) (v : V), valV kvs' ([.inr (sstr s0), .inl d0] : List Key) = some v → v = pullV bs s0 d0) → valV kvs' ([.inr (sstr s'), .inl d] : List Key) = some (pullV bs s' d) → True := fun _ _ _ _ _ _ _ _ => trivial
        clear fin
        have hkq : kd ≠ q := fun z => by rw [z, hq2] at hk2; cases hk2
        refine ⟨_, rfl, _, rfl, kd, _, rfl, DGet.t hk2 hq2, _, rfl, ?_⟩
        cases ev : valV kvs ([.inr (sstr s'), .inl d] : List Key) with
        | some v =>
          have evp := hkv s' d v ev
          subst evp
          refine iteF ?_
          refine ⟨_, rfl, _, rfl, kd, _, rfl, by rw [← ev]; exact DGet.t hk2 hq2, ?_⟩
          refine ⟨_, rfl, _, rfl, ?_⟩
          unfold pullV
          cases eg : goesB bs s' d with
          | true =>
            rw [if_pos rfl]
            refine iteF ⟨flip s' d, _, _, kvs, rfl, by rw [flip_len]; exact hl, ?_, s2, hk2, by omega, hkv⟩
            rw [runB_cons, if_pos eg] at hrun
            exact hrun
          | false =>
            rw [if_neg Bool.false_ne_true]
            refine iteT ?_
            rw [runB_cons, if_neg (by rw [eg]; exact Bool.false_ne_true)] at hrun
            have := k H2 s2
            rw [← hrun] at this
            exact this
        | none =>
          refine iteT ?_
          have B2 := (B.same s2)
          rw [← hl] at B2
          refine ⟨_, rfl, _, rfl, _, rfl, ⟨⟨c, bs, s', d, rfl, B2, d0, by omega, fun H3 s3 => ⟨_, rfl, ?_⟩⟩⟩⟩
          have step : ∀ H4, Same H3 H4 → ∃ v, v = pullV bs s' d ∧ (v = pullV bs s' d → True) := fun _ _ => ⟨_, rfl, fun _ => trivial⟩
          clear step
          have e1 : ∀ H4 : Hp, Same H2 H4 → H4 kd = some (.dT kvs) ∧ H4 q = some (.tup (([.inr (sstr s'), .inl d] : List Key).map kV)) := fun H4 s4 => ⟨s4 _ _ hk2, s4 _ _ hq2⟩
          have sames : ∀ H4 : Hp, Same H2 H4 → Same H (upd H4 kd (.dT (putK kvs ([.inr (sstr s'), .inl d] : List Key) (pullV bs s' d)))) := fun H4 s4 b o eb => by
            rw [upd_ne (ne_of_none eb hkd)]
            exact s4 _ _ (s2 _ _ eb)
          have hkv' : ∀ (s0 : List Bool) (d0 : Int) (v : V), valV (putK kvs ([.inr (sstr s'), .inl d] : List Key) (pullV bs s' d)) ([.inr (sstr s0), .inl d0] : List Key) = some v → v = pullV bs s0 d0 := fun s0 d0 v e => by
            rw [valV_put] at e
            by_cases z : ([.inr (sstr s0), .inl d0] : List Key) = [.inr (sstr s'), .inl d]
            · rw [if_pos z] at e
              obtain ⟨z1, z2⟩ := key_inj z
              rw [z1, z2]
              exact (Option.some.inj e).symm
            · rw [if_neg z] at e
              exact hkv s0 d0 v e
          have hget : valV (putK kvs ([.inr (sstr s'), .inl d] : List Key) (pullV bs s' d)) ([.inr (sstr s'), .inl d] : List Key) = some (pullV bs s' d) := by
            rw [valV_put, if_pos rfl]
          have hlen' := putK_le kvs ([.inr (sstr s'), .inl d] : List Key) (pullV bs s' d)
          have hsm : kvs.length < sizeLine := small1000 (by omega)
          cases eg : goesB bs s' d with
          | true =>
            have ep : pullV bs s' d = .str (sstr (flip s' d)) := by unfold pullV; rw [if_pos eg]
            refine iteT ?_
            refine ⟨_, rfl, _, rfl, ⟨⟨s', d, rfl, by have := B.cab.choose_spec.2; omega, d0, by omega, fun H4 s4 => ?_⟩⟩⟩
            have s24 := s3.trans s4
            obtain ⟨f1', f2'⟩ := e1 H4 s24
            refine ⟨_, rfl, _, rfl, kd, _, rfl, DPut.t f1' f2' hsm, ?_⟩
            rw [← ep]
            refine ⟨_, rfl, _, rfl, kd, _, rfl, by rw [← hget]; exact DGet.t upd_same (by rw [upd_ne hkq.symm]; exact f2'), ?_⟩
            refine ⟨_, rfl, _, rfl, ?_⟩
            rw [ep]
            refine iteF ⟨flip s' d, _, _, _, rfl, by rw [flip_len]; exact hl, ?_, by rw [← ep]; exact sames H4 s24, upd_same, by rw [← ep]; omega, by rw [← ep]; exact hkv'⟩
            rw [runB_cons, if_pos eg] at hrun
            exact hrun
          | false =>
            have ep : pullV bs s' d = .non := by unfold pullV; rw [if_neg (by rw [eg]; exact Bool.false_ne_true)]
            refine iteF ?_
            obtain ⟨f1', f2'⟩ := e1 H3 s3
            refine ⟨_, rfl, _, rfl, kd, _, rfl, DPut.t f1' f2' hsm, ?_⟩
            rw [← ep]
            refine ⟨_, rfl, _, rfl, kd, _, rfl, by rw [← hget]; exact DGet.t upd_same (by rw [upd_ne hkq.symm]; exact f2'), ?_⟩
            refine ⟨_, rfl, _, rfl, ?_⟩
            rw [ep]
            refine iteT ?_
            rw [runB_cons, if_neg (by rw [eg]; exact Bool.false_ne_true)] at hrun
            have := k _ (sames H3 s3)
            rw [← hrun, ep] at this
            exact this
    · rintro σ H' ⟨s', u4, u5, kvs, rfl, hl, hrun, s1, _⟩
      rw [List.length_map, List.drop_length] at hrun
      refine ⟨_, rfl, ?_⟩
      have := k H' s1
      rw [← hrun] at this
      exact this
end
end DL

set_option Elab.async false
set_option maxRecDepth 100000
namespace DL
open PySem L2 HT TL
theorem inV_ints (i : Int) (l : List Int) : inV (.int i) (l.map V.int) = decide (i ∈ l) := by
  unfold inV
  induction l with
  | nil => rfl
  | cons a l ih =>
    rw [List.map_cons, List.any_cons, ih]
    show ((a == i) || decide (i ∈ l)) = decide (i ∈ a :: l)
    by_cases q : i = a
    · subst q
      simp
    · have q' : ¬ a = i := fun z => q z.symm
      simp [q, q']
theorem flat_ints (l : List Int) : (l.map V.int).all flatV = true := by
  rw [List.all_eq_true]
  intro x hx
  obtain ⟨i, _, rfl⟩ := List.mem_map.mp hx
  rfl
theorem mem_free {bs : List Bar} {st : List Bool} {d : Int} (d0 : 0 ≤ d) (d1 : d < st.length) : decide (d ∈ freeL bs st) = goesB bs st d := by
  unfold freeL
  have hm : d ∈ drs st.length := by
    unfold drs
    exact List.mem_map.mpr ⟨d.toNat, List.mem_range.mpr (by omega), by omega⟩
  cases e : goesB bs st d with
  | true => exact decide_eq_true (List.mem_filter.mpr ⟨hm, e⟩)
  | false => exact decide_eq_false fun q => by rw [(List.mem_filter.mp q).2] at e; cases e
end DL

set_option Elab.async false
set_option maxRecDepth 100000
namespace DL
open PySem L2 HT TL
/-! ### a drawn cabinet: its parts at p, itself at c; the row of draws at r -/
structure Lay (C r p c : Addr) (H : Hp) (n : Int) (bs : List Bar) : Prop where
  h : ∃ (t : Addr) (ks : List (Addr × Bar)) (zs : List V), H p = some (.lst (.int n :: .ref t :: zs)) ∧ CabAt C H c n t ∧ BarsAt H t ks ∧ ks.map (·.2) = bs ∧ OkBars n bs ∧ 1 ≤ n ∧ n ≤ 7 ∧ bs.length ≤ 100 ∧ p ≠ r
theorem Lay.dr {C r p c : Addr} {H : Hp} {n : Int} {bs : List Bar} (L : Lay C r p c H n bs) : DrOk H p n bs := by
  obtain ⟨t, ks, zs, h1, h2, h3, h4, h5, h6, h7, h8, _⟩ := L.h
  exact ⟨⟨t, ks, zs, h1, h3, h4, h5, h6, h7, h8⟩⟩
theorem Lay.cab {C r p c : Addr} {H : Hp} {n : Int} {bs : List Bar} (L : Lay C r p c H n bs) : CabOk C H c n bs := by
  obtain ⟨t, ks, zs, h1, h2, h3, h4, h5, h6, h7, h8, _⟩ := L.h
  exact ⟨⟨t, ks, h2, h3, h4, h5, h6, h7, h8⟩⟩
theorem Lay.but {C r sc p c : Addr} {H H' : Hp} {n : Int} {bs : List Bar} (L : Lay C r p c H n bs) (R : RowOk H r sc) (B : But r H H') : Lay C r p c H' n bs := by
  obtain ⟨t, ks, zs, h1, ⟨dx, h2⟩, h3, h4, h5, h6, h7, h8, h9⟩ := L.h
  obtain ⟨i, m, e, hR, _⟩ := R.h
  exact ⟨⟨t, ks, zs, B _ _ h9 h1, ⟨dx, B _ _ (ne_of h2 hR (by intro z; cases z)) h2⟩, ⟨B.tup hR h3.tu, fun k hk => B.tup hR (h3.el k hk)⟩, h4, h5, h6, h7, h8, h9⟩⟩
theorem Lay.same {C r p c : Addr} {H H' : Hp} {n : Int} {bs : List Bar} (L : Lay C r p c H n bs) (s : Same H H') : Lay C r p c H' n bs := by
  obtain ⟨t, ks, zs, h1, ⟨dx, h2⟩, h3, h4⟩ := L.h
  exact ⟨⟨t, ks, zs, s _ _ h1, ⟨dx, s _ _ h2⟩, h3.same s, h4⟩⟩
theorem Lay.n1 {C r p c : Addr} {H : Hp} {n : Int} {bs : List Bar} (L : Lay C r p c H n bs) : 1 ≤ n ∧ n ≤ 7 := by
  obtain ⟨t, ks, zs, h1, h2, h3, h4, h5, h6, h7, h8⟩ := L.h
  exact ⟨h6, h7⟩
/-- the first part, the number of drawers -/
theorem Lay.at0 {C r p c : Addr} {H : Hp} {n : Int} {bs : List Bar} (L : Lay C r p c H n bs) (K : PySem.W.Frag) : ∃ xs, SqL K H p xs ∧ atI xs 0 = some (.int n) := by
  obtain ⟨t, ks, zs, h1, _⟩ := L.h
  exact ⟨_, SqL.of h1, atI_nat (j := 0) rfl⟩
/-- as the parts were drawn, the cabinet made -/
theorem Lay.mk' {C r p c t sc : Addr} {H1 H2 H3 : Hp} {n : Int} {ks : List (Addr × Bar)} (R1 : RowOk H1 r sc) (hp0 : H1 p = none) (hp : H3 p = some (.lst [.int n, .ref t])) (hcab : CabAt C H3 c n t) (hB : BarsAt H2 t ks) (s : Same H2 H3) (O : OkBars n (ks.map (·.2))) (n1 : 1 ≤ n) (n7 : n ≤ 7) (h13 : ks.length ≤ 13) :
    Lay C r p c H3 n (ks.map (·.2)) := by
  obtain ⟨i1, m1, e1, q1, _⟩ := id R1.h
  exact ⟨⟨t, ks, [], hp, hcab, hB.same s, rfl, O, n1, n7, by rw [List.length_map]; omega, (ne_of_none q1 hp0).symm⟩⟩
theorem free_in {bs : List Bar} {st : List Bool} {d : Int} (h : d ∈ freeL bs st) : 0 ≤ d ∧ d < st.length := by
  have hm := (List.mem_filter.mp h).1
  unfold drs at hm
  obtain ⟨i, hi, rfl⟩ := List.mem_map.mp hm
  have := List.mem_range.mp hi
  omega
theorem free_len (bs : List Bar) (st : List Bool) : (freeL bs st).length ≤ st.length := by
  have := List.length_filter_le (fun d => goesB bs st d) (drs st.length)
  rw [drs_len] at this
  exact this

section
variable {P : Program} {w : World} {K : PySem.W.Frag} {mg : Str → Option Value} {base : Heap}
abbrev nRR : List Str := ["cabinet", "pattern", "value", "end", "drawer"]
theorem scRR : FnScope nRR ["cabinet", "pattern", "value"] (defScope s_right_row) := ⟨rfl, rfl, rfl, by decide +kernel, rfl, by decide +kernel, by decide +kernel⟩
theorem ok_right {f f1 f2 f3 f4 f5 f6 C : Addr} {fd fd1 fd2 fd3 fd4 fd5 fd6 : FuncData} (F : Fun K "right_row" "right_row" s_right_row f fd) (T : Bt mg) (zA : mg "all" = none) (CP : CabP P w K mg base C)
    (G1 : FnOk P w K mg base CX0 1 f1 fd1 ["cabinet"] (spCkCab C)) (g1 : mg "check_cabinet" = some (.ref f1)) (k1 : PySem.W.keepIn K (.ref f1) = true) (b1 : Binds K fd1 ["cabinet"] [])
    (G2 : FnOk P w K mg base CX0 3 f2 fd2 ["cabinet", "pattern"] (spCkPat C)) (g2 : mg "check_pattern" = some (.ref f2)) (k2 : PySem.W.keepIn K (.ref f2) = true) (b2 : Binds K fd2 ["cabinet", "pattern"] [])
    (G3 : FnOk P w K mg base CX0 2 f3 fd3 ["drawers", "value"] (spIsDrawer K)) (g3 : mg "is_drawer" = some (.ref f3)) (k3 : PySem.W.keepIn K (.ref f3) = true) (b3 : Binds K fd3 ["drawers", "value"] [])
    (G4 : FnOk P w K mg base CX0 8 f4 fd4 ["cabinet", "standing", "drawers"] (spEnd K C)) (g4 : mg "end_of_row" = some (.ref f4)) (k4 : PySem.W.keepIn K (.ref f4) = true) (b4 : Binds K fd4 ["cabinet", "standing", "drawers"] [])
    (G5 : FnOk P w K mg base CX0 1 f5 fd5 ["drawers"] spFirst) (g5 : mg "first_standing" = some (.ref f5)) (k5 : PySem.W.keepIn K (.ref f5) = true) (b5 : Binds K fd5 ["drawers"] [])
    (G6 : FnOk P w K mg base CX0 1 f6 fd6 ["standing", "pattern"] spFits) (g6 : mg "fits" = some (.ref f6)) (k6 : PySem.W.keepIn K (.ref f6) = true) (b6 : Binds K fd6 ["standing", "pattern"] []) :
    FnOk P w K mg base CX0 12 f fd ["cabinet", "pattern", "value"] (spRight K C) := by
  refine F.ok scRR (fun vs H Q E h => ?_) (fun cdv A outer s H vs Q E hr h => ?_)
  · obtain ⟨c, bs, cs, v, rfl, _⟩ := h.h
    rfl
  · obtain ⟨c, bs, cs, v, rfl, B, hp, hv⟩ := h.h
    obtain ⟨t, hc, n7⟩ := B.cab
    obtain ⟨pD, gD, fdD, hpD, GD, bD⟩ := CP.d
    refine ⟨_, pss_cons (ps_expr (pe_call G1 (hr.mono (by decide)) rfl g1 k1 b1 .nil pass0 (pa_cons (pv 0) pa_nil))) (pss_cons (ps_expr (pe_call G2 (hr.mono (by decide)) rfl g2 k2 b2 .nil pass0 (pa_cons (pv 0) (pa_cons (pv 1) pa_nil))))
      (pss_cons (ps_if (pt_not (pt_val (pe_callB call_isi (by rfl) T.isinstance (by decide +kernel) (pa_cons (pv 2) (pa_cons (pe_bltn (v := .ty "tuple") (by rfl) T.tuple (by decide +kernel) rfl) pa_nil))))) (pss_one (ps_ret pe_bl)) pss_nil)
      (pss_cons (ps_if (pt_not (pt_val (pe_callB (cr_all rfl) (by rfl) zA boot_all_ (pa_cons
          (pe_lc (own := [("drawer", 4)]) (g := gName 4) (tt := tYes) (by rfl) scRR.nd (pi_tup (pv 2)) (blkOk_by (N := nRR) (sc := defScope s_right_row) (by decide +kernel)) (fun _ _ _ _ _ => pg_name (i := 4) scRR.nd rfl (Or.inl rfl)) (fun _ _ _ _ _ => pts_nil)
            (fun _ _ _ _ _ => pe_call G3 (hr.mono (by decide)) rfl g3 k3 b3 .nil pass0 (pa_cons (pe_prop (pv 0) CP.cl hpD GD (hr.mono (by decide)) bD .nil pass0 rfl) (pa_cons (pv 4) pa_nil)))) pa_nil)))) (pss_one (ps_ret pe_bl)) pss_nil)
      (pss_cons (ps_set (i := 3) scRR.nd rfl (Or.inl rfl) (pe_call G4 (hr.mono (by decide)) rfl g4 k4 b4 .nil pass0 (pa_cons (pv 0) (pa_cons (pe_call G5 (hr.mono (by decide)) rfl g5 k5 b5 .nil pass0 (pa_cons (pe_prop (pv 0) CP.cl hpD GD (hr.mono (by decide)) bD .nil pass0 rfl) pa_nil)) (pa_cons (pv 2) pa_nil)))))
      (pss_one (ps_ret (pe_and (pe_cmp (pc_notN (pv 3))) (pe_one (pe_call G6 (hr.mono (by decide)) rfl g6 k6 b6 .nil pass0 (pa_cons (pv 3) (pa_cons (pv 1) pa_nil))))))))))), ?_⟩
    refine ⟨_, rfl, ⟨⟨c, _, t, rfl, hc, ?_⟩⟩⟩
    refine ⟨_, rfl, _, rfl, ⟨⟨c, cs, t, rfl, hc, by omega, hp, fun H1 s1 => ?_⟩⟩⟩
    rcases hv with ⟨tv, hty, hk, k⟩ | ⟨a, xs, rfl, S, hlen, hsc, k⟩
    · exact ⟨_, rfl, _, _, tv, _, false, rfl, .ty "tuple", hty _ s1, hk, _, rfl, iteT (k _ s1)⟩
    · have S1 : SqT K H1 a xs := SqT.same s1 S
      obtain ⟨dx, hc0⟩ := hc
      refine ⟨_, rfl, _, _, _, _, true, rfl, .ty "tuple", tyT S1, kit_ty (by decide +kernel), _, rfl, iteF ?_⟩
      refine ⟨_, rfl, a, rfl, ⟨_, S1⟩, fun D hD => ?_⟩
      refine lc_tup (K := K) (a := a) (xs := xs) (fun i H' => Same H1 H' ∧ H' D = some (.lst (((xs.take i).map (isD cs.length)).map V.bl))) ⟨same_upd hD, upd_same⟩ (fun i H' _ q => SqT.same q.1 S1) ?_ ?_
      · rintro i x H' hi ⟨s2, hD1⟩
        refine ⟨rfl, tYes_of (iteT ?_)⟩
        have hc2 := s2 _ _ (s1 _ _ hc0)
        refine ⟨_, rfl, c, dx, _, rfl, hc2, ⟨⟨c, dx, _, t, rfl, hc2, _, rfl, ?_⟩⟩⟩
        refine spIsDrawer_sc (hsc x (List.mem_of_getElem? hi)) ⟨_, hD1, ?_, fun b o e => ?_, ?_⟩
        · rw [List.length_map, List.length_map, List.length_take]
          exact small1000 (by omega)
        · rw [upd_ne (ne_of_none e hD)]
          exact s2 b o e
        · rw [upd_same]
          congr 2
          rw [List.map_map, List.map_map]
          exact take_succ_map (V.bl ∘ isD (cs.length : Int)) hi
      · rintro H' ⟨s2, hD1⟩
        rw [List.take_length] at hD1
        have hall : (xs.map (isD (cs.length : Int))).all id = xs.all (isD cs.length) := by rw [List.all_map]; rfl
        refine ⟨D, _, rfl, SqL.of hD1, _, rfl, ?_⟩
        rw [hall]
        have s12 := s1.trans s2
        cases ea : xs.all (isD (cs.length : Int)) with
        | false =>
          refine iteT ?_
          have := k H' s12
          unfold rowB at this
          rw [ea] at this
          exact this
        | true =>
          refine iteF ?_
          obtain ⟨e1, e2⟩ := ints_of ea
          have hc2 := s12 _ _ hc0
          have B2 := B.same s12
          have n1 : 1 ≤ cs.length := by
            obtain ⟨_, _, _, _, _, _, q, _⟩ := B.h
            omega
          refine ⟨_, rfl, _, rfl, c, dx, _, rfl, hc2, ⟨⟨c, dx, _, t, rfl, hc2, ⟨⟨cs.length, rfl, n1, by omega, ?_⟩⟩⟩⟩⟩
          have hshut : (shutS cs.length).length = cs.length := List.length_replicate
          refine ⟨_, rfl, ⟨⟨c, a, bs, shutS cs.length, xs.map intOf, rfl, by rw [hshut]; exact B2, by rw [← e1]; exact SqT.same s12 S, by rw [hshut]; exact e2, by rw [List.length_map]; exact hlen, fun H3 s3 => ?_⟩⟩⟩
          have s13 := s12.trans s3
          refine ⟨_, rfl, ?_⟩
          have kk := fun H4 s4 => k H4 s4
          unfold rowB isRowB at kk
          rw [ea] at kk
          cases er : runB bs (shutS cs.length) (xs.map intOf) with
          | none =>
            rw [er] at kk
            refine ⟨_, rfl, ?_⟩
            exact iteF (kk H3 s13)
          | some e =>
            rw [er] at kk
            refine ⟨_, rfl, ?_⟩
            refine iteT ?_
            have el : e.length = cs.length := by rw [runB_len er, hshut]
            exact ⟨_, rfl, _, rfl, ⟨⟨e, cs, rfl, el, by omega, fun H4 s4 => kk H4 (s13.trans s4)⟩⟩⟩
/-! ### of the law: whether a standing fits, whether a row is one -/
abbrev nL7 : List Str := ["_law_pattern_here", "_law_standing", "_law_at"]
structure spLawFits (vs : List V) (H : Hp) (Q : VK) (_ : XK) : Prop where
  h : ∃ (st : List Bool) (cs : List Nat), vs = [.str (pstr cs), .str (sstr st)] ∧ st.length = cs.length ∧ st.length ≤ 7 ∧ ∀ H', Same H H' → Q (.bl (fitB st cs)) H'
structure spLawRow (K : PySem.W.Frag) (vs : List V) (H : Hp) (Q : VK) (_ : XK) : Prop where
  h : ∃ (p t : Addr) (bs : List Bar) (cs : List Nat) (ds : List Int), vs = [.ref p, .str (pstr cs), .ref t] ∧ DrOk H p cs.length bs ∧ SqT K H t (ds.map V.int) ∧ (∀ d ∈ ds, 0 ≤ d ∧ d < cs.length) ∧ ∀ H', Same H H' → Q (.bl (isRowB cs.length bs cs ds)) H'
abbrev nL8 : List Str := ["_law_d", "_law_pattern_here", "_law_told", "_law_standing", "_law_drawer"]
end
end DL

set_option Elab.async false
set_option maxRecDepth 100000
set_option maxHeartbeats 1000000
namespace DL
open PySem L2 HT TL
/-! ### forms of single values: standings, tries, whatever they are -/
def sgnB (n : Int) (z : Str) : V → Bool
  | .str y => decide ((y.length : Int) = n) && y.cps.toList.all fun c => decide (c ∈ z.cps.toList)
  | _ => false
def strB : V → Bool
  | .str _ => true
  | _ => false
def blB : V → Bool
  | .bl _ => true
  | _ => false
theorem sgn_str (n : Int) (z y : Str) : sgnB n z (.str y) = (decide ((y.length : Int) = n) && y.cps.toList.all fun c => decide (c ∈ z.cps.toList)) := rfl
structure spSignsG (vs : List V) (H : Hp) (Q : VK) (_ : XK) : Prop where
  h : ∃ (n : Int) (v : V) (z : Str), vs = [.int n, v, .str z] ∧ scV v = true ∧ (∀ y, v = .str y → y.length ≤ 1000) ∧ ∀ H', Same H H' → Q (.bl (sgnB n z v)) H'
structure spIsStdG (vs : List V) (H : Hp) (Q : VK) (_ : XK) : Prop where
  h : ∃ (n : Int) (v : V), vs = [.int n, v] ∧ scV v = true ∧ (∀ y, v = .str y → y.length ≤ 1000) ∧ ∀ H', Same H H' → Q (.bl (sgnB n "os" v)) H'
/-- the type of a plain value, and what it is an instance of -/
theorem sc_ty {K : PySem.W.Frag} {H : Hp} {v : V} (h : scV v = true) : ∃ t, TyX K H v t ∧ PySem.W.kitOne K t (.type "str") = some (strB v) ∧ PySem.W.kitOne K t (.type "bool") = some (blB v) ∧ PySem.W.kitOne K t (.type "tuple") = some false ∧ PySem.W.kitOne K t (.type "list") = some false := by
  cases v with
  | non => exact ⟨.type "NoneType", .base .non, show PySem.W.kitOne K (.type "NoneType") (.type "str") = some false from kit_ty (by decide +kernel), show PySem.W.kitOne K (.type "NoneType") (.type "bool") = some false from kit_ty (by decide +kernel), show PySem.W.kitOne K (.type "NoneType") (.type "tuple") = some false from kit_ty (by decide +kernel), show PySem.W.kitOne K (.type "NoneType") (.type "list") = some false from kit_ty (by decide +kernel)⟩
  | bl b => exact ⟨.type "bool", .base (.bl _), show PySem.W.kitOne K (.type "bool") (.type "str") = some false from kit_ty (by decide +kernel), show PySem.W.kitOne K (.type "bool") (.type "bool") = some true from kit_ty (by decide +kernel), show PySem.W.kitOne K (.type "bool") (.type "tuple") = some false from kit_ty (by decide +kernel), show PySem.W.kitOne K (.type "bool") (.type "list") = some false from kit_ty (by decide +kernel)⟩
  | int i => exact ⟨.type "int", .base (.int _), show PySem.W.kitOne K (.type "int") (.type "str") = some false from kit_ty (by decide +kernel), show PySem.W.kitOne K (.type "int") (.type "bool") = some false from kit_ty (by decide +kernel), show PySem.W.kitOne K (.type "int") (.type "tuple") = some false from kit_ty (by decide +kernel), show PySem.W.kitOne K (.type "int") (.type "list") = some false from kit_ty (by decide +kernel)⟩
  | str z => exact ⟨.type "str", .base (.str _), show PySem.W.kitOne K (.type "str") (.type "str") = some true from kit_ty (by decide +kernel), show PySem.W.kitOne K (.type "str") (.type "bool") = some false from kit_ty (by decide +kernel), show PySem.W.kitOne K (.type "str") (.type "tuple") = some false from kit_ty (by decide +kernel), show PySem.W.kitOne K (.type "str") (.type "list") = some false from kit_ty (by decide +kernel)⟩
  | _ => cases h
theorem int_dec (a b : Int) : decide ((V.int a) = V.int b) = decide (a = b) := decide_eq_decide.mpr ⟨fun z => by injection z, fun z => by rw [z]⟩
section
variable {P : Program} {w : World} {K : PySem.W.Frag} {mg : Str → Option Value} {base : Heap}
theorem ok_hasSignsG {f : Addr} {fd : FuncData} (F : Fun K "has_signs" "has_signs" s_has_signs f fd) (T : Bt mg) (zS : mg "str" = none) (zA : mg "all" = none) : FnOk P w K mg base CX0 1 f fd ["drawers", "value", "signs"] spSignsG := by
  refine F.ok scHS (fun vs H Q E h => ?_) (fun cdv A outer s H vs Q E hr h => ?_)
  · obtain ⟨n, v, z, rfl, _⟩ := h.h
    rfl
  · obtain ⟨n, v, z, rfl, hsc, h1000, k⟩ := h.h
    refine ⟨_, pss_cons (ps_if (PW.pt (pw_or (pt_not (pt_val (pe_callB call_isi (by rfl) T.isinstance (by decide +kernel) (pa_cons (pv 1) (pa_cons (pe_bltn (v := .ty "str") (by rfl) zS (by decide +kernel) rfl) pa_nil)))))
        (pw_or1 (pt_cmpR op_ne (pe_callB call_len_str (by rfl) T.len PySem.boot_len (pa_cons (pv 1) pa_nil)) (pv 0) (nomark _))))) (pss_one (ps_ret pe_bl)) pss_nil)
      (pss_one (ps_ret (pe_callB (cr_all rfl) (by rfl) zA boot_all_ (pa_cons
        (pe_lc (own := [("sign", 3)]) (g := gName 3) (tt := tYes) (by rfl) scHS.nd (pi_str (pv 1)) (blkOk_by (N := nHS) (sc := defScope s_has_signs) (by decide +kernel)) (fun _ _ _ _ _ => pg_name (i := 3) scHS.nd rfl (by first | exact Or.inl rfl | exact Or.inr rfl)) (fun _ _ _ _ _ => pts_nil)
          (fun _ _ _ _ _ => pe_cmpR op_in_sign (pv 3) (pv 2) (by rfl))) pa_nil)))), ?_⟩
    obtain ⟨t, ty, e1, _⟩ := sc_ty (K := K) (H := H) hsc
    cases v with
    | str y =>
      have ysz : y.length ≤ sizeLine := Nat.le_of_lt (small1000 (h1000 y rfl))
      refine ⟨_, rfl, _, _, t, _, true, rfl, .ty "str", ty, e1, _, rfl, iteF ?_⟩
      refine ⟨_, rfl, _, rfl, ysz, _, rfl, rfl, _, rfl, ?_⟩
      have ei := int_dec (y.length : Int) n
      show if (!decide ((V.int (y.length : Int)) = V.int n)) = true then _ else _
      rw [ei]
      cases en : decide ((y.length : Int) = n) with
      | false =>
        refine iteT ?_
        have := k H (Same.refl H)
        rw [sgn_str, en] at this
        exact this
      | true =>
        refine iteF ?_
        refine ⟨_, rfl, _, rfl, fun D hD => ?_⟩
        have hsz : y.cps.toList.length = y.cps.size := Array.length_toList
        have hyl : y.length = y.cps.size := rfl
        have := h1000 y rfl
        refine lc_pick walk_str y.cps.toList hsz (by omega) (fun _ => true) (fun c => V.bl (decide (c ∈ z.cps.toList))) hD (fun _ _ => trivial) ?_ ?_
        · rintro i x c H1 H1' Tk Nk ez s1 ⟨rfl, c', hc', rfl⟩ kT kF
          rw [Array.getElem?_toList, hc'] at ez
          cases ez
          refine ⟨rfl, tYes_of (iteT ?_)⟩
          exact ⟨_, rfl, _, rfl, _, z, rfl, rfl, kT _ rfl (Same.refl _)⟩
        · intro H1 s1 hD1
          rw [List.filter_eq_self.mpr fun _ _ => rfl] at hD1
          refine ⟨D, y.cps.toList.map fun c => decide (c ∈ z.cps.toList), rfl, SqL.of (by rw [hD1, List.map_map]; rfl), ?_⟩
          have := k H1 s1
          rw [sgn_str, en, Bool.true_and] at this
          have e9 : (y.cps.toList.map fun c => decide (c ∈ z.cps.toList)).all id = y.cps.toList.all fun c => decide (c ∈ z.cps.toList) := by rw [List.all_map]; rfl
          rw [e9]
          exact this
    | non => exact ⟨_, rfl, _, _, t, _, false, rfl, .ty "str", ty, e1, _, rfl, iteT (k H (Same.refl H))⟩
    | bl b => exact ⟨_, rfl, _, _, t, _, false, rfl, .ty "str", ty, e1, _, rfl, iteT (k H (Same.refl H))⟩
    | int i => exact ⟨_, rfl, _, _, t, _, false, rfl, .ty "str", ty, e1, _, rfl, iteT (k H (Same.refl H))⟩
    | _ => cases hsc
theorem ok_isStdG {f f1 : Addr} {fd fd1 : FuncData} (F : Fun K "is_standing" "is_standing" s_is_standing f fd) (G : FnOk P w K mg base CX0 1 f1 fd1 ["drawers", "value", "signs"] spSignsG) (g1 : mg "has_signs" = some (.ref f1)) (k1 : PySem.W.keepIn K (.ref f1) = true) (b1 : Binds K fd1 ["drawers", "value", "signs"] [])
    (gS : ∃ t, mg "STANDING_SIGNS" = some (.str "os" t)) : FnOk P w K mg base CX0 2 f fd ["drawers", "value"] spIsStdG := by
  refine F.ok scIsStd (fun vs H Q E h => ?_) (fun cdv A outer s H vs Q E hr h => ?_)
  · obtain ⟨n, v, rfl, _⟩ := h.h
    rfl
  · obtain ⟨n, v, rfl, hsc, h1000, k⟩ := h.h
    obtain ⟨tS, gS⟩ := gS
    refine ⟨_, pss_one (ps_ret (pe_call G (hr.mono (by decide)) rfl g1 k1 b1 .nil pass0 (pa_cons (pv 0) (pa_cons (pv 1) (pa_cons (pe_glob (v := .str "os") rfl gS ⟨_, rfl⟩) pa_nil))))), ?_⟩
    exact ⟨_, rfl, _, rfl, ⟨⟨n, v, _, rfl, hsc, h1000, k⟩⟩⟩
/-- a plain value told as a try: standing, drawer, whether it went -/
def tryB (n : Int) (x0 x1 x2 : V) : Bool := sgnB n "os" x0 && (isD n x1 && blB x2)
structure spIsTry (K : PySem.W.Frag) (vs : List V) (H : Hp) (Q : VK) (_ : XK) : Prop where
  h : ∃ (n : Int) (v : V), vs = [.int n, v] ∧ ((∃ t, TyX K H v t ∧ PySem.W.kitOne K t (.type "tuple") = some false ∧ Q (.bl false) H) ∨
    (∃ a xs, v = .ref a ∧ SqT K H a xs ∧ xs.length ≠ 3 ∧ Q (.bl false) H) ∨
    ∃ a x0 x1 x2, v = .ref a ∧ SqT K H a [x0, x1, x2] ∧ scV x0 = true ∧ scV x1 = true ∧ scV x2 = true ∧ (∀ y, x0 = .str y → y.length ≤ 1000) ∧ ∀ H', Same H H' → Q (.bl (tryB n x0 x1 x2)) H')
abbrev nIT : List Str := ["drawers", "value", "standing", "drawer", "went"]
end
end DL

set_option Elab.async false
set_option maxRecDepth 100000
namespace DL
open PySem L2 HT TL RZ
/-! ### sets of drawers -/
def ascB (ns : List Int) : Bool := (ns.zip (ns.drop 1)).all fun p => decide (p.1 < p.2)
def setB (n : Int) (xs : List V) : Bool := xs.all (isD n) && ascB (xs.map intOf)
structure spIsSet (K : PySem.W.Frag) (vs : List V) (H : Hp) (Q : VK) (_ : XK) : Prop where
  h : ∃ (n : Int) (v : V), vs = [.int n, v] ∧ ((∃ t : Value, TyX K H v t ∧ PySem.W.kitOne K t (.type "tuple") = some false ∧ Q (.bl false) H) ∨
    ∃ (a : Addr) (xs : List V), v = .ref a ∧ SqT K H a xs ∧ xs.length ≤ 1000 ∧ (∀ x ∈ xs, scV x = true) ∧ ∀ H', Same H H' → Q (.bl (setB n xs)) H')
theorem walk_zipT {K : PySem.W.Frag} {a b : Addr} {xs ys : List V} {n : Nat} (hn : n = min xs.length ys.length) : Walk (ItzT K a b) n (fun H => SqT K H a xs ∧ SqT K H b ys) (YPair (fun i => xs[i]?) (fun i => ys[i]?)) := by
  subst hn
  refine ⟨fun i _ hi q => ?_, fun _ q => ⟨xs, ys, q.1, q.2, by omega⟩, fun i H v H' _ q y => ?_⟩
  · have l1 : i < xs.length := by omega
    have l2 : i < ys.length := by omega
    exact ⟨xs, ys, xs[i], ys[i], q.1, q.2, List.getElem?_eq_getElem l1, List.getElem?_eq_getElem l2⟩
  · obtain ⟨T, x, z, e1, e2, e3, e4, e5⟩ := y
    exact ⟨T, x, z, e1, e2, e3, e4 xs q.1, e5 ys q.2⟩
theorem cut1_empty {xs : List V} : (HT.sIx xs.length 0 (some 1) = 0 ∧ HT.sIx xs.length xs.length none = xs.length) ↔ xs = [] := by
  rw [show (some (1 : Int)) = some ((1 : Nat) : Int) from rfl, HT.sIx_nat, HT.sIx_none]
  cases xs with
  | nil => simp
  | cons x xs => simp
theorem cut1 {xs : List V} : cutV xs (some 1) none = xs.drop 1 := by
  unfold cutV
  rw [show (some (1 : Int)) = some ((1 : Nat) : Int) from rfl, HT.sIx_nat, HT.sIx_none]
  cases xs with
  | nil => rfl
  | cons x xs => simp
theorem zip_pairs {ns : List Int} {i : Nat} {p : Int × Int} (h : (ns.zip (ns.drop 1))[i]? = some p) : (ns.map V.int)[i]? = some (.int p.1) ∧ ((ns.map V.int).drop 1)[i]? = some (.int p.2) := by
  rw [List.getElem?_zip_eq_some] at h
  rw [← List.map_drop, List.getElem?_map, List.getElem?_map, h.1, h.2]
  exact ⟨rfl, rfl⟩
theorem bl_all {α : Type} (l : List α) (f : α → Bool) : (l.map f).all id = l.all f := by rw [List.all_map]; rfl
section
variable {P : Program} {w : World} {K : PySem.W.Frag} {mg : Str → Option Value} {base : Heap}
abbrev nIS : List Str := ["drawers", "value", "drawer", "one", "other"]
theorem scIS : FnScope nIS ["drawers", "value"] (defScope s_is_set) := ⟨rfl, rfl, rfl, by decide +kernel, rfl, by decide +kernel, by decide +kernel⟩
theorem ok_isSet {f f1 : Addr} {fd fd1 : FuncData} (F : Fun K "is_set" "is_set" s_is_set f fd) (T : Bt mg) (zA : mg "all" = none) (zZ : mg "zip" = none) (G : FnOk P w K mg base CX0 2 f1 fd1 ["drawers", "value"] (spIsDrawer K)) (g1 : mg "is_drawer" = some (.ref f1)) (k1 : PySem.W.keepIn K (.ref f1) = true) (b1 : Binds K fd1 ["drawers", "value"] []) :
    FnOk P w K mg base CX0 4 f fd ["drawers", "value"] (spIsSet K) := by
  refine F.ok scIS (fun vs H Q E h => ?_) (fun cdv A outer s H vs Q E hr h => ?_)
  · obtain ⟨n, v, rfl, _⟩ := h.h
    rfl
  · obtain ⟨n, v, rfl, hv⟩ := h.h
    refine ⟨_, pss_cons (ps_if (PW.pt (pw_or (pt_not (pt_val (pe_callB call_isi (by rfl) T.isinstance (by decide +kernel) (pa_cons (pv 1) (pa_cons (pe_bltn (v := .ty "tuple") (by rfl) T.tuple (by decide +kernel) rfl) pa_nil)))))
        (pw_or1 (pt_not (pt_val (pe_callB (cr_all rfl) (by rfl) zA boot_all_ (pa_cons
          (pe_lc (own := [("drawer", 2)]) (g := gName 2) (tt := tYes) (by rfl) scIS.nd (pi_tup (pv 1)) (blkOk_by (N := nIS) (sc := defScope s_is_set) (by decide +kernel)) (fun _ _ _ _ _ => pg_name (i := 2) scIS.nd rfl (Or.inl rfl)) (fun _ _ _ _ _ => pts_nil)
            (fun _ _ _ _ _ => pe_call G (hr.mono (by decide)) rfl g1 k1 b1 .nil pass0 (pa_cons (pv 0) (pa_cons (pv 2) pa_nil)))) pa_nil))))))) (pss_one (ps_ret pe_bl)) pss_nil)
      (pss_one (ps_ret (pe_callB (cr_all rfl) (by rfl) zA boot_all_ (pa_cons
          (pe_lc (own := [("one", 3), ("other", 4)]) (g := gTup K 2 (gCons (gName 3) (gCons (gName 4) gNil))) (tt := tYes) (by rfl) scIS.nd (pi_zipA (by rfl) zZ (pa_cons (pv 1) (pa_cons (pe_slice sl_tupA (pv 1) (po_some pe_int) po_none) pa_nil))) (blkOk_by (N := nIS) (sc := defScope s_is_set) (by decide +kernel))
            (fun _ _ _ _ _ => pg_tupK (K := K) rfl rfl (pgs_cons (pg_name (i := 3) scIS.nd rfl (Or.inl rfl)) (pgs_cons (pg_name (i := 4) scIS.nd rfl (Or.inl rfl)) pgs_nil))) (fun _ _ _ _ _ => pts_nil)
            (fun _ _ _ _ _ => pe_cmpR op_lt (pv 3) (pv 4) (nomark _))) pa_nil)))), ?_⟩
    rcases hv with ⟨t, hty, hk, k⟩ | ⟨a, xs, rfl, S, hlen, hsc, k⟩
    · exact ⟨_, rfl, _, _, t, _, false, rfl, .ty "tuple", hty, hk, _, rfl, iteT k⟩
    · refine ⟨_, rfl, _, _, _, _, true, rfl, .ty "tuple", tyT S, kit_ty (by decide +kernel), _, rfl, iteF ?_⟩
      refine ⟨_, rfl, a, rfl, ⟨_, S⟩, fun D hD => ?_⟩
      refine lc_pick (walk_tup (K := K) (a := a) (xs := xs)) xs rfl (by omega) (fun _ => true) (fun x => V.bl (isD n x)) hD (fun H' s1 => SqT.same s1 S) ?_ ?_
      · rintro i x z H1 H1' Tk Nk ez s1 ⟨rfl, ex⟩ kT kF
        have ex : xs[i]? = some x := ex
        rw [ez] at ex
        cases ex
        refine ⟨rfl, tYes_of (iteT ?_)⟩
        refine ⟨_, rfl, _, rfl, ?_⟩
        exact spIsDrawer_sc (hsc _ (List.mem_of_getElem? ez)) (kT _ rfl (Same.refl _))
      · intro H1 s1 hD1
        rw [List.filter_eq_self.mpr fun _ _ => rfl] at hD1
        refine ⟨D, xs.map (isD n), rfl, SqL.of (by rw [hD1, List.map_map]; rfl), _, rfl, ?_⟩
        rw [bl_all]
        cases ea : xs.all (isD n) with
        | false =>
          refine iteT ?_
          have := k H1 s1
          unfold setB at this
          rw [ea] at this
          exact this
        | true =>
          refine iteF ?_
          obtain ⟨e1, e2⟩ := ints_of ea
          have S1 := SqT.same s1 S
          have fin : ∀ (H2 : Hp) (b : Addr) (Qf : VK), Same H H2 → SqT K H2 b (xs.drop 1) → (∀ H3, Same H2 H3 → Qf (.bl (ascB (xs.map intOf))) H3) →
              lcC (ItzT K a b) (gTup K 2 (gCons (gName 3) (gCons (gName 4) gNil))) tYes (tOp (rI0 fun i j => V.bl (decide (i < j))) (tVar 3) (tVar 4)) [3, 4] (L2.start nIS [.int n, .ref a]) (fun v H3 => rAll K [v] H3 Qf) H2 := by
            intro H2 b Qf s2 Sb kq D2 hD2
            have Sa := SqT.same s2 S
            have hl : ((xs.map intOf).zip ((xs.map intOf).drop 1)).length = min xs.length (xs.drop 1).length := by rw [List.length_zip, List.length_drop, List.length_map, List.length_drop]
            refine lc_pick (walk_zipT (K := K) (a := a) (b := b) (xs := xs) (ys := xs.drop 1) rfl) ((xs.map intOf).zip ((xs.map intOf).drop 1)) hl (by rw [List.length_drop]; omega) (fun _ => true) (fun p => V.bl (decide (p.1 < p.2))) hD2 (fun H' s3 => ⟨SqT.same s3 Sa, SqT.same s3 Sb⟩) ?_ ?_
            · rintro i x p H3 H3' Tk Nk ep s3 ⟨T, u, v, rfl, hT, rfl, eu, ev⟩ kT kF
              obtain ⟨p1, p2⟩ := zip_pairs ep
              rw [← e1] at p1 p2
              have eu : xs[i]? = some u := eu
              have ev : (xs.drop 1)[i]? = some v := ev
              rw [p1] at eu
              rw [p2] at ev
              cases eu
              cases ev
              refine ⟨T, _, rfl, SqT.of' upd_same, rfl, _, _, rfl, _, _, rfl, rfl, rfl, tYes_of (iteT ?_)⟩
              exact ⟨_, rfl, _, rfl, _, _, rfl, rfl, kT _ rfl (same_upd hT)⟩
            · intro H3 s3 hD3
              rw [List.filter_eq_self.mpr fun _ _ => rfl] at hD3
              refine ⟨D2, ((xs.map intOf).zip ((xs.map intOf).drop 1)).map fun p => decide (p.1 < p.2), rfl, SqL.of (by rw [hD3, List.map_map]; rfl), ?_⟩
              rw [bl_all]
              exact kq H3 s3
          have kk : ∀ H3, Same H H3 → Q (.bl (ascB (xs.map intOf))) H3 := fun H3 s3 => by
            have := k H3 s3
            unfold setB at this
            rw [ea] at this
            exact this
          refine ⟨_, rfl, _, rfl, _, rfl, a, xs, rfl, S1, fun hw => ?_, fun hw p hp => ?_⟩
          · have hx : xs = [] := cut1_empty.mp hw
            exact ⟨a, a, xs, xs, rfl, .inr ⟨S1, S1, fin H1 a Q s1 (by rw [hx] at S1 ⊢; exact S1) fun H3 s3 => kk H3 (s1.trans s3)⟩⟩
          · have s2 := same_upd (o := .tup (cutV xs (some 1) none)) hp
            exact ⟨a, p, xs, cutV xs (some 1) none, rfl, .inr ⟨SqT.same s2 S1, SqT.of' upd_same, fin _ p Q (s1.trans s2) (by rw [← cut1]; exact SqT.of' upd_same) fun H3 s3 => kk H3 ((s1.trans s2).trans s3)⟩⟩
end
/-- in no heap from here on a set of so many drawers -/
def NoSet (K : PySem.W.Frag) (H : Hp) (n : Int) (v : V) : Prop := (∃ t : Value, TyX K H v t ∧ PySem.W.kitOne K t (.type "tuple") = some false) ∨
  ∃ (a : Addr) (xs : List V), v = .ref a ∧ SqT K H a xs ∧ xs.length ≤ 1000 ∧ (∀ x ∈ xs, scV x = true) ∧ setB n xs = false
/-- a set: its drawers stand at a -/
structure SetAt (K : PySem.W.Frag) (H : Hp) (n : Int) (a : Addr) (ns : List Int) : Prop where
  at' : SqT K H a (ns.map V.int)
  low : ∀ d ∈ ns, 0 ≤ d ∧ d < n
  asc : ns.Pairwise (· < ·)
theorem SetAt.same {K : PySem.W.Frag} {H H' : Hp} {n : Int} {a : Addr} {ns : List Int} (S : SetAt K H n a ns) (s : Same H H') : SetAt K H' n a ns := ⟨SqT.same s S.at', S.low, S.asc⟩
theorem asc_pw : ∀ {ns : List Int}, ns.Pairwise (· < ·) → ascB ns = true := by
  intro ns h
  unfold ascB
  rw [List.all_eq_true]
  intro p hp
  obtain ⟨i, hi⟩ := List.getElem?_of_mem hp
  rw [List.getElem?_zip_eq_some] at hi
  obtain ⟨h1, h2⟩ := hi
  rw [List.getElem?_drop] at h2
  obtain ⟨l1, e1⟩ := List.getElem?_eq_some_iff.mp h1
  obtain ⟨l2, e2⟩ := List.getElem?_eq_some_iff.mp h2
  have := List.pairwise_iff_getElem.mp h i (1 + i) l1 l2 (by omega)
  rw [e1, e2] at this
  exact decide_eq_true this
theorem setB_ints {n : Int} {ns : List Int} (hl : ∀ d ∈ ns, 0 ≤ d ∧ d < n) (ha : ns.Pairwise (· < ·)) : setB n (ns.map V.int) = true := by
  unfold setB
  have e : (ns.map V.int).map intOf = ns := by
    rw [List.map_map]
    exact List.map_id ns
  rw [e, asc_pw ha, Bool.and_true, List.all_eq_true]
  intro x hx
  obtain ⟨d, hd, rfl⟩ := List.mem_map.mp hx
  obtain ⟨d0, d1⟩ := hl d hd
  show (decide (0 ≤ d) && decide (d < n)) = true
  rw [decide_eq_true d0, decide_eq_true d1]
  rfl
theorem pw_low_len {n : Nat} {ns : List Int} (hl : ∀ d ∈ ns, 0 ≤ d ∧ d < n) (ha : ns.Pairwise (· < ·)) : ns.length ≤ n := by
  have nd : ns.Nodup := ha.imp fun h => by omega
  have hs : ∀ d ∈ ns, d ∈ drs n := fun d hd => by
    obtain ⟨d0, d1⟩ := hl d hd
    unfold drs
    exact List.mem_map.mpr ⟨d.toNat, List.mem_range.mpr (by omega), by omega⟩
  have := nd.length_le_of_subset hs
  rw [drs_len] at this
  exact this
structure spCkSet (K : PySem.W.Frag) (C : Addr) (vs : List V) (H : Hp) (Q : VK) (_ : XK) : Prop where
  h : ∃ (c a : Addr) (n : Nat) (t : Addr) (ns : List Int), vs = [.ref c, .ref a] ∧ CabAt C H c n t ∧ n ≤ 7 ∧ SetAt K H n a ns ∧ ∀ H', Same H H' → Q .non H'
structure spCkSetX (K : PySem.W.Frag) (C CS : Addr) (vs : List V) (H : Hp) (Q : VK) (E : XK) : Prop where
  h : ∃ (c : Addr) (v : V) (n : Int) (t : Addr), vs = [.ref c, v] ∧ CabAt C H c n t ∧ NoSet K H n v ∧ ∀ H', Same H H' → E (.ref CS) none H'
section
variable {P : Program} {w : World} {K : PySem.W.Frag} {mg : Str → Option Value} {base : Heap}
theorem scCkS : FnScope ["cabinet", "some"] ["cabinet", "some"] (defScope s_check_set) := ⟨rfl, rfl, rfl, by decide +kernel, rfl, by decide +kernel, by decide +kernel⟩
theorem ok_ckSet {f f1 C : Addr} {fd fd1 : FuncData} (F : Fun K "check_set" "check_set" s_check_set f fd) (CP : CabP P w K mg base C) (G : FnOk P w K mg base CX0 4 f1 fd1 ["drawers", "value"] (spIsSet K)) (g1 : mg "is_set" = some (.ref f1)) (k1 : PySem.W.keepIn K (.ref f1) = true) (b1 : Binds K fd1 ["drawers", "value"] []) :
    FnOk P w K mg base CX0 6 f fd ["cabinet", "some"] (spCkSet K C) := by
  refine F.ok scCkS (fun vs H Q E h => ?_) (fun cdv A outer s H vs Q E hr h => ?_)
  · obtain ⟨c, a, n, t, ns, rfl, _⟩ := h.h
    rfl
  · obtain ⟨c, a, n, t, ns, rfl, ⟨dx, hc⟩, n7, S, k⟩ := h.h
    obtain ⟨pD, gD, fdD, hpD, GD, bD⟩ := CP.d
    refine ⟨_, pss_one (ps_if (pt_not (pt_val (pe_call G (hr.mono (by decide)) rfl g1 k1 b1 .nil pass0 (pa_cons (pe_prop (pv 0) CP.cl hpD GD (hr.mono (by decide)) bD .nil pass0 rfl) (pa_cons (pv 1) pa_nil))))) (pss_one ps_never) pss_nil), ?_⟩
    have hl := pw_low_len S.low S.asc
    refine ⟨_, rfl, c, dx, _, rfl, hc, ⟨⟨c, dx, _, t, rfl, hc, _, rfl, ⟨⟨n, _, rfl, .inr ⟨a, _, rfl, S.at', by rw [List.length_map]; omega, fun x hx => ?_, fun H' s1 => ⟨_, rfl, ?_⟩⟩⟩⟩⟩⟩⟩
    · obtain ⟨d, _, rfl⟩ := List.mem_map.mp hx
      rfl
    · rw [setB_ints S.low S.asc]
      exact iteF (k H' s1)
theorem ok_ckSetX {f f1 C CS : Addr} {fd fd1 : FuncData} (F : Fun K "check_set" "check_set" s_check_set f fd) (CP : CabP P w K mg base C) (BT : ErrT K mg "BadSet" CS) (G : FnOk P w K mg base CX0 4 f1 fd1 ["drawers", "value"] (spIsSet K)) (g1 : mg "is_set" = some (.ref f1)) (k1 : PySem.W.keepIn K (.ref f1) = true) (b1 : Binds K fd1 ["drawers", "value"] []) :
    FnOk P w K mg base (L2.CX P w) 6 f fd ["cabinet", "some"] (spCkSetX K C CS) := by
  refine F.okX scCkS (fun vs H Q E h => ?_) (fun cdv A outer s H vs Q E hr h => ?_)
  · obtain ⟨c, v, n, t, rfl, _⟩ := h.h
    rfl
  · obtain ⟨c, v, n, t, rfl, ⟨dx, hc⟩, hv, k⟩ := h.h
    obtain ⟨pD, gD, fdD, hpD, GD, bD⟩ := CP.d
    refine ⟨_, pss_one (ps_if (pt_not (pt_val (pe_call G (hr.mono (by decide)) rfl g1 k1 b1 .nil pass0 (pa_cons (pe_prop (pv 0) CP.cl hpD GD (hr.mono (by decide)) bD .nil pass0 rfl) (pa_cons (pv 1) pa_nil)))))
      (pss_one (ps_raise rfl (takes_of rfl rfl rfl rfl) (pmk_own PySem.F.excBase_ValueError BT.x BT.g BT.k (raises_own BT.b BT.t) (by exact rfl)))) pss_nil), ?_⟩
    refine ⟨_, rfl, c, dx, _, rfl, hc, ⟨⟨c, dx, _, t, rfl, hc, _, rfl, ⟨⟨n, _, rfl, ?_⟩⟩⟩⟩⟩
    rcases hv with ⟨ty, h1, h2⟩ | ⟨a, xs, rfl, S, hl, hsc, hf⟩
    · exact .inl ⟨ty, h1, h2, _, rfl, iteT (k H (Same.refl H))⟩
    · refine .inr ⟨a, xs, rfl, S, hl, hsc, fun H' s1 => ⟨_, rfl, ?_⟩⟩
      rw [hf]
      exact iteT (k H' s1)
end
end DL

set_option Elab.async false
set_option maxRecDepth 100000
namespace DL
open PySem PySem.Spec PyProof.Rows L2
/-! ### f(e, ..), f an expression that gives one of some defs -/
structure FnE (X : Cx) (CX : CXT) (k : Nat) (f : Addr) (sp : Sp) : Prop where
  ex : ∃ (fd : FuncData) (ps : List Str), FnOk X.prog X.w X.K X.mg X.base CX k f fd ps sp ∧ PySem.W.keepIn X.K (.ref f) = true ∧ Binds X.K fd ps []
def tCallE (S : List (Addr × Sp)) (E : L2.St → XK) (tf : TE) (t : TA) : TE := fun σ H Q => tf σ H fun y H1 => ∃ (f : Addr) (sp : Sp), (f, sp) ∈ S ∧ y = .ref f ∧ t σ H1 fun vs H2 => sp vs H2 Q (E σ)
section
variable {X : Cx} {CX : CXT} {k : Nat} {S : List (Addr × Sp)} {E : L2.St → XK} {pos : Pos} {fe e : Expr} {es : List Expr} {tf : TE} {t : TA}
theorem pe_callE (hf : PE X fe tf) (HS : ∀ q ∈ S, FnE X CX k q.1 q.2) (room : Room k X.A) (pas : ∀ σ, PassesAt CX X σ (E σ)) (ar : PA X (e :: es) t)
    (tr : eval (.Call fe (e :: es) [] pos) X.env = (do callWith pos (← eval fe X.env) [] (backTo pos (starEach (e :: es) X.env)) (backToKw pos (keywordEach [] X.env))) := by rfl)
    (sta : starEach (e :: es) X.env = (false, eval e X.env) :: starEach es X.env := by rfl) (pla : (backTo pos (starEach es X.env)).any (·.1) = false := by rfl) : PE X (.Call fe (e :: es) [] pos) (tCallE S E tf t) := by
  refine ⟨fun pins s0 σ H Q I0 rd => ?_⟩
  refine Call_ (thn (hf.run pins s0 σ H _ I0 rd) fun u s1 ⟨y, H1, I1, ry, f, sp, hm, ey, q⟩ => ?_) tr
  subst ey
  obtain rfl : u = Value.ref f := ry
  obtain ⟨fd, ps, F, hk, hb⟩ := (HS _ hm).ex
  refine PySem.W.callWith_K (h₀ := X.base) I1.ok.mod.kin hk (thn (ar.run pos pins s1 σ H1 _ I1 q) fun us s2 ⟨vs, H2, I2, r, q2⟩ => ⟨I2.kIn, ?_⟩) sta pla
  exact run_fnS F room hb (pas σ) I2 r q2
end
end DL

set_option Elab.async false
set_option maxRecDepth 100000
set_option maxHeartbeats 1000000
namespace DL
open PySem PySem.Spec PyProof.Rows L2
/-! ### several clauses, with or without a name for the error -/
abbrev ClA := Value × Option Nat × (Addr → Value → Option Addr → TS)
def offI (i : Nat) (D : Ends) : Ends := { nx := fun σ H => D.nx (σ.set i none) H, rt := D.rt, bk := fun σ H => D.bk (σ.set i none) H, ct := fun σ H => D.ct (σ.set i none) H }
def runA (ts : Addr → Value → Option Addr → TS) (o : Option Nat) (a : Addr) (cls : Value) (d : Option Addr) (D : Ends) (σ : L2.St) (H : Hp) : Prop :=
  match o with
  | none => ts a cls d D σ H
  | some i => ts a cls d (offI i D) (σ.set i (some (.ref a))) H
def wAny (K : PySem.W.Frag) (Wout : WX) (D : Ends) : List ClA → WX
  | [] => Wout
  | (c, o, ts) :: r => fun cls d σ H => ∃ b, PySem.W.exmOne K cls c = some b ∧ (b = true → ∀ a, H a = none → runA ts o a cls d D σ H) ∧ (b = false → wAny K Wout D r cls d σ H)
inductive ClsA (X : Cx) : List ExceptHandler → List ClA → Prop
  | nil : ClsA X [] []
  | plain {x : Str} {c : Value} {ts : Addr → Value → Option Addr → TS} {b₀ : Stmt} {suite : List Stmt} {np pos' : Pos} {hds : List ExceptHandler} {l : List ClA} (hc : Names X x c)
      (su : ∀ (a : Addr) (oe : Obj) (cls : Value) (d : Option Addr) (pn : List (Addr × Obj)), Zc cls d oe → (∃ vs, oe.data = .fields vs) → PSs (X.suite a ((a, oe) :: pn)) (b₀ :: suite) (ts a cls d)) (r : ClsA X hds l) :
      ClsA X (.ExceptHandler (some (.Name x np)) none (b₀ :: suite) pos' :: hds) ((c, none, ts) :: l)
  | named {x n : Str} {i : Nat} {c : Value} {ts : Addr → Value → Option Addr → TS} {b₀ : Stmt} {suite : List Stmt} {np pos' : Pos} {hds : List ExceptHandler} {l : List ClA} (hN : X.N.Nodup) (hi : X.N[i]? = some n) (hln : X.env.kindOf n = some .local) (hc : Names X x c)
      (su : ∀ (a : Addr) (oe : Obj) (cls : Value) (d : Option Addr) (pn : List (Addr × Obj)), Zc cls d oe → (∃ vs, oe.data = .fields vs) → PSs (X.suite a ((a, oe) :: pn)) (b₀ :: suite) (ts a cls d)) (r : ClsA X hds l) :
      ClsA X (.ExceptHandler (some (.Name x np)) (some n) (b₀ :: suite) pos' :: hds) ((c, some i, ts) :: l)
section
variable {X : Cx} {body : List Stmt} {k₀ : ExceptHandler} {ks : List ExceptHandler} {l : List ClA} {pos : Pos} {tb : WX → TS} {Wout : WX}
theorem ps_try_any (hst : X.stack = X.env :: X.outer) (hfr : X.env.frame = some X.env.locals) (tk : Takes X Wout)
    (hbd : ∀ (W : WX) (pn : List (Addr × Obj)) (xe : Value → Shared → Prop), Takes (X.tr pn xe) W → PassesOwn (model X.prog X.w) X.A X.env xe → PSs (X.tr pn xe) body (tb W))
    (hcl : ClsA X (k₀ :: ks) l) : PS X (.Try body (k₀ :: ks) [] [] pos) (fun D σ H => tb (wAny X.K Wout D l) D σ H) := by
  refine ⟨fun pins s σ H D I rd => ?_⟩
  have okX := I.ok
  have afr : X.A.frames = some (X.env :: X.outer) := by rw [okX.frames, hst]
  have nom : ∀ {x : Str} {c : Value} {a : Addr} {oe : Obj} {σ' : L2.St} {H' : Hp} {s' : Shared} {Q : Value → Shared → Prop} {E : Value → Shared → Prop} {np : Pos}, Names X x c → Inv (X.suite a ((a, oe) :: (X.pn ++ pins))) [] σ' H' s' → Q c s' → wpAny (model X.prog X.w) (X.A.mark (some (.ref a))) (eval (.Name x np) X.env) Q E s' :=
    fun {x c a oe σ' H' s' Q E np} nm Sv q => by
      obtain ⟨gl, ndb, mm | ⟨mm, bo, nn⟩⟩ := nm
      · exact ld_glob (X := X.suite a ((a, oe) :: (X.pn ++ pins))) Sv gl mm q ndb
      · exact ld_blt (X := X.suite a ((a, oe) :: (X.pn ++ pins))) Sv gl mm bo q nn ndb
  refine wpAny_Try_except ?_
  refine wpAny_mono ((hbd (wAny X.K Wout D l) (X.pn ++ pins) (fun ev sA => wpAny (model X.prog X.w) X.A (noteFrame ev X.env) (fun _ sB => wpAny (model X.prog X.w) X.A (setFlight ev none) (fun _ sC => wpAny (model X.prog X.w) X.A (handleBy ev X.env (k₀ :: ks)) (SP X pins D) X.xe sC) X.xe sB) X.xe sA)
    (fun u s' cx => ?_) PassesOwn.looking).run [] s σ H D (I.toTry _) rd) (fun fl sE ends => ?_) (fun ev sE z => z)
  · obtain ⟨a, B, sI, pinsT, σT, HT, cls, d, rfl, Jt, nb, grow, inAir, free, osE, bareE, wish⟩ := cx
    have Jx : Inv X pins σT HT sI := Jt.ofTry okX
    have air : Sky B (X.env :: X.outer) a (Zc cls d) X.env.locals s'.heap := by rw [← hst]; exact inAir
    show wpAny (model X.prog X.w) X.A (noteFrame (.ref a) X.env) _ _ _
    refine Sky.land Zc.steady afr hfr air fun hA flA upA => ?_
    have JA : Inv X pins σT HT { s' with heap := hA } := Jx.landed nb flA.1 (grow.trans upA) osE bareE
    obtain ⟨oA, vA, getA, zcA, dataA⟩ := flA.there
    have apart : a ∉ frs (X.env :: X.outer) := fun mm => by
      obtain ⟨_, oB, getB, isF⟩ := flA.2.2.1.mem mm
      rw [getA] at getB
      cases getB
      exact isF _ dataA
    have ne1 : a ≠ X.env.locals := fun z => apart (List.mem_filterMap.mpr ⟨X.env, List.mem_cons_self, by rw [hfr, z]⟩)
    have ne2 : a ∉ X.fs := fun mm => by
      obtain ⟨en, hen, q⟩ := List.mem_filterMap.mp mm
      exact apart (List.mem_filterMap.mpr ⟨en, List.mem_cons_of_mem _ hen, q⟩)
    have SA := JA.suite getA dataA free ne1 ne2
    have tyA : PySem.W.Looks (model X.prog X.w) hA (typeOf (.ref a)) cls := fun A Q E s k q => wpAny_typeOf_ref (k _ _ getA) (by rw [zcA.1]; exact q)
    have walk : ∀ {hds : List ExceptHandler} {cl : List ClA}, ClsA X hds cl → wAny X.K Wout D cl cls d σT HT → wpAny (model X.prog X.w) X.A (handleBy (.ref a) X.env hds) (SP X pins D) X.xe { s' with heap := hA } := by
      intro hds cl hk
      induction hk with
      | nil =>
        intro wsh
        refine wpAny_handleBy_nil ?_
        obtain ⟨f1, f2, f3, oe, vs, T, oT, ts', fe, fz, fd, f4, fr⟩ := id flA
        unfold PySem.passOn
        refine wpAny_bind (wpAny_field fe fd f4 ?_)
        rw [if_neg (show ¬ ((Value.ref T == Value.none) = true) from by simp)]
        have out : wpAny (model X.prog X.w) X.A (setFlight (.ref a) X.env.frame) (fun _ sD => wpAny (model X.prog X.w) X.A (throw (.ref a) : Sem Flow) (SP X pins D) X.xe sD) X.xe { s' with heap := hA } := by
          rw [hfr]
          refine HandSPX.setFlight_upZ flA fun hB inB upB => wpAny_throw (tk _ _ ?_)
          exact ⟨a, B, sI, pins, σT, HT, cls, d, rfl, Jx, nb, (grow.trans upA).trans upB, .inr (.inr (by rw [hst]; exact inB)), free, osE, bareE, wsh⟩
        first
          | exact wpAny_bind (wpAny_pure (wpAny_bind out))
          | exact wpAny_bind out
      | @plain x c ts b₀ suite np pos' hds2 l2 hc su r ih =>
        intro wsh
        obtain ⟨b, mt, yes, no⟩ := wsh
        refine wpAny_handleBy_cons (codeAny_handlers_test ?_) (by intro z; cases z)
        have lm := PySem.W.exm_one (M := model X.prog X.w) (JA.kIn) tyA mt
        refine nom hc SA (lm.here ?_)
        cases b with
        | false =>
          show wpAny _ X.A (handleBy (.ref a) X.env hds2) _ _ _
          exact ih (no rfl)
        | true =>
          refine codeAny_handlers_suite ?_
          refine HandSPX.lands_againZ flA fun hB flB upB => ?_
          have JB : Inv X pins σT HT { s' with heap := hB } := Jx.landed nb flB.1 ((grow.trans upA).trans upB) osE bareE
          obtain ⟨oB, vB, getB, zcB, dataB⟩ := flB.there
          have SB := JB.suite getB dataB free ne1 ne2
          refine wpAny_mono ((su a oB cls d (X.pn ++ pins) zcB ⟨_, dataB⟩).run [] _ _ HT _ SB (yes rfl a free)) (fun fl sE ends => ?_) (fun _ _ z => False.elim z)
          cases fl with
          | next => exact let ⟨_, _, Sx, qx⟩ := ends; ⟨_, _, Sx.unsuite okX, qx⟩
          | brk => exact let ⟨_, _, Sx, qx⟩ := ends; ⟨_, _, Sx.unsuite okX, qx⟩
          | cont => exact let ⟨_, _, Sx, qx⟩ := ends; ⟨_, _, Sx.unsuite okX, qx⟩
          | ret u => exact let ⟨_, _, _, Sx, rx, qx⟩ := ends; ⟨_, _, _, Sx.unsuite okX, rx, qx⟩
      | @named x n i c ts b₀ suite np pos' hds2 l2 hN hi hln hc su r ih =>
        intro wsh
        obtain ⟨b, mt, yes, no⟩ := wsh
        refine wpAny_handleBy_cons (codeAny_handlers_test ?_) (by intro z; cases z)
        have lm := PySem.W.exm_one (M := model X.prog X.w) (JA.kIn) tyA mt
        refine nom hc SA (lm.here ?_)
        cases b with
        | false =>
          show wpAny _ X.A (handleBy (.ref a) X.env hds2) _ _ _
          exact ih (no rfl)
        | true =>
          refine codeAny_handlers_suite_as ?_
          refine HandSPX.lands_againZ flA fun hB flB upB => ?_
          have JB : Inv X pins σT HT { s' with heap := hB } := Jx.landed nb flB.1 ((grow.trans upA).trans upB) osE bareE
          obtain ⟨oB, vB, getB, zcB, dataB⟩ := flB.there
          have SB := JB.suite getB dataB free ne1 ne2
          refine store_ok (X := X.suite a ((a, oB) :: (X.pn ++ pins))) (v := .ref a) SB hN hi (.inl hln) rfl (fun sF SF => ?_) (.inr hln)
          refine wpAny_mono ((su a oB cls d (X.pn ++ pins) zcB ⟨_, dataB⟩).run [] sF _ HT _ SF (yes rfl a free)) (fun fl sE ends => ?_) (fun _ _ z => False.elim z)
          cases fl with
          | next => exact let ⟨_, _, Sx, qx⟩ := ends; gone_ok (Sx.unsuite okX) hN hi hln fun _ Jz => ⟨_, _, Jz, qx⟩
          | brk => exact let ⟨_, _, Sx, qx⟩ := ends; gone_ok (Sx.unsuite okX) hN hi hln fun _ Jz => ⟨_, _, Jz, qx⟩
          | cont => exact let ⟨_, _, Sx, qx⟩ := ends; gone_ok (Sx.unsuite okX) hN hi hln fun _ Jz => ⟨_, _, Jz, qx⟩
          | ret u => exact let ⟨_, _, _, Sx, rx, qx⟩ := ends; gone_ok (Sx.unsuite okX) hN hi hln fun _ Jz => ⟨_, _, _, Jz, rx, qx⟩
    exact walk hcl wish
  · cases fl with
    | next => exact let ⟨_, _, Jz, qx⟩ := ends; wpAny_execs_nil ⟨_, _, Jz.ofTry okX, qx⟩
    | brk => exact let ⟨_, _, Jz, qx⟩ := ends; ⟨_, _, Jz.ofTry okX, qx⟩
    | cont => exact let ⟨_, _, Jz, qx⟩ := ends; ⟨_, _, Jz.ofTry okX, qx⟩
    | ret u => exact let ⟨_, _, _, Jz, rx, qx⟩ := ends; ⟨_, _, _, Jz.ofTry okX, rx, qx⟩
end
end DL

set_option Elab.async false
set_option maxRecDepth 100000
set_option maxHeartbeats 1000000
namespace DL
open PySem PySem.Spec PyProof.Rows L2
/-! ### C(..) in a try -/
def tMkS (C : Addr) (sp : Sp) (E : L2.St → XK) (t : TA) : TE := fun σ H Q => t σ H fun vs H1 => ∀ x dx, H1 x = none → H1 dx = none → dx ≠ x → sp (.ref x :: vs) (upd (upd H1 dx (.own x)) x (.ins C dx [])) (fun v H2 => v = .non ∧ Q (.ref x) H2) (E σ)
section
variable {X : Cx} {CX : CXT} {k : Nat} {f C : Addr} {fd : FuncData} {ps : List Str} {sp : Sp} {E : L2.St → XK} {x : Str} {p pos : Pos} {e : Expr} {es : List Expr} {t : TA}
theorem pe_mkS (M : Mk X.K C f) (F : FnOk X.prog X.w X.K X.mg X.base CX k f fd ps sp) (room : Room (k + 1) X.A) (gl : Gl X x) (gC : X.mg x = some (.ref C)) (bi : Binds X.K fd ps []) (pas : ∀ σ, PassesAt CX X σ (E σ)) (ar : PA X (e :: es) t)
    (ndb : (x == ("__debug__" : Str)) = false := by decide) (sta : starEach (e :: es) X.env = (false, eval e X.env) :: starEach es X.env := by rfl) (pla : (backTo pos (starEach es X.env)).any (·.1) = false := by rfl) : PE X (.Call (.Name x p) (e :: es) [] pos) (tMkS C sp E t) := by
  refine ⟨fun pins s0 σ H Q I0 rd => ?_⟩
  refine wpAny_Call_Name_kw (ld_glob I0 gl gC ?_ ndb)
  refine PySem.W.callWith_K (h₀ := X.base) I0.ok.mod.kin M.kp (thn (ar.run pos pins s0 σ H _ I0 rd) fun us s ⟨vs, H1, I, rv, mk⟩ => ⟨I.kIn, ?_⟩) sta pla
  have wish := mk (s.heap.objs.size + 1) s.heap.objs.size (I.hok.fresh (Nat.le_succ _)) (I.hok.fresh (Nat.le_refl _)) (Nat.ne_of_lt (Nat.lt_succ_self _))
  have Im := Inv.made (C := C) I
  have rm : Vals (V.ref (s.heap.objs.size + 1) :: vs) (Value.ref (s.heap.objs.size + 1) :: us) := .cons rfl rv
  have le : (Value.ref (s.heap.objs.size + 1) :: us).length = ps.length := by
    rw [← rm.length]
    exact F.len _ _ _ _ wish
  have bn := bi _ (Value.ref (s.heap.objs.size + 1) :: us) Im.kIn (by rw [List.append_nil]; exact le)
  rw [List.append_nil] at bn
  refine wpAny_call (make_map (f := f) I.kIn M.makes M.init (beq_iff_eq.mp M.fn) (codeAny_mono (F.run _ X.stack _ _ ⟨Value.ref (s.heap.objs.size + 1) :: us, []⟩ (Value.ref (s.heap.objs.size + 1) :: us) _ _ (E σ) (room.make C us []) (Im.env0.make C us []) bn rm wish) fun res s' fin => ?_))
  cases res with
  | error ev => exact pas σ pins _ _ ev s' Im fin
  | ok fl =>
    cases fl with
    | ret u =>
      obtain ⟨v, H', Ia, ru, ev, qq⟩ := Im.after fin
      subst ev
      exact ⟨ru, ⟨V.ref (s.heap.objs.size + 1), H', Ia, rfl, qq⟩⟩
    | next => exact fin.elim
    | brk => exact fin.elim
    | cont => exact fin.elim
end
end DL

set_option Elab.async false
set_option maxRecDepth 100000
set_option maxHeartbeats 1000000
namespace DL
open PySem L2 HT TL
/-! ### standings, patterns, drawers, lengths that are refused, whatever they are -/
def NoStr (K : PySem.W.Frag) (H : Hp) (v : V) : Prop := ∃ t, (∀ H', Same H H' → TyX K H' v t) ∧ PySem.W.kitOne K t (.type "str") = some false
def BadSgn (K : PySem.W.Frag) (z : Str) (H : Hp) (n : Int) (v : V) : Prop := NoStr K H v ∨ ∃ y, v = .str y ∧ y.length ≤ 1000 ∧ sgnB n z (.str y) = false
def GoodSgn (z : Str) (n : Int) (v : V) : Prop := ∃ y, v = .str y ∧ y.length ≤ 1000 ∧ sgnB n z (.str y) = true
def BadDrw (n : Int) (v : V) : Prop := scV v = true ∧ isD n v = false
theorem BadSgn.same {K : PySem.W.Frag} {z : Str} {H H' : Hp} {n : Int} {v : V} (h : BadSgn K z H n v) (s : Same H H') : BadSgn K z H' n v := by
  rcases h with ⟨t, h1, h2⟩ | h
  · exact .inl ⟨t, fun H2 s2 => h1 H2 (s.trans s2), h2⟩
  · exact .inr h
theorem CabAt.sameI {C : Addr} {H H' : Hp} {c : Addr} {n : Int} {t : Addr} (h : CabAt C H c n t) (s : Same H H') : CabAt C H' c n t := by
  obtain ⟨dx, hc⟩ := h
  exact ⟨dx, s _ _ hc⟩
structure spSgn3 (K : PySem.W.Frag) (vs : List V) (H : Hp) (Q : VK) (_ : XK) : Prop where
  h : ∃ (n : Int) (v : V) (z : Str), vs = [.int n, v, .str z] ∧ ((BadSgn K z H n v ∧ ∀ H', Same H H' → Q (.bl false) H') ∨ (GoodSgn z n v ∧ ∀ H', Same H H' → Q (.bl true) H'))
structure spSgn2 (K : PySem.W.Frag) (z : Str) (vs : List V) (H : Hp) (Q : VK) (_ : XK) : Prop where
  h : ∃ (n : Int) (v : V), vs = [.int n, v] ∧ ((BadSgn K z H n v ∧ ∀ H', Same H H' → Q (.bl false) H') ∨ (GoodSgn z n v ∧ ∀ H', Same H H' → Q (.bl true) H'))
structure spCkSgn (K : PySem.W.Frag) (C : Addr) (z : Str) (CE : Addr) (vs : List V) (H : Hp) (Q : VK) (E : XK) : Prop where
  h : ∃ (c : Addr) (v : V) (n : Int) (t : Addr), vs = [.ref c, v] ∧ CabAt C H c n t ∧ ((BadSgn K z H n v ∧ ∀ H', Same H H' → E (.ref CE) none H') ∨ (GoodSgn z n v ∧ ∀ H', Same H H' → Q .non H'))
structure spCkDrw (C CE : Addr) (vs : List V) (H : Hp) (_ : VK) (E : XK) : Prop where
  h : ∃ (c : Addr) (v : V) (n : Int) (t : Addr), vs = [.ref c, v] ∧ CabAt C H c n t ∧ BadDrw n v ∧ E (.ref CE) none H
abbrev BadLenL (K : PySem.W.Frag) (H : Hp) (lo m : Int) (v : V) : Prop := (∃ (t : Value) (b1 b2 : Bool), TyX K H v t ∧ PySem.W.kitOne K t (.type "int") = some b1 ∧ PySem.W.kitOne K t (.type "bool") = some b2 ∧ (b1 && !b2) = false) ∨ ∃ i : Int, v = .int i ∧ ¬ (lo ≤ i ∧ i ≤ m)
abbrev BadLen (K : PySem.W.Frag) (H : Hp) (m : Int) (v : V) : Prop := BadLenL K H 0 m v
structure spCkLen (K : PySem.W.Frag) (CN : Addr) (vs : List V) (H : Hp) (Q : VK) (E : XK) : Prop where
  h : ∃ (v : V) (lo m : Int), vs = [v, .int lo, .int m] ∧ ((BadLenL K H lo m v ∧ exIni CN "n" v H E) ∨ (∃ i : Int, v = .int i ∧ lo ≤ i ∧ i ≤ m ∧ Q .non H))
/-- what is called with a cabinet and a standing, a pattern, a drawer that is none -/
structure spBadS (K : PySem.W.Frag) (C : Addr) (z : Str) (CE : Addr) (vs : List V) (H : Hp) (_ : VK) (E : XK) : Prop where
  h : ∃ (c : Addr) (v : V) (n : Int) (t : Addr), vs = [.ref c, v] ∧ CabAt C H c n t ∧ BadSgn K z H n v ∧ ∀ H', Same H H' → E (.ref CE) none H'
structure spBadD (C CE : Addr) (vs : List V) (H : Hp) (_ : VK) (E : XK) : Prop where
  h : ∃ (c : Addr) (v : V) (n : Int) (t : Addr), vs = [.ref c, v] ∧ CabAt C H c n t ∧ BadDrw n v ∧ ∀ H', Same H H' → E (.ref CE) none H'
structure spBadSD (K : PySem.W.Frag) (C CS CD : Addr) (vs : List V) (H : Hp) (_ : VK) (E : XK) : Prop where
  h : ∃ (c : Addr) (v u : V) (n : Int) (t : Addr), vs = [.ref c, v, u] ∧ CabAt C H c n t ∧ ((BadSgn K "os" H n v ∧ ∀ H', Same H H' → E (.ref CS) none H') ∨ (GoodSgn "os" n v ∧ BadDrw n u ∧ ∀ H', Same H H' → E (.ref CD) none H'))
structure spBadSP (K : PySem.W.Frag) (C CS CP : Addr) (vs : List V) (H : Hp) (_ : VK) (E : XK) : Prop where
  h : ∃ (c : Addr) (v u : V) (n : Int) (t : Addr), vs = [.ref c, v, u] ∧ CabAt C H c n t ∧ ((BadSgn K "os" H n v ∧ ∀ H', Same H H' → E (.ref CS) none H') ∨ (GoodSgn "os" n v ∧ BadSgn K "os?" H n u ∧ ∀ H', Same H H' → E (.ref CP) none H'))
structure spBadPV (K : PySem.W.Frag) (C CP : Addr) (vs : List V) (H : Hp) (_ : VK) (E : XK) : Prop where
  h : ∃ (c : Addr) (v u : V) (n : Int) (t : Addr), vs = [.ref c, v, u] ∧ CabAt C H c n t ∧ BadSgn K "os?" H n v ∧ ∀ H', Same H H' → E (.ref CP) none H'
structure spBadLP (K : PySem.W.Frag) (C CN CP : Addr) (vs : List V) (H : Hp) (_ : VK) (E : XK) : Prop where
  h : ∃ (c : Addr) (v u : V) (n : Int) (t : Addr), vs = [.ref c, v, u] ∧ CabAt C H c n t ∧ (((∀ H', BadLen K H' 60 v) ∧ ∀ H', Same H H' → exIni CN "n" v H' E) ∨ (∃ i : Int, v = .int i ∧ 0 ≤ i ∧ i ≤ 60 ∧ BadSgn K "os?" H n u ∧ ∀ H', Same H H' → E (.ref CP) none H'))
section
variable {P : Program} {w : World} {K : PySem.W.Frag} {mg : Str → Option Value} {base : Heap}
theorem ok_hasSignsI {f : Addr} {fd : FuncData} (F : Fun K "has_signs" "has_signs" s_has_signs f fd) (T : Bt mg) (zS : mg "str" = none) (zA : mg "all" = none) : FnOk P w K mg base CX0 1 f fd ["drawers", "value", "signs"] (spSgn3 K) := by
  refine F.ok scHS (fun vs H Q E h => ?_) (fun cdv A outer s H vs Q E hr h => ?_)
  · obtain ⟨n, v, z, rfl, _⟩ := h.h
    rfl
  · obtain ⟨n, v, z, rfl, hv⟩ := h.h
    refine ⟨_, pss_cons (ps_if (PW.pt (pw_or (pt_not (pt_val (pe_callB call_isi (by rfl) T.isinstance (by decide +kernel) (pa_cons (pv 1) (pa_cons (pe_bltn (v := .ty "str") (by rfl) zS (by decide +kernel) rfl) pa_nil)))))
        (pw_or1 (pt_cmpR op_ne (pe_callB call_len_str (by rfl) T.len PySem.boot_len (pa_cons (pv 1) pa_nil)) (pv 0) (nomark _))))) (pss_one (ps_ret pe_bl)) pss_nil)
      (pss_one (ps_ret (pe_callB (cr_all rfl) (by rfl) zA boot_all_ (pa_cons
        (pe_lc (own := [("sign", 3)]) (g := gName 3) (tt := tYes) (by rfl) scHS.nd (pi_str (pv 1)) (blkOk_by (N := nHS) (sc := defScope s_has_signs) (by decide +kernel)) (fun _ _ _ _ _ => pg_name (i := 3) scHS.nd rfl (by first | exact Or.inl rfl | exact Or.inr rfl)) (fun _ _ _ _ _ => pts_nil)
          (fun _ _ _ _ _ => pe_cmpR op_in_sign (pv 3) (pv 2) (by rfl))) pa_nil)))), ?_⟩
    have hv' : (NoStr K H v ∧ Q (.bl false) H) ∨ ∃ y, v = .str y ∧ y.length ≤ 1000 ∧ ∀ H', Same H H' → Q (.bl (sgnB n z (.str y))) H' := by
      rcases hv with ⟨hn | ⟨y, e, hy, hb⟩, k⟩ | ⟨⟨y, e, hy, hb⟩, k⟩
      · exact .inl ⟨hn, k H (Same.refl H)⟩
      · exact .inr ⟨y, e, hy, fun H' s => by rw [hb]; exact k H' s⟩
      · exact .inr ⟨y, e, hy, fun H' s => by rw [hb]; exact k H' s⟩
    rcases hv' with ⟨⟨t, ty, kt⟩, k⟩ | ⟨y, rfl, h1000, k⟩
    · exact ⟨_, rfl, _, _, t, _, false, rfl, .ty "str", ty H (Same.refl H), kt, _, rfl, iteT k⟩
    · have hdone : True := trivial
      have ysz : y.length ≤ sizeLine := Nat.le_of_lt (small1000 h1000)
      refine ⟨_, rfl, _, _, .type "str", _, true, rfl, .ty "str", .base (.str y), kit_ty (by decide +kernel), _, rfl, iteF ?_⟩
      refine ⟨_, rfl, _, rfl, ysz, _, rfl, rfl, _, rfl, ?_⟩
      have ei := int_dec (y.length : Int) n
      show if (!decide ((V.int (y.length : Int)) = V.int n)) = true then _ else _
      rw [ei]
      cases en : decide ((y.length : Int) = n) with
      | false =>
        refine iteT ?_
        have := k H (Same.refl H)
        rw [sgn_str, en] at this
        exact this
      | true =>
        refine iteF ?_
        refine ⟨_, rfl, _, rfl, fun D hD => ?_⟩
        have hsz : y.cps.toList.length = y.cps.size := Array.length_toList
        have hyl : y.length = y.cps.size := rfl
        have := h1000
        refine lc_pick walk_str y.cps.toList hsz (by omega) (fun _ => true) (fun c => V.bl (decide (c ∈ z.cps.toList))) hD (fun _ _ => trivial) ?_ ?_
        · rintro i x c H1 H1' Tk Nk ez s1 ⟨rfl, c', hc', rfl⟩ kT kF
          rw [Array.getElem?_toList, hc'] at ez
          cases ez
          refine ⟨rfl, tYes_of (iteT ?_)⟩
          exact ⟨_, rfl, _, rfl, _, z, rfl, rfl, kT _ rfl (Same.refl _)⟩
        · intro H1 s1 hD1
          rw [List.filter_eq_self.mpr fun _ _ => rfl] at hD1
          refine ⟨D, y.cps.toList.map fun c => decide (c ∈ z.cps.toList), rfl, SqL.of (by rw [hD1, List.map_map]; rfl), ?_⟩
          have := k H1 s1
          rw [sgn_str, en, Bool.true_and] at this
          have e9 : (y.cps.toList.map fun c => decide (c ∈ z.cps.toList)).all id = y.cps.toList.all fun c => decide (c ∈ z.cps.toList) := by rw [List.all_map]; rfl
          rw [e9]
          exact this
theorem scIsStdI : FnScope ["drawers", "value"] ["drawers", "value"] (defScope s_is_standing) := ⟨rfl, rfl, rfl, by decide +kernel, rfl, by decide +kernel, by decide +kernel⟩
theorem ok_isStdI {f f1 : Addr} {fd fd1 : FuncData} (F : Fun K "is_standing" "is_standing" s_is_standing f fd) (G : FnOk P w K mg base CX0 1 f1 fd1 ["drawers", "value", "signs"] (spSgn3 K)) (g1 : mg "has_signs" = some (.ref f1)) (k1 : PySem.W.keepIn K (.ref f1) = true) (b1 : Binds K fd1 ["drawers", "value", "signs"] [])
    (gS : ∃ t, mg "STANDING_SIGNS" = some (.str "os" t)) : FnOk P w K mg base CX0 2 f fd ["drawers", "value"] (spSgn2 K "os") := by
  refine F.ok scIsStdI (fun vs H Q E h => ?_) (fun cdv A outer s H vs Q E hr h => ?_)
  · obtain ⟨n, v, rfl, _⟩ := h.h
    rfl
  · obtain ⟨n, v, rfl, hv⟩ := h.h
    obtain ⟨tS, gS⟩ := gS
    refine ⟨_, pss_one (ps_ret (pe_call G (hr.mono (by decide)) rfl g1 k1 b1 .nil pass0 (pa_cons (pv 0) (pa_cons (pv 1) (pa_cons (pe_glob (v := .str "os") rfl gS ⟨_, rfl⟩) pa_nil))))), ?_⟩
    exact ⟨_, rfl, _, rfl, ⟨⟨n, v, _, rfl, hv⟩⟩⟩
theorem scIsPatI : FnScope ["drawers", "value"] ["drawers", "value"] (defScope s_is_pattern) := ⟨rfl, rfl, rfl, by decide +kernel, rfl, by decide +kernel, by decide +kernel⟩
theorem ok_isPatI {f f1 : Addr} {fd fd1 : FuncData} (F : Fun K "is_pattern" "is_pattern" s_is_pattern f fd) (G : FnOk P w K mg base CX0 1 f1 fd1 ["drawers", "value", "signs"] (spSgn3 K)) (g1 : mg "has_signs" = some (.ref f1)) (k1 : PySem.W.keepIn K (.ref f1) = true) (b1 : Binds K fd1 ["drawers", "value", "signs"] [])
    (gS : ∃ t, mg "PATTERN_SIGNS" = some (.str "os?" t)) : FnOk P w K mg base CX0 2 f fd ["drawers", "value"] (spSgn2 K "os?") := by
  refine F.ok scIsPatI (fun vs H Q E h => ?_) (fun cdv A outer s H vs Q E hr h => ?_)
  · obtain ⟨n, v, rfl, _⟩ := h.h
    rfl
  · obtain ⟨n, v, rfl, hv⟩ := h.h
    obtain ⟨tS, gS⟩ := gS
    refine ⟨_, pss_one (ps_ret (pe_call G (hr.mono (by decide)) rfl g1 k1 b1 .nil pass0 (pa_cons (pv 0) (pa_cons (pv 1) (pa_cons (pe_glob (v := .str "os?") rfl gS ⟨_, rfl⟩) pa_nil))))), ?_⟩
    exact ⟨_, rfl, _, rfl, ⟨⟨n, v, _, rfl, hv⟩⟩⟩
theorem scCkStdI : FnScope ["cabinet", "standing"] ["cabinet", "standing"] (defScope s_check_standing) := ⟨rfl, rfl, rfl, by decide +kernel, rfl, by decide +kernel, by decide +kernel⟩
theorem ok_ckStdI {f f1 C CE : Addr} {fd fd1 : FuncData} (F : Fun K "check_standing" "check_standing" s_check_standing f fd) (CP : CabP P w K mg base C) (BT : ErrT K mg "BadStanding" CE) (G : FnOk P w K mg base CX0 2 f1 fd1 ["drawers", "value"] (spSgn2 K "os")) (g1 : mg "is_standing" = some (.ref f1)) (k1 : PySem.W.keepIn K (.ref f1) = true) (b1 : Binds K fd1 ["drawers", "value"] []) :
    FnOk P w K mg base (L2.CX P w) 4 f fd ["cabinet", "standing"] (spCkSgn K C "os" CE) := by
  refine F.okX scCkStdI (fun vs H Q E h => ?_) (fun cdv A outer s H vs Q E hr h => ?_)
  · obtain ⟨c, v, n, t, rfl, _⟩ := h.h
    rfl
  · obtain ⟨c, v, n, t, rfl, ⟨dx, hc⟩, hv⟩ := h.h
    obtain ⟨pD, gD, fdD, hpD, GD, bD⟩ := CP.d
    refine ⟨_, pss_one (ps_if (pt_not (pt_val (pe_call G (hr.mono (by decide)) rfl g1 k1 b1 .nil pass0 (pa_cons (pe_prop (pv 0) CP.cl hpD GD (hr.mono (by decide)) bD .nil pass0 rfl) (pa_cons (pv 1) pa_nil)))))
      (pss_one (ps_raise rfl (takes_of rfl rfl rfl rfl) (pmk_own PySem.F.excBase_ValueError BT.x BT.g BT.k (raises_own BT.b BT.t) (by exact rfl)))) pss_nil), ?_⟩
    refine ⟨_, rfl, c, dx, _, rfl, hc, ⟨⟨c, dx, _, t, rfl, hc, _, rfl, ⟨⟨n, _, rfl, ?_⟩⟩⟩⟩⟩
    rcases hv with ⟨h1, k⟩ | ⟨h1, k⟩
    · exact .inl ⟨h1, fun H' s1 => ⟨_, rfl, iteT (k H' s1)⟩⟩
    · exact .inr ⟨h1, fun H' s1 => ⟨_, rfl, iteF (k H' s1)⟩⟩
theorem scCkPatI : FnScope ["cabinet", "pattern"] ["cabinet", "pattern"] (defScope s_check_pattern) := ⟨rfl, rfl, rfl, by decide +kernel, rfl, by decide +kernel, by decide +kernel⟩
theorem ok_ckPatI {f f1 C CE : Addr} {fd fd1 : FuncData} (F : Fun K "check_pattern" "check_pattern" s_check_pattern f fd) (CP : CabP P w K mg base C) (BT : ErrT K mg "BadPattern" CE) (G : FnOk P w K mg base CX0 2 f1 fd1 ["drawers", "value"] (spSgn2 K "os?")) (g1 : mg "is_pattern" = some (.ref f1)) (k1 : PySem.W.keepIn K (.ref f1) = true) (b1 : Binds K fd1 ["drawers", "value"] []) :
    FnOk P w K mg base (L2.CX P w) 4 f fd ["cabinet", "pattern"] (spCkSgn K C "os?" CE) := by
  refine F.okX scCkPatI (fun vs H Q E h => ?_) (fun cdv A outer s H vs Q E hr h => ?_)
  · obtain ⟨c, v, n, t, rfl, _⟩ := h.h
    rfl
  · obtain ⟨c, v, n, t, rfl, ⟨dx, hc⟩, hv⟩ := h.h
    obtain ⟨pD, gD, fdD, hpD, GD, bD⟩ := CP.d
    refine ⟨_, pss_one (ps_if (pt_not (pt_val (pe_call G (hr.mono (by decide)) rfl g1 k1 b1 .nil pass0 (pa_cons (pe_prop (pv 0) CP.cl hpD GD (hr.mono (by decide)) bD .nil pass0 rfl) (pa_cons (pv 1) pa_nil)))))
      (pss_one (ps_raise rfl (takes_of rfl rfl rfl rfl) (pmk_own PySem.F.excBase_ValueError BT.x BT.g BT.k (raises_own BT.b BT.t) (by exact rfl)))) pss_nil), ?_⟩
    refine ⟨_, rfl, c, dx, _, rfl, hc, ⟨⟨c, dx, _, t, rfl, hc, _, rfl, ⟨⟨n, _, rfl, ?_⟩⟩⟩⟩⟩
    rcases hv with ⟨h1, k⟩ | ⟨h1, k⟩
    · exact .inl ⟨h1, fun H' s1 => ⟨_, rfl, iteT (k H' s1)⟩⟩
    · exact .inr ⟨h1, fun H' s1 => ⟨_, rfl, iteF (k H' s1)⟩⟩
theorem scCkDrI : FnScope ["cabinet", "drawer"] ["cabinet", "drawer"] (defScope s_check_drawer) := ⟨rfl, rfl, rfl, by decide +kernel, rfl, by decide +kernel, by decide +kernel⟩
theorem ok_ckDrI {f f1 C CE : Addr} {fd fd1 : FuncData} (F : Fun K "check_drawer" "check_drawer" s_check_drawer f fd) (CP : CabP P w K mg base C) (BT : ErrT K mg "BadDrawer" CE) (G : FnOk P w K mg base CX0 2 f1 fd1 ["drawers", "value"] (spIsDrawer K)) (g1 : mg "is_drawer" = some (.ref f1)) (k1 : PySem.W.keepIn K (.ref f1) = true) (b1 : Binds K fd1 ["drawers", "value"] []) :
    FnOk P w K mg base (L2.CX P w) 4 f fd ["cabinet", "drawer"] (spCkDrw C CE) := by
  refine F.okX scCkDrI (fun vs H Q E h => ?_) (fun cdv A outer s H vs Q E hr h => ?_)
  · obtain ⟨c, v, n, t, rfl, _⟩ := h.h
    rfl
  · obtain ⟨c, v, n, t, rfl, ⟨dx, hc⟩, ⟨h1, h2⟩, k⟩ := h.h
    obtain ⟨pD, gD, fdD, hpD, GD, bD⟩ := CP.d
    refine ⟨_, pss_one (ps_if (pt_not (pt_val (pe_call G (hr.mono (by decide)) rfl g1 k1 b1 .nil pass0 (pa_cons (pe_prop (pv 0) CP.cl hpD GD (hr.mono (by decide)) bD .nil pass0 rfl) (pa_cons (pv 1) pa_nil)))))
      (pss_one (ps_raise rfl (takes_of rfl rfl rfl rfl) (pmk_own PySem.F.excBase_ValueError BT.x BT.g BT.k (raises_own BT.b BT.t) (by exact rfl)))) pss_nil), ?_⟩
    refine ⟨_, rfl, c, dx, _, rfl, hc, ⟨⟨c, dx, _, t, rfl, hc, _, rfl, spIsDrawer_sc h1 ⟨_, rfl, ?_⟩⟩⟩⟩
    rw [h2]
    exact iteT k
theorem scCkLen : FnScope ["value", "least", "most"] ["value", "least", "most"] (defScope s_check_number) := ⟨rfl, rfl, rfl, by decide +kernel, rfl, by decide +kernel, by decide +kernel⟩
theorem ok_ckLen {f f1 CN : Addr} {fd fd1 : FuncData} (F : Fun K "check_number" "check_number" s_check_number f fd) (BT : IniT P w K mg base "BadNumber" "n" goodA CN)
    (G : FnOk P w K mg base CX0 1 f1 fd1 ["value"] (spIsInt K)) (g1 : mg "is_integer" = some (.ref f1)) (k1 : PySem.W.keepIn K (.ref f1) = true) (b1 : Binds K fd1 ["value"] []) :
    FnOk P w K mg base (L2.CX P w) 4 f fd ["value", "least", "most"] (spCkLen K CN) := by
  refine F.okX scCkLen (fun vs H Q E h => ?_) (fun cdv A outer s H vs Q E hr h => ?_)
  · obtain ⟨v, lo, m, rfl, _⟩ := h.h
    rfl
  · obtain ⟨v, lo, m, rfl, hv⟩ := h.h
    obtain ⟨fI, fdI, i1, i2, GI, bI⟩ := BT.i
    refine ⟨_, pss_one (ps_if (PW.pt (pw_or (pt_not (pt_val (pe_call G (hr.mono (by decide)) rfl g1 k1 b1 .nil pass0 (pa_cons (pv 0) pa_nil)))) (pw_or1 (pt_not (pt_chain op_le op_le (pv 1) (pv 0) (pv 2))))))
      (pss_one (ps_raise rfl (takes_of rfl rfl rfl rfl) (pmk_oex BT.T i1 i2 GI (hr.mono (by decide)) bI .nil pass0 rfl BT.g (pa_cons (pv 0) pa_nil)))) pss_nil), ?_⟩
    rcases hv with ⟨⟨t, c1, c2, ty, e1, e2, e3⟩ | ⟨i, rfl, hn⟩, ke⟩ | ⟨i, rfl, i0, im, k⟩
    · refine ⟨_, rfl, ⟨v, t, c1, c2, rfl, ty, e1, e2, _, rfl, ?_⟩⟩
      rw [e3]
      exact iteT ⟨_, rfl, by show 1 ≤ 1000; decide, fun a ha => ini_mk ha trivial ke⟩
    · refine ⟨_, rfl, ⟨.int i, .type "int", true, false, rfl, .base (.int i), kit_ty (by decide +kernel), kit_ty (by decide +kernel), _, rfl, iteF ?_⟩⟩
      refine ⟨_, rfl, _, rfl, _, _, rfl, rfl, _, rfl, ?_⟩
      by_cases q : lo ≤ i
      · rw [decide_eq_true q]
        refine iteT ⟨_, rfl, _, _, rfl, rfl, _, rfl, ?_⟩
        rw [decide_eq_false (fun z => hn ⟨q, z⟩)]
        exact iteT ⟨_, rfl, by show 1 ≤ 1000; decide, fun a ha => ini_mk ha trivial ke⟩
      · rw [decide_eq_false q]
        exact iteF ⟨_, rfl, iteT ⟨_, rfl, by show 1 ≤ 1000; decide, fun a ha => ini_mk ha trivial ke⟩⟩
    · refine ⟨_, rfl, ⟨.int i, .type "int", true, false, rfl, .base (.int i), kit_ty (by decide +kernel), kit_ty (by decide +kernel), _, rfl, iteF ?_⟩⟩
      refine ⟨_, rfl, _, rfl, _, _, rfl, rfl, _, rfl, ?_⟩
      rw [decide_eq_true i0]
      refine iteT ⟨_, rfl, _, _, rfl, rfl, _, rfl, ?_⟩
      rw [decide_eq_true im]
      exact iteF k
theorem scI_can : FnScope ["cabinet", "standing"] ["cabinet", "standing"] (defScope s_can) := ⟨rfl, rfl, rfl, by decide +kernel, rfl, by decide +kernel, by decide +kernel⟩
theorem ok_canI {f f0 f1 C CS : Addr} {fd fd0 fd1 : FuncData} (F : Fun K "can" "can" s_can f fd)
    (G0 : FnOk P w K mg base CX0 1 f0 fd0 ["cabinet"] (spCkCab C)) (g0 : mg "check_cabinet" = some (.ref f0)) (k0 : PySem.W.keepIn K (.ref f0) = true) (b0 : Binds K fd0 ["cabinet"] [])
    (G1 : FnOk P w K mg base (L2.CX P w) 4 f1 fd1 ["cabinet", "standing"] (spCkSgn K C "os" CS)) (g1 : mg "check_standing" = some (.ref f1)) (k1 : PySem.W.keepIn K (.ref f1) = true) (b1 : Binds K fd1 ["cabinet", "standing"] []) :
    FnOk P w K mg base (L2.CX P w) 6 f fd ["cabinet", "standing"] (spBadS K C "os" CS) := by
  refine F.okX scI_can (fun vs H Q E h => ?_) (fun cdv A outer s H vs Q E hr h => ?_)
  · obtain ⟨c, v, n, t, rfl, _⟩ := h.h
    rfl
  · obtain ⟨c, v, n, t, rfl, hc, hv, k⟩ := h.h
    refine ⟨_, pss_cons (ps_expr (pe_call G0 (hr.mono (by decide)) rfl g0 k0 b0 .nil pass0 (pa_cons (pv 0) pa_nil))) (pss_cons (ps_expr (pe_call G1 (hr.mono (by decide)) rfl g1 k1 b1 .nil (passes_call (E := E) (takes_of rfl rfl rfl rfl) (fun _ _ _ _ z => z)) (pa_cons (pv 0) (pa_cons (pv 1) pa_nil)))) pss_never), ?_⟩
    exact ⟨_, rfl, ⟨⟨c, n, t, rfl, hc, _, rfl, _, rfl, ⟨⟨c, v, n, t, rfl, hc, .inl ⟨hv, k⟩⟩⟩⟩⟩⟩
theorem scI_row_to : FnScope ["cabinet", "pattern"] ["cabinet", "pattern"] (defScope s_row_to) := ⟨rfl, rfl, rfl, by decide +kernel, rfl, by decide +kernel, by decide +kernel⟩
theorem ok_row_toI {f f0 f1 C CQ : Addr} {fd fd0 fd1 : FuncData} (F : Fun K "row_to" "row_to" s_row_to f fd)
    (G0 : FnOk P w K mg base CX0 1 f0 fd0 ["cabinet"] (spCkCab C)) (g0 : mg "check_cabinet" = some (.ref f0)) (k0 : PySem.W.keepIn K (.ref f0) = true) (b0 : Binds K fd0 ["cabinet"] [])
    (G1 : FnOk P w K mg base (L2.CX P w) 4 f1 fd1 ["cabinet", "pattern"] (spCkSgn K C "os?" CQ)) (g1 : mg "check_pattern" = some (.ref f1)) (k1 : PySem.W.keepIn K (.ref f1) = true) (b1 : Binds K fd1 ["cabinet", "pattern"] []) :
    FnOk P w K mg base (L2.CX P w) 6 f fd ["cabinet", "pattern"] (spBadS K C "os?" CQ) := by
  refine F.okX scI_row_to (fun vs H Q E h => ?_) (fun cdv A outer s H vs Q E hr h => ?_)
  · obtain ⟨c, v, n, t, rfl, _⟩ := h.h
    rfl
  · obtain ⟨c, v, n, t, rfl, hc, hv, k⟩ := h.h
    refine ⟨_, pss_cons (ps_expr (pe_call G0 (hr.mono (by decide)) rfl g0 k0 b0 .nil pass0 (pa_cons (pv 0) pa_nil))) (pss_cons (ps_expr (pe_call G1 (hr.mono (by decide)) rfl g1 k1 b1 .nil (passes_call (E := E) (takes_of rfl rfl rfl rfl) (fun _ _ _ _ z => z)) (pa_cons (pv 0) (pa_cons (pv 1) pa_nil)))) pss_never), ?_⟩
    exact ⟨_, rfl, ⟨⟨c, n, t, rfl, hc, _, rfl, _, rfl, ⟨⟨c, v, n, t, rfl, hc, .inl ⟨hv, k⟩⟩⟩⟩⟩⟩
theorem scI_frozen : FnScope ["cabinet", "drawer", "pulls", "moving"] ["cabinet", "drawer"] (defScope s_frozen) := ⟨rfl, rfl, rfl, by decide +kernel, rfl, by decide +kernel, by decide +kernel⟩
theorem ok_frozenI {f f0 f1 C CD : Addr} {fd fd0 fd1 : FuncData} (F : Fun K "frozen" "frozen" s_frozen f fd)
    (G0 : FnOk P w K mg base CX0 1 f0 fd0 ["cabinet"] (spCkCab C)) (g0 : mg "check_cabinet" = some (.ref f0)) (k0 : PySem.W.keepIn K (.ref f0) = true) (b0 : Binds K fd0 ["cabinet"] [])
    (G1 : FnOk P w K mg base (L2.CX P w) 4 f1 fd1 ["cabinet", "drawer"] (spCkDrw C CD)) (g1 : mg "check_drawer" = some (.ref f1)) (k1 : PySem.W.keepIn K (.ref f1) = true) (b1 : Binds K fd1 ["cabinet", "drawer"] []) :
    FnOk P w K mg base (L2.CX P w) 6 f fd ["cabinet", "drawer"] (spBadD C CD) := by
  refine F.okX scI_frozen (fun vs H Q E h => ?_) (fun cdv A outer s H vs Q E hr h => ?_)
  · obtain ⟨c, v, n, t, rfl, _⟩ := h.h
    rfl
  · obtain ⟨c, v, n, t, rfl, hc, hv, k⟩ := h.h
    refine ⟨_, pss_cons (ps_expr (pe_call G0 (hr.mono (by decide)) rfl g0 k0 b0 .nil pass0 (pa_cons (pv 0) pa_nil))) (pss_cons (ps_expr (pe_call G1 (hr.mono (by decide)) rfl g1 k1 b1 .nil (passes_call (E := E) (takes_of rfl rfl rfl rfl) (fun _ _ _ _ z => z)) (pa_cons (pv 0) (pa_cons (pv 1) pa_nil)))) pss_never), ?_⟩
    exact ⟨_, rfl, ⟨⟨c, n, t, rfl, hc, _, rfl, _, rfl, ⟨⟨c, v, n, t, rfl, hc, hv, k H (Same.refl H)⟩⟩⟩⟩⟩
theorem scI_barring : FnScope ["cabinet", "standing", "drawer"] ["cabinet", "standing", "drawer"] (defScope s_barring) := ⟨rfl, rfl, rfl, by decide +kernel, rfl, by decide +kernel, by decide +kernel⟩
theorem ok_barringI {f f0 f1 f2 C CS CD : Addr} {fd fd0 fd1 fd2 : FuncData} (F : Fun K "barring" "barring" s_barring f fd)
    (G0 : FnOk P w K mg base CX0 1 f0 fd0 ["cabinet"] (spCkCab C)) (g0 : mg "check_cabinet" = some (.ref f0)) (k0 : PySem.W.keepIn K (.ref f0) = true) (b0 : Binds K fd0 ["cabinet"] [])
    (G1 : FnOk P w K mg base (L2.CX P w) 4 f1 fd1 ["cabinet", "standing"] (spCkSgn K C "os" CS)) (g1 : mg "check_standing" = some (.ref f1)) (k1 : PySem.W.keepIn K (.ref f1) = true) (b1 : Binds K fd1 ["cabinet", "standing"] [])
    (G2 : FnOk P w K mg base (L2.CX P w) 4 f2 fd2 ["cabinet", "drawer"] (spCkDrw C CD)) (g2 : mg "check_drawer" = some (.ref f2)) (k2 : PySem.W.keepIn K (.ref f2) = true) (b2 : Binds K fd2 ["cabinet", "drawer"] []) :
    FnOk P w K mg base (L2.CX P w) 6 f fd ["cabinet", "standing", "drawer"] (spBadSD K C CS CD) := by
  refine F.okX scI_barring (fun vs H Q E h => ?_) (fun cdv A outer s H vs Q E hr h => ?_)
  · obtain ⟨c, v, u, n, t, rfl, _⟩ := h.h
    rfl
  · obtain ⟨c, v, u, n, t, rfl, hc, hv⟩ := h.h
    refine ⟨_, pss_cons (ps_expr (pe_call G0 (hr.mono (by decide)) rfl g0 k0 b0 .nil pass0 (pa_cons (pv 0) pa_nil))) (pss_cons (ps_expr (pe_call G1 (hr.mono (by decide)) rfl g1 k1 b1 .nil (passes_call (E := E) (takes_of rfl rfl rfl rfl) (fun _ _ _ _ z => z)) (pa_cons (pv 0) (pa_cons (pv 1) pa_nil)))) (pss_cons (ps_expr (pe_call G2 (hr.mono (by decide)) rfl g2 k2 b2 .nil (passes_call (E := E) (takes_of rfl rfl rfl rfl) (fun _ _ _ _ z => z)) (pa_cons (pv 0) (pa_cons (pv 2) pa_nil)))) pss_never)), ?_⟩
    refine ⟨_, rfl, ⟨⟨c, n, t, rfl, hc, _, rfl, _, rfl, ⟨⟨c, v, n, t, rfl, hc, ?_⟩⟩⟩⟩⟩
    rcases hv with ⟨h1, k⟩ | ⟨h1, h2, k⟩
    · exact .inl ⟨h1, k⟩
    · exact .inr ⟨h1, fun H' s1 => ⟨_, rfl, _, rfl, ⟨⟨c, u, n, t, rfl, hc.sameI s1, h2, k H' s1⟩⟩⟩⟩
theorem scI_behind : FnScope ["cabinet", "standing", "drawer"] ["cabinet", "standing", "drawer"] (defScope s_behind) := ⟨rfl, rfl, rfl, by decide +kernel, rfl, by decide +kernel, by decide +kernel⟩
theorem ok_behindI {f f0 f1 f2 C CS CD : Addr} {fd fd0 fd1 fd2 : FuncData} (F : Fun K "behind" "behind" s_behind f fd)
    (G0 : FnOk P w K mg base CX0 1 f0 fd0 ["cabinet"] (spCkCab C)) (g0 : mg "check_cabinet" = some (.ref f0)) (k0 : PySem.W.keepIn K (.ref f0) = true) (b0 : Binds K fd0 ["cabinet"] [])
    (G1 : FnOk P w K mg base (L2.CX P w) 4 f1 fd1 ["cabinet", "standing"] (spCkSgn K C "os" CS)) (g1 : mg "check_standing" = some (.ref f1)) (k1 : PySem.W.keepIn K (.ref f1) = true) (b1 : Binds K fd1 ["cabinet", "standing"] [])
    (G2 : FnOk P w K mg base (L2.CX P w) 4 f2 fd2 ["cabinet", "drawer"] (spCkDrw C CD)) (g2 : mg "check_drawer" = some (.ref f2)) (k2 : PySem.W.keepIn K (.ref f2) = true) (b2 : Binds K fd2 ["cabinet", "drawer"] []) :
    FnOk P w K mg base (L2.CX P w) 6 f fd ["cabinet", "standing", "drawer"] (spBadSD K C CS CD) := by
  refine F.okX scI_behind (fun vs H Q E h => ?_) (fun cdv A outer s H vs Q E hr h => ?_)
  · obtain ⟨c, v, u, n, t, rfl, _⟩ := h.h
    rfl
  · obtain ⟨c, v, u, n, t, rfl, hc, hv⟩ := h.h
    refine ⟨_, pss_cons (ps_expr (pe_call G0 (hr.mono (by decide)) rfl g0 k0 b0 .nil pass0 (pa_cons (pv 0) pa_nil))) (pss_cons (ps_expr (pe_call G1 (hr.mono (by decide)) rfl g1 k1 b1 .nil (passes_call (E := E) (takes_of rfl rfl rfl rfl) (fun _ _ _ _ z => z)) (pa_cons (pv 0) (pa_cons (pv 1) pa_nil)))) (pss_cons (ps_expr (pe_call G2 (hr.mono (by decide)) rfl g2 k2 b2 .nil (passes_call (E := E) (takes_of rfl rfl rfl rfl) (fun _ _ _ _ z => z)) (pa_cons (pv 0) (pa_cons (pv 2) pa_nil)))) pss_never)), ?_⟩
    refine ⟨_, rfl, ⟨⟨c, n, t, rfl, hc, _, rfl, _, rfl, ⟨⟨c, v, n, t, rfl, hc, ?_⟩⟩⟩⟩⟩
    rcases hv with ⟨h1, k⟩ | ⟨h1, h2, k⟩
    · exact .inl ⟨h1, k⟩
    · exact .inr ⟨h1, fun H' s1 => ⟨_, rfl, _, rfl, ⟨⟨c, u, n, t, rfl, hc.sameI s1, h2, k H' s1⟩⟩⟩⟩
theorem scI_row_between : FnScope ["cabinet", "standing", "pattern"] ["cabinet", "standing", "pattern"] (defScope s_row_between) := ⟨rfl, rfl, rfl, by decide +kernel, rfl, by decide +kernel, by decide +kernel⟩
theorem ok_row_betweenI {f f0 f1 f2 C CS CQ : Addr} {fd fd0 fd1 fd2 : FuncData} (F : Fun K "row_between" "row_between" s_row_between f fd)
    (G0 : FnOk P w K mg base CX0 1 f0 fd0 ["cabinet"] (spCkCab C)) (g0 : mg "check_cabinet" = some (.ref f0)) (k0 : PySem.W.keepIn K (.ref f0) = true) (b0 : Binds K fd0 ["cabinet"] [])
    (G1 : FnOk P w K mg base (L2.CX P w) 4 f1 fd1 ["cabinet", "standing"] (spCkSgn K C "os" CS)) (g1 : mg "check_standing" = some (.ref f1)) (k1 : PySem.W.keepIn K (.ref f1) = true) (b1 : Binds K fd1 ["cabinet", "standing"] [])
    (G2 : FnOk P w K mg base (L2.CX P w) 4 f2 fd2 ["cabinet", "pattern"] (spCkSgn K C "os?" CQ)) (g2 : mg "check_pattern" = some (.ref f2)) (k2 : PySem.W.keepIn K (.ref f2) = true) (b2 : Binds K fd2 ["cabinet", "pattern"] []) :
    FnOk P w K mg base (L2.CX P w) 6 f fd ["cabinet", "standing", "pattern"] (spBadSP K C CS CQ) := by
  refine F.okX scI_row_between (fun vs H Q E h => ?_) (fun cdv A outer s H vs Q E hr h => ?_)
  · obtain ⟨c, v, u, n, t, rfl, _⟩ := h.h
    rfl
  · obtain ⟨c, v, u, n, t, rfl, hc, hv⟩ := h.h
    refine ⟨_, pss_cons (ps_expr (pe_call G0 (hr.mono (by decide)) rfl g0 k0 b0 .nil pass0 (pa_cons (pv 0) pa_nil))) (pss_cons (ps_expr (pe_call G1 (hr.mono (by decide)) rfl g1 k1 b1 .nil (passes_call (E := E) (takes_of rfl rfl rfl rfl) (fun _ _ _ _ z => z)) (pa_cons (pv 0) (pa_cons (pv 1) pa_nil)))) (pss_cons (ps_expr (pe_call G2 (hr.mono (by decide)) rfl g2 k2 b2 .nil (passes_call (E := E) (takes_of rfl rfl rfl rfl) (fun _ _ _ _ z => z)) (pa_cons (pv 0) (pa_cons (pv 2) pa_nil)))) pss_never)), ?_⟩
    refine ⟨_, rfl, ⟨⟨c, n, t, rfl, hc, _, rfl, _, rfl, ⟨⟨c, v, n, t, rfl, hc, ?_⟩⟩⟩⟩⟩
    rcases hv with ⟨h1, k⟩ | ⟨h1, h2, k⟩
    · exact .inl ⟨h1, k⟩
    · exact .inr ⟨h1, fun H' s1 => ⟨_, rfl, _, rfl, ⟨⟨c, u, n, t, rfl, hc.sameI s1, (.inl ⟨h2.same s1, fun H2 s2 => k H2 (s1.trans s2)⟩)⟩⟩⟩⟩
theorem scI_right_row : FnScope ["cabinet", "pattern", "value", "end"] ["cabinet", "pattern", "value"] (defScope s_right_row) := ⟨rfl, rfl, rfl, by decide +kernel, rfl, by decide +kernel, by decide +kernel⟩
theorem ok_right_rowI {f f0 f1 C CQ : Addr} {fd fd0 fd1 : FuncData} (F : Fun K "right_row" "right_row" s_right_row f fd)
    (G0 : FnOk P w K mg base CX0 1 f0 fd0 ["cabinet"] (spCkCab C)) (g0 : mg "check_cabinet" = some (.ref f0)) (k0 : PySem.W.keepIn K (.ref f0) = true) (b0 : Binds K fd0 ["cabinet"] [])
    (G1 : FnOk P w K mg base (L2.CX P w) 4 f1 fd1 ["cabinet", "pattern"] (spCkSgn K C "os?" CQ)) (g1 : mg "check_pattern" = some (.ref f1)) (k1 : PySem.W.keepIn K (.ref f1) = true) (b1 : Binds K fd1 ["cabinet", "pattern"] []) :
    FnOk P w K mg base (L2.CX P w) 6 f fd ["cabinet", "pattern", "value"] (spBadPV K C CQ) := by
  refine F.okX scI_right_row (fun vs H Q E h => ?_) (fun cdv A outer s H vs Q E hr h => ?_)
  · obtain ⟨c, v, u, n, t, rfl, _⟩ := h.h
    rfl
  · obtain ⟨c, v, u, n, t, rfl, hc, hv, k⟩ := h.h
    refine ⟨_, pss_cons (ps_expr (pe_call G0 (hr.mono (by decide)) rfl g0 k0 b0 .nil pass0 (pa_cons (pv 0) pa_nil))) (pss_cons (ps_expr (pe_call G1 (hr.mono (by decide)) rfl g1 k1 b1 .nil (passes_call (E := E) (takes_of rfl rfl rfl rfl) (fun _ _ _ _ z => z)) (pa_cons (pv 0) (pa_cons (pv 1) pa_nil)))) pss_never), ?_⟩
    exact ⟨_, rfl, ⟨⟨c, n, t, rfl, hc, _, rfl, _, rfl, ⟨⟨c, v, n, t, rfl, hc, .inl ⟨hv, k⟩⟩⟩⟩⟩⟩
theorem scI_count_to : FnScope ["cabinet", "length", "pattern", "counts"] ["cabinet", "length", "pattern"] (defScope s_count_to) := ⟨rfl, rfl, rfl, by decide +kernel, rfl, by decide +kernel, by decide +kernel⟩
theorem ok_count_toI {f f0 f1 f2 C CN CQ : Addr} {fd fd0 fd1 fd2 : FuncData} (F : Fun K "count_to" "count_to" s_count_to f fd) (gM : ∃ t, mg "MOST_PULLS" = some (.int 60 t))
    (G0 : FnOk P w K mg base CX0 1 f0 fd0 ["cabinet"] (spCkCab C)) (g0 : mg "check_cabinet" = some (.ref f0)) (k0 : PySem.W.keepIn K (.ref f0) = true) (b0 : Binds K fd0 ["cabinet"] [])
    (G1 : FnOk P w K mg base (L2.CX P w) 4 f1 fd1 ["value", "least", "most"] (spCkLen K CN)) (g1 : mg "check_number" = some (.ref f1)) (k1 : PySem.W.keepIn K (.ref f1) = true) (b1 : Binds K fd1 ["value", "least", "most"] [])
    (G2 : FnOk P w K mg base (L2.CX P w) 4 f2 fd2 ["cabinet", "pattern"] (spCkSgn K C "os?" CQ)) (g2 : mg "check_pattern" = some (.ref f2)) (k2 : PySem.W.keepIn K (.ref f2) = true) (b2 : Binds K fd2 ["cabinet", "pattern"] []) :
    FnOk P w K mg base (L2.CX P w) 6 f fd ["cabinet", "length", "pattern"] (spBadLP K C CN CQ) := by
  refine F.okX scI_count_to (fun vs H Q E h => ?_) (fun cdv A outer s H vs Q E hr h => ?_)
  · obtain ⟨c, v, u, n, t, rfl, _⟩ := h.h
    rfl
  · obtain ⟨c, v, u, n, t, rfl, hc, hv⟩ := h.h
    obtain ⟨tM, gM⟩ := gM
    refine ⟨_, pss_cons (ps_expr (pe_call G0 (hr.mono (by decide)) rfl g0 k0 b0 .nil pass0 (pa_cons (pv 0) pa_nil))) (pss_cons (ps_expr (pe_call G1 (hr.mono (by decide)) rfl g1 k1 b1 .nil (passes_call (E := E) (takes_of rfl rfl rfl rfl) (fun _ _ _ _ z => z)) (pa_cons (pv 1) (pa_cons pe_int (pa_cons (pe_glob (v := .int 60) rfl gM ⟨_, rfl⟩) pa_nil))))) (pss_cons (ps_expr (pe_call G2 (hr.mono (by decide)) rfl g2 k2 b2 .nil (passes_call (E := E) (takes_of rfl rfl rfl rfl) (fun _ _ _ _ z => z)) (pa_cons (pv 0) (pa_cons (pv 2) pa_nil)))) pss_never)), ?_⟩
    refine ⟨_, rfl, ⟨⟨c, n, t, rfl, hc, _, rfl, ⟨⟨v, 0, 60, rfl, ?_⟩⟩⟩⟩⟩
    rcases hv with ⟨h1, k⟩ | ⟨i, rfl, i0, i60, h2, k⟩
    · exact .inl ⟨h1 H, k H (Same.refl H)⟩
    · exact .inr ⟨i, rfl, i0, i60, _, rfl, _, rfl, ⟨⟨c, u, n, t, rfl, hc, .inl ⟨h2, k⟩⟩⟩⟩
end
end DL

set_option Elab.async false
set_option maxRecDepth 100000
set_option maxHeartbeats 1000000
namespace DL
open PySem PySem.Spec PyProof.Rows L2 HT TL
/-! ### a tuple taken once -/
theorem tuple_once (l : Addr) (items : Array Value) (n : Nat) (dd : Option Addr) (sl : Array (Option Value)) (u : Tok) :
    Meets (Builtin.«tuple.__mul__» ⟨[.ref l, .int 1 u], []⟩) (fun _ R s => s.heap.get? l = some { cls := .type "tuple", dict := dd, data := .seq items n, slots := sl } ∧ R (.ok (.ret (Value.ref l))) s) :=
  .of_wp fun prog w A R s h => by
    obtain ⟨hp, g, d, tk, os⟩ := s
    obtain ⟨hl, h⟩ := h
    have f1 := AutoSeq1.idx_int
    have c0 : (decide ((1 : Int) < -(2 ^ 63)) || decide ((1 : Int) ≥ 2 ^ 63)) = false := by decide
    have c1 : (items.isEmpty || (1 : Int) == 1) = true := by simp
    wp_walk using wpAny_loadPart' hl
    repeat (first
      | (refine wpAny_ite_false (decide_eq_false (by rw [c0]; exact Bool.false_ne_true)) ?_; wp_walk using wpAny_loadPart' hl)
      | (refine wpAny_ite_true (decide_eq_true c1) ?_; wp_walk using wpAny_loadPart' hl))
    exact ⟨_, rfl, h⟩
theorem op_repOne {X : Cx} : OpR X (binaryOp .Mult) (fun x y H Q => ∃ l xs, x = .ref l ∧ y = .int 1 ∧ SqT X.K H l xs ∧ Q (.ref l) H) := by
  intro pins s σ H x y v u Q I rx ry h
  obtain ⟨l, xs, rfl, rfl, hT, q⟩ := h
  cases rx
  obtain ⟨t, rfl⟩ := ry
  obtain ⟨its, r, ⟨⟨cls, dd, data, sl⟩, ho, hc, n, hd⟩, hs⟩ := I.tuple hT
  simp only at hc hd
  subst hc hd
  exact wpAny_binaryOp_repeat_ref (T := "tuple") (U := "int") (by decide) ⟨_, ho, rfl⟩ (fun s' => typeIs_int s' 1 t) noFill_tuple_mul F.fills_int_mul F.slot_int_rmul repeat_tuple F.slot_int_index.lookup
    (call_meets F.slot_int_rmul (typeIs_int s 1 t) F.entry_int_rmul (F.args_int_rmul_2 _ _) (int_rmul_tuple 1 t l its.toArray n dd sl)
      ⟨ho, rfl, ⟨_, ho, rfl⟩, call_meets F.slot_tuple_mul ⟨_, ho, rfl⟩ F.entry_tuple_mul (F.args_tuple_mul_2 _ _) (tuple_once l its.toArray n dd sl t) ⟨ho, .ref l, _, I, rfl, q⟩⟩)
/-- a tuple of one, taken so many times -/
theorem op_repAny {X : Cx} : OpR X (binaryOp .Mult) (fun x y H Q => ∃ l k z, x = .ref l ∧ y = .int k ∧ SqT X.K H l [.str z] ∧ 1 ≤ k ∧ k ≤ 1000 ∧ ∀ p xs H', Same H H' → SqT X.K H' p xs → Q (.ref p) H') := by
  intro pins s σ H x y v u Q I rx ry h
  obtain ⟨l, k, z, rfl, rfl, hT, h1, h2, q⟩ := h
  by_cases e : k = 1
  · subst e
    exact op_repOne pins s σ H _ _ v u Q I rx ry ⟨l, _, rfl, rfl, hT, q l _ H (Same.refl H) hT⟩
  · exact op_repT pins s σ H _ _ v u Q I rx ry ⟨l, k, _, rfl, rfl, hT, by simp, by omega, h2, by simp, fun p hp => q p _ _ (same_upd hp) (SqT.of' upd_same)⟩
theorem mulOk_8 {z : Str} {n : Int} (hz : z.length = 1) (h0 : 0 ≤ n) (h8 : n ≤ 8) : MulOk z n := by
  by_cases e : n = 0
  · subst e
    exact ⟨by decide, fun h => absurd (by decide) h, fun h => absurd (by decide) h⟩
  refine ⟨?_, fun _ _ => ?_, fun _ _ => ?_⟩
  · rw [decide_eq_false (by omega), decide_eq_false (by omega)]; rfl
  · rw [hz]
    have : n = 1 ∨ n = 2 ∨ n = 3 ∨ n = 4 ∨ n = 5 ∨ n = 6 ∨ n = 7 ∨ n = 8 := by omega
    rcases this with rfl | rfl | rfl | rfl | rfl | rfl | rfl | rfl <;> decide
  · rw [hz]
    have : n = 1 ∨ n = 2 ∨ n = 3 ∨ n = 4 ∨ n = 5 ∨ n = 6 ∨ n = 7 ∨ n = 8 := by omega
    rcases this with rfl | rfl | rfl | rfl | rfl | rfl | rfl | rfl <;> decide +kernel
/-! ### odd standings and patterns -/
theorem odd_txt {n : Int} {z : Str} (h1 : 1 ≤ n) (h7 : n ≤ 7) (hz : z = "os" ∨ z = "os?") :
    ((Txt.mul "s" (n + 1)).length ≤ 1000 ∧ sgnB n z (.str (Txt.mul "s" (n + 1))) = false) ∧ ((Txt.mul "s" (n - 1)).length ≤ 1000 ∧ sgnB n z (.str (Txt.mul "s" (n - 1))) = false) ∧
    ((Txt.mul "S" n).length ≤ 1000 ∧ sgnB n z (.str (Txt.mul "S" n)) = false) ∧ ((Txt.mul "x" n).length ≤ 1000 ∧ sgnB n z (.str (Txt.mul "x" n)) = false) ∧ ((Txt.mul "?" n).length ≤ 1000 ∧ sgnB n "os" (.str (Txt.mul "?" n)) = false) := by
  have : n = 1 ∨ n = 2 ∨ n = 3 ∨ n = 4 ∨ n = 5 ∨ n = 6 ∨ n = 7 := by omega
  rcases hz with rfl | rfl <;> rcases this with rfl | rfl | rfl | rfl | rfl | rfl | rfl <;> exact ⟨⟨by decide +kernel, by decide +kernel⟩, ⟨by decide +kernel, by decide +kernel⟩, ⟨by decide +kernel, by decide +kernel⟩, ⟨by decide +kernel, by decide +kernel⟩, ⟨by decide +kernel, by decide +kernel⟩⟩
theorem odd_std {K : PySem.W.Frag} {H : Hp} {n v : Int} {z : Str} {p d r : Addr} {xs ys : List V} (hr : H r = some (.lst ys)) (nd : d ≠ r) (h1 : 1 ≤ n) (h7 : n ≤ 7) (hz : z = "os" ∨ z = "os?") (h0 : 0 ≤ v) (h9 : v < 9) (hp : ∀ H', But r H H' → SqT K H' p xs) (hd : H d = some (.dT [])) :
    ∃ x, atI [.non, .int 0, .str (Txt.mul "s" (n + 1)), .str (Txt.mul "s" (n - 1)), .str (Txt.mul "S" n), .ref p, .str (Txt.mul "x" n), .bl true, .ref d] v = some x ∧ ∀ H', But r H H' → BadSgn K z H' n x := by
  obtain ⟨⟨a1, a2⟩, ⟨b1, b2⟩, ⟨c1, c2⟩, ⟨d1, d2⟩, _⟩ := odd_txt h1 h7 hz
  have : v = 0 ∨ v = 1 ∨ v = 2 ∨ v = 3 ∨ v = 4 ∨ v = 5 ∨ v = 6 ∨ v = 7 ∨ v = 8 := by omega
  rcases this with rfl | rfl | rfl | rfl | rfl | rfl | rfl | rfl | rfl
  · exact ⟨.non, rfl, fun _ _ => .inl ⟨.type "NoneType", fun _ _ => .base .non, kit_ty (by decide +kernel)⟩⟩
  · exact ⟨.int 0, rfl, fun _ _ => .inl ⟨.type "int", fun _ _ => .base (.int _), kit_ty (by decide +kernel)⟩⟩
  · exact ⟨_, rfl, fun _ _ => .inr ⟨_, rfl, a1, a2⟩⟩
  · exact ⟨_, rfl, fun _ _ => .inr ⟨_, rfl, b1, b2⟩⟩
  · exact ⟨_, rfl, fun _ _ => .inr ⟨_, rfl, c1, c2⟩⟩
  · exact ⟨.ref p, rfl, fun H' b => .inl ⟨.type "tuple", fun H2 s => tyT (SqT.same s (hp H' b)), kit_ty (by decide +kernel)⟩⟩
  · exact ⟨_, rfl, fun _ _ => .inr ⟨_, rfl, d1, d2⟩⟩
  · exact ⟨.bl true, rfl, fun _ _ => .inl ⟨.type "bool", fun _ _ => .base (.bl _), kit_ty (by decide +kernel)⟩⟩
  · exact ⟨.ref d, rfl, fun _ b => .inl ⟨.type "dict", fun _ s => .base (.dT (s _ _ (b _ _ nd hd))), kit_ty (by decide +kernel)⟩⟩
theorem sqT_but {K : PySem.W.Frag} {r : Addr} {H H' : Hp} {a : Addr} {xs ys : List V} (hr : H r = some (.lst ys)) (B : But r H H') (h : SqT K H a xs) : SqT K H' a xs := by
  rcases h with (h | ⟨o, h⟩) | h
  · exact .inl (.inl (B.tup hr h))
  · exact .inl (.inr ⟨o, B _ _ (ne_of h hr (by intro z; cases z)) h⟩)
  · exact .inr h
structure spOddS (K : PySem.W.Frag) (vs : List V) (H : Hp) (Q : VK) (_ : XK) : Prop where
  h : ∃ (r sc : Addr) (ns : List Int) (n : Int) (z : Str), vs = [.ref r, .int n, .str z] ∧ RowOk H r sc ∧ SqL K H sc (ns.map V.int) ∧ (∀ H', But r H H' → SqL K H' sc (ns.map V.int)) ∧ 1 ≤ n ∧ n ≤ 7 ∧ (z = "os" ∨ z = "os?") ∧
    ∀ (x : V) (H' : Hp), RowOk H' r sc → But r H H' → (∀ H'', But r H' H'' → BadSgn K z H'' n x) → Q x H'
section
variable {P : Program} {w : World} {K : PySem.W.Frag} {mg : Str → Option Value} {base : Heap}
abbrev nOS : List Str := ["_law_row", "_law_many", "_law_signs", "_law_odd"]
structure spDeskI (D C : Addr) (vs : List V) (H : Hp) (Q : VK) (_ : XK) : Prop where
  h : ∃ (p dx c t : Addr) (n : Nat), vs = [.ref p, .ref c] ∧ H p = some (.ins D dx []) ∧ CabAt C H c n t ∧ 1 ≤ n ∧ n ≤ 7 ∧ ∀ (l : Addr) (st : V) (H' : Hp), H' p = some (.ins D dx [("_cabinet", .ref c), ("_standing", st), ("_pulls", .ref l)]) → (∀ b o, b ≠ p → H b = some o → H' b = some o) → Q .non H'
structure spPullX (D C CE : Addr) (vs : List V) (H : Hp) (_ : VK) (E : XK) : Prop where
  h : ∃ (p dx c l t : Addr) (st v : V) (n : Int), vs = [.ref p, v] ∧ H p = some (.ins D dx [("_cabinet", .ref c), ("_standing", st), ("_pulls", .ref l)]) ∧ CabAt C H c n t ∧ BadDrw n v ∧ E (.ref CE) none H
structure DeskT (K : PySem.W.Frag) (mg : Str → Option Value) (D : Addr) : Prop where
  cl : Cls K D
  nC : NoAttr K D "_cabinet"
  nS : NoAttr K D "_standing"
  nP : NoAttr K D "_pulls"
  mgD : mg "Desk" = some (.ref D)
theorem scDI : FnScope ["self", "cabinet"] ["self", "cabinet"] (defScope s_Desk__init_) := ⟨rfl, rfl, rfl, by decide +kernel, rfl, by decide +kernel, by decide +kernel⟩
theorem ok_deskI {f f0 f1 D C : Addr} {fd fd0 fd1 : FuncData} (F : Fun K "__init__" "Desk.__init__" s_Desk__init_ f fd) (T : DeskT K mg D) (CP : CabP P w K mg base C)
    (G0 : FnOk P w K mg base CX0 1 f0 fd0 ["cabinet"] (spCkCab C)) (g0 : mg "check_cabinet" = some (.ref f0)) (k0 : PySem.W.keepIn K (.ref f0) = true) (b0 : Binds K fd0 ["cabinet"] [])
    (G1 : FnOk P w K mg base CX0 1 f1 fd1 ["drawers"] spFirst) (g1 : mg "first_standing" = some (.ref f1)) (k1 : PySem.W.keepIn K (.ref f1) = true) (b1 : Binds K fd1 ["drawers"] []) :
    FnOk P w K mg base CX0 3 f fd ["self", "cabinet"] (spDeskI D C) := by
  refine F.ok scDI (fun vs H Q E h => ?_) (fun cdv A outer s H vs Q E hr h => ?_)
  · obtain ⟨p, dx, c, t, n, rfl, _⟩ := h.h
    rfl
  · obtain ⟨p, dx, c, t, n, rfl, hp, ⟨dc, hc⟩, n1, n7, k⟩ := h.h
    obtain ⟨pD, gD, fdD, hpD, GD, bD⟩ := CP.d
    refine ⟨_, pss_cons (ps_expr (pe_call G0 (hr.mono (by decide)) rfl g0 k0 b0 .nil pass0 (pa_cons (pv 1) pa_nil))) (pss_cons (ps_fld (pv 0) (pv 1) rfl)
      (pss_cons (ps_fld (pv 0) (pe_call G1 (hr.mono (by decide)) rfl g1 k1 b1 .nil pass0 (pa_cons (pe_prop (pv 1) CP.cl hpD GD (hr.mono (by decide)) bD .nil pass0 rfl) pa_nil)) rfl) (pss_one (ps_fld (pv 0) (pe_lst pa_nil) rfl)))), ?_⟩
    have pc : p ≠ c := ne_of hp hc (by intro z; injection z with _ _ z; cases z)
    refine ⟨_, rfl, ⟨⟨c, n, t, rfl, ⟨dc, hc⟩, ?_⟩⟩⟩
    refine ⟨_, rfl, _, rfl, p, D, dx, _, rfl, hp, T.cl, T.nC, (by show 0 < 1000; decide), ?_⟩
    have hc1 : ∀ o, (upd H p o) c = some (.ins C dc (cfl n t)) := fun o => by
      rw [upd_ne (Ne.symm pc)]
      exact hc
    refine ⟨_, rfl, c, dc, _, rfl, hc1 _, ⟨⟨c, dc, _, t, rfl, hc1 _, ⟨⟨n, rfl, n1, n7, ?_⟩⟩⟩⟩⟩
    refine ⟨_, rfl, p, D, dx, _, rfl, upd_same, T.cl, T.nS, (by show 1 < 1000; decide), ?_⟩
    refine ⟨(by show 0 ≤ sizeLine; decide), fun l hl => ?_⟩
    have pl : p ≠ l := ne_of_none upd_same hl
    refine ⟨_, rfl, p, D, dx, _, rfl, by rw [upd_ne pl]; exact upd_same, T.cl, T.nP, (by show 2 < 1000; decide), ?_⟩
    have hcn : H l = none := by
      rw [upd_ne (Ne.symm pl), upd_ne (Ne.symm pl)] at hl
      exact hl
    refine k l _ _ upd_same fun b o hb e => ?_
    rw [upd_ne hb, upd_ne (ne_of_none e hcn), upd_ne hb, upd_ne hb]
    exact e
theorem scDP : FnScope ["self", "drawer"] ["self", "drawer"] (defScope s_Desk_pull) := ⟨rfl, rfl, rfl, by decide +kernel, rfl, by decide +kernel, by decide +kernel⟩
theorem ok_pullX {f f1 D C CE : Addr} {fd fd1 : FuncData} (F : Fun K "pull" "Desk.pull" s_Desk_pull f fd) (T : DeskT K mg D)
    (G1 : FnOk P w K mg base (L2.CX P w) 4 f1 fd1 ["cabinet", "drawer"] (spCkDrw C CE)) (g1 : mg "check_drawer" = some (.ref f1)) (k1 : PySem.W.keepIn K (.ref f1) = true) (b1 : Binds K fd1 ["cabinet", "drawer"] []) :
    FnOk P w K mg base (L2.CX P w) 5 f fd ["self", "drawer"] (spPullX D C CE) := by
  refine F.okX scDP (fun vs H Q E h => ?_) (fun cdv A outer s H vs Q E hr h => ?_)
  · obtain ⟨p, dx, c, l, t, st, v, n, rfl, _⟩ := h.h
    rfl
  · obtain ⟨p, dx, c, l, t, st, v, n, rfl, hp, hc, hv, k⟩ := h.h
    refine ⟨_, pss_cons (ps_expr (pe_call G1 (hr.mono (by decide)) rfl g1 k1 b1 .nil (passes_call (E := E) (takes_of rfl rfl rfl rfl) (fun _ _ _ _ z => z)) (pa_cons (pe_fld (pv 0) rfl) (pa_cons (pv 1) pa_nil)))) pss_never, ?_⟩
    exact ⟨_, rfl, p, D, dx, _, _, rfl, hp, T.cl, T.nC, rfl, _, rfl, ⟨⟨c, v, n, t, rfl, hc, hv, k⟩⟩⟩
end
end DL

set_option Elab.async false
set_option maxRecDepth 100000
set_option maxHeartbeats 1000000
namespace DL
open PySem L2 HT TL
/-! ### what is no cabinet -/
def NoCab (K : PySem.W.Frag) (C : Addr) (H : Hp) (v : V) : Prop := ∃ t, (∀ H', Same H H' → TyX K H' v t) ∧ PySem.W.kitOne K t (.ref C) = some false
theorem NoCab.same {K : PySem.W.Frag} {C : Addr} {H H' : Hp} {v : V} (h : NoCab K C H v) (s : Same H H') : NoCab K C H' v := by
  obtain ⟨t, h1, h2⟩ := h
  exact ⟨t, fun H2 s2 => h1 H2 (s.trans s2), h2⟩
structure spCkC (K : PySem.W.Frag) (C CB : Addr) (vs : List V) (H : Hp) (Q : VK) (E : XK) : Prop where
  h : ∃ v : V, vs = [v] ∧ ((∃ (c : Addr) (n : Int) (t : Addr), v = .ref c ∧ CabAt C H c n t ∧ Q .non H) ∨ (NoCab K C H v ∧ E (.ref CB) none H))
structure spN1 (K : PySem.W.Frag) (C CB : Addr) (vs : List V) (H : Hp) (_ : VK) (E : XK) : Prop where
  h : ∃ v : V, vs = [v] ∧ NoCab K C H v ∧ E (.ref CB) none H
structure spN2 (K : PySem.W.Frag) (C CB : Addr) (vs : List V) (H : Hp) (_ : VK) (E : XK) : Prop where
  h : ∃ v u : V, vs = [v, u] ∧ NoCab K C H v ∧ E (.ref CB) none H
structure spN3 (K : PySem.W.Frag) (C CB : Addr) (vs : List V) (H : Hp) (_ : VK) (E : XK) : Prop where
  h : ∃ v u x : V, vs = [v, u, x] ∧ NoCab K C H v ∧ E (.ref CB) none H
structure spNA (K : PySem.W.Frag) (C CB : Addr) (vs : List V) (H : Hp) (_ : VK) (E : XK) : Prop where
  h : ∃ v u : V, vs = [v, u] ∧ (NoCab K C H v ∨ ((∃ (c : Addr) (n : Int) (t : Addr), v = .ref c ∧ CabAt C H c n t) ∧ NoCab K C H u)) ∧ E (.ref CB) none H
section
variable {P : Program} {w : World} {K : PySem.W.Frag} {mg : Str → Option Value} {base : Heap}
theorem scCkC : FnScope ["cabinet"] ["cabinet"] (defScope s_check_cabinet) := ⟨rfl, rfl, rfl, by decide +kernel, rfl, by decide +kernel, by decide +kernel⟩
theorem ok_ckC {f C CB : Addr} {fd : FuncData} (F : Fun K "check_cabinet" "check_cabinet" s_check_cabinet f fd) (T : Bt mg) (I : CabI K mg C) (BT : ErrT K mg "BadCabinet" CB) : FnOk P w K mg base (L2.CX P w) 2 f fd ["cabinet"] (spCkC K C CB) := by
  refine F.okX scCkC (fun vs H Q E h => ?_) (fun cdv A outer s H vs Q E hr h => ?_)
  · obtain ⟨v, rfl, _⟩ := h.h
    rfl
  · obtain ⟨v, rfl, hv⟩ := h.h
    refine ⟨_, pss_one (ps_if (pt_not (pt_val (pe_callB call_isi (by rfl) T.isinstance (by decide +kernel) (pa_cons (pv 0) (pa_cons (pe_glob (v := .ref C) rfl I.mgC rfl) pa_nil)))))
      (pss_one (ps_raise rfl (takes_of rfl rfl rfl rfl) (pmk_own PySem.F.excBase_ValueError BT.x BT.g BT.k (raises_own BT.b BT.t) (by exact rfl)))) pss_nil), ?_⟩
    rcases hv with ⟨c, n, t, rfl, ⟨dx, hc⟩, k⟩ | ⟨⟨t, ty, kt⟩, k⟩
    · exact ⟨_, rfl, _, _, _, _, true, rfl, .own C, .base (.ins hc I.cl I.ha I.hn I.htk I.hm), I.kk, _, rfl, iteF k⟩
    · exact ⟨_, rfl, _, _, t, _, false, rfl, .own C, ty H (Same.refl H), kt, _, rfl, iteT k⟩
theorem scN_fewest_bars : FnScope ["cabinet"] ["cabinet"] (defScope s_fewest_bars) := ⟨rfl, rfl, rfl, by decide +kernel, rfl, by decide +kernel, by decide +kernel⟩
theorem ok_fewest_bars_N {f f0 C CB : Addr} {fd fd0 : FuncData} (F : Fun K "fewest_bars" "fewest_bars" s_fewest_bars f fd)
    (G0 : FnOk P w K mg base (L2.CX P w) 2 f0 fd0 ["cabinet"] (spCkC K C CB)) (g0 : mg "check_cabinet" = some (.ref f0)) (k0 : PySem.W.keepIn K (.ref f0) = true) (b0 : Binds K fd0 ["cabinet"] []) :
    FnOk P w K mg base (L2.CX P w) 4 f fd ["cabinet"] (spN1 K C CB) := by
  refine F.okX scN_fewest_bars (fun vs H Q E h => ?_) (fun cdv A outer s H vs Q E hr h => ?_)
  · obtain ⟨v, rfl, _⟩ := h.h
    rfl
  · obtain ⟨v, rfl, hv, k⟩ := h.h
    refine ⟨_, pss_cons (ps_expr (pe_call G0 (hr.mono (by decide)) rfl g0 k0 b0 .nil (passes_call (E := E) (takes_of rfl rfl rfl rfl) (fun _ _ _ _ z => z)) (pa_cons (pv 0) pa_nil))) pss_never, ?_⟩
    exact ⟨_, rfl, ⟨⟨v, rfl, .inr ⟨hv, k⟩⟩⟩⟩
theorem scN_needless : FnScope ["cabinet", "needs"] ["cabinet"] (defScope s_needless) := ⟨rfl, rfl, rfl, by decide +kernel, rfl, by decide +kernel, by decide +kernel⟩
theorem ok_needless_N {f f0 C CB : Addr} {fd fd0 : FuncData} (F : Fun K "needless" "needless" s_needless f fd)
    (G0 : FnOk P w K mg base (L2.CX P w) 2 f0 fd0 ["cabinet"] (spCkC K C CB)) (g0 : mg "check_cabinet" = some (.ref f0)) (k0 : PySem.W.keepIn K (.ref f0) = true) (b0 : Binds K fd0 ["cabinet"] []) :
    FnOk P w K mg base (L2.CX P w) 4 f fd ["cabinet"] (spN1 K C CB) := by
  refine F.okX scN_needless (fun vs H Q E h => ?_) (fun cdv A outer s H vs Q E hr h => ?_)
  · obtain ⟨v, rfl, _⟩ := h.h
    rfl
  · obtain ⟨v, rfl, hv, k⟩ := h.h
    refine ⟨_, pss_cons (ps_expr (pe_call G0 (hr.mono (by decide)) rfl g0 k0 b0 .nil (passes_call (E := E) (takes_of rfl rfl rfl rfl) (fun _ _ _ _ z => z)) (pa_cons (pv 0) pa_nil))) pss_never, ?_⟩
    exact ⟨_, rfl, ⟨⟨v, rfl, .inr ⟨hv, k⟩⟩⟩⟩
theorem scN_farthest : FnScope ["cabinet", "rows", "most"] ["cabinet"] (defScope s_farthest) := ⟨rfl, rfl, rfl, by decide +kernel, rfl, by decide +kernel, by decide +kernel⟩
theorem ok_farthest_N {f f0 C CB : Addr} {fd fd0 : FuncData} (F : Fun K "farthest" "farthest" s_farthest f fd)
    (G0 : FnOk P w K mg base (L2.CX P w) 2 f0 fd0 ["cabinet"] (spCkC K C CB)) (g0 : mg "check_cabinet" = some (.ref f0)) (k0 : PySem.W.keepIn K (.ref f0) = true) (b0 : Binds K fd0 ["cabinet"] []) :
    FnOk P w K mg base (L2.CX P w) 4 f fd ["cabinet"] (spN1 K C CB) := by
  refine F.okX scN_farthest (fun vs H Q E h => ?_) (fun cdv A outer s H vs Q E hr h => ?_)
  · obtain ⟨v, rfl, _⟩ := h.h
    rfl
  · obtain ⟨v, rfl, hv, k⟩ := h.h
    refine ⟨_, pss_cons (ps_expr (pe_call G0 (hr.mono (by decide)) rfl g0 k0 b0 .nil (passes_call (E := E) (takes_of rfl rfl rfl rfl) (fun _ _ _ _ z => z)) (pa_cons (pv 0) pa_nil))) pss_never, ?_⟩
    exact ⟨_, rfl, ⟨⟨v, rfl, .inr ⟨hv, k⟩⟩⟩⟩
theorem scN_reached : FnScope ["cabinet"] ["cabinet"] (defScope s_reached) := ⟨rfl, rfl, rfl, by decide +kernel, rfl, by decide +kernel, by decide +kernel⟩
theorem ok_reached_N {f f0 C CB : Addr} {fd fd0 : FuncData} (F : Fun K "reached" "reached" s_reached f fd)
    (G0 : FnOk P w K mg base (L2.CX P w) 2 f0 fd0 ["cabinet"] (spCkC K C CB)) (g0 : mg "check_cabinet" = some (.ref f0)) (k0 : PySem.W.keepIn K (.ref f0) = true) (b0 : Binds K fd0 ["cabinet"] []) :
    FnOk P w K mg base (L2.CX P w) 4 f fd ["cabinet"] (spN1 K C CB) := by
  refine F.okX scN_reached (fun vs H Q E h => ?_) (fun cdv A outer s H vs Q E hr h => ?_)
  · obtain ⟨v, rfl, _⟩ := h.h
    rfl
  · obtain ⟨v, rfl, hv, k⟩ := h.h
    refine ⟨_, pss_cons (ps_expr (pe_call G0 (hr.mono (by decide)) rfl g0 k0 b0 .nil (passes_call (E := E) (takes_of rfl rfl rfl rfl) (fun _ _ _ _ z => z)) (pa_cons (pv 0) pa_nil))) pss_never, ?_⟩
    exact ⟨_, rfl, ⟨⟨v, rfl, .inr ⟨hv, k⟩⟩⟩⟩
theorem scN_dead_end : FnScope ["cabinet", "pulls"] ["cabinet"] (defScope s_dead_end) := ⟨rfl, rfl, rfl, by decide +kernel, rfl, by decide +kernel, by decide +kernel⟩
theorem ok_dead_end_N {f f0 C CB : Addr} {fd fd0 : FuncData} (F : Fun K "dead_end" "dead_end" s_dead_end f fd)
    (G0 : FnOk P w K mg base (L2.CX P w) 2 f0 fd0 ["cabinet"] (spCkC K C CB)) (g0 : mg "check_cabinet" = some (.ref f0)) (k0 : PySem.W.keepIn K (.ref f0) = true) (b0 : Binds K fd0 ["cabinet"] []) :
    FnOk P w K mg base (L2.CX P w) 4 f fd ["cabinet"] (spN1 K C CB) := by
  refine F.okX scN_dead_end (fun vs H Q E h => ?_) (fun cdv A outer s H vs Q E hr h => ?_)
  · obtain ⟨v, rfl, _⟩ := h.h
    rfl
  · obtain ⟨v, rfl, hv, k⟩ := h.h
    refine ⟨_, pss_cons (ps_expr (pe_call G0 (hr.mono (by decide)) rfl g0 k0 b0 .nil (passes_call (E := E) (takes_of rfl rfl rfl rfl) (fun _ _ _ _ z => z)) (pa_cons (pv 0) pa_nil))) pss_never, ?_⟩
    exact ⟨_, rfl, ⟨⟨v, rfl, .inr ⟨hv, k⟩⟩⟩⟩
theorem scN_never_opened : FnScope ["cabinet", "standings"] ["cabinet"] (defScope s_never_opened) := ⟨rfl, rfl, rfl, by decide +kernel, rfl, by decide +kernel, by decide +kernel⟩
theorem ok_never_opened_N {f f0 C CB : Addr} {fd fd0 : FuncData} (F : Fun K "never_opened" "never_opened" s_never_opened f fd)
    (G0 : FnOk P w K mg base (L2.CX P w) 2 f0 fd0 ["cabinet"] (spCkC K C CB)) (g0 : mg "check_cabinet" = some (.ref f0)) (k0 : PySem.W.keepIn K (.ref f0) = true) (b0 : Binds K fd0 ["cabinet"] []) :
    FnOk P w K mg base (L2.CX P w) 4 f fd ["cabinet"] (spN1 K C CB) := by
  refine F.okX scN_never_opened (fun vs H Q E h => ?_) (fun cdv A outer s H vs Q E hr h => ?_)
  · obtain ⟨v, rfl, _⟩ := h.h
    rfl
  · obtain ⟨v, rfl, hv, k⟩ := h.h
    refine ⟨_, pss_cons (ps_expr (pe_call G0 (hr.mono (by decide)) rfl g0 k0 b0 .nil (passes_call (E := E) (takes_of rfl rfl rfl rfl) (fun _ _ _ _ z => z)) (pa_cons (pv 0) pa_nil))) pss_never, ?_⟩
    exact ⟨_, rfl, ⟨⟨v, rfl, .inr ⟨hv, k⟩⟩⟩⟩
theorem scN_no_return : FnScope ["cabinet", "pulls"] ["cabinet"] (defScope s_no_return) := ⟨rfl, rfl, rfl, by decide +kernel, rfl, by decide +kernel, by decide +kernel⟩
theorem ok_no_return_N {f f0 C CB : Addr} {fd fd0 : FuncData} (F : Fun K "no_return" "no_return" s_no_return f fd)
    (G0 : FnOk P w K mg base (L2.CX P w) 2 f0 fd0 ["cabinet"] (spCkC K C CB)) (g0 : mg "check_cabinet" = some (.ref f0)) (k0 : PySem.W.keepIn K (.ref f0) = true) (b0 : Binds K fd0 ["cabinet"] []) :
    FnOk P w K mg base (L2.CX P w) 4 f fd ["cabinet"] (spN1 K C CB) := by
  refine F.okX scN_no_return (fun vs H Q E h => ?_) (fun cdv A outer s H vs Q E hr h => ?_)
  · obtain ⟨v, rfl, _⟩ := h.h
    rfl
  · obtain ⟨v, rfl, hv, k⟩ := h.h
    refine ⟨_, pss_cons (ps_expr (pe_call G0 (hr.mono (by decide)) rfl g0 k0 b0 .nil (passes_call (E := E) (takes_of rfl rfl rfl rfl) (fun _ _ _ _ z => z)) (pa_cons (pv 0) pa_nil))) pss_never, ?_⟩
    exact ⟨_, rfl, ⟨⟨v, rfl, .inr ⟨hv, k⟩⟩⟩⟩
theorem scN_write : FnScope ["cabinet", "lines"] ["cabinet"] (defScope s_write) := ⟨rfl, rfl, rfl, by decide +kernel, rfl, by decide +kernel, by decide +kernel⟩
theorem ok_write_N {f f0 C CB : Addr} {fd fd0 : FuncData} (F : Fun K "write" "write" s_write f fd)
    (G0 : FnOk P w K mg base (L2.CX P w) 2 f0 fd0 ["cabinet"] (spCkC K C CB)) (g0 : mg "check_cabinet" = some (.ref f0)) (k0 : PySem.W.keepIn K (.ref f0) = true) (b0 : Binds K fd0 ["cabinet"] []) :
    FnOk P w K mg base (L2.CX P w) 4 f fd ["cabinet"] (spN1 K C CB) := by
  refine F.okX scN_write (fun vs H Q E h => ?_) (fun cdv A outer s H vs Q E hr h => ?_)
  · obtain ⟨v, rfl, _⟩ := h.h
    rfl
  · obtain ⟨v, rfl, hv, k⟩ := h.h
    refine ⟨_, pss_cons (ps_expr (pe_call G0 (hr.mono (by decide)) rfl g0 k0 b0 .nil (passes_call (E := E) (takes_of rfl rfl rfl rfl) (fun _ _ _ _ z => z)) (pa_cons (pv 0) pa_nil))) pss_never, ?_⟩
    exact ⟨_, rfl, ⟨⟨v, rfl, .inr ⟨hv, k⟩⟩⟩⟩
theorem scN_most_open : FnScope ["cabinet", "rows", "most"] ["cabinet"] (defScope s_most_open) := ⟨rfl, rfl, rfl, by decide +kernel, rfl, by decide +kernel, by decide +kernel⟩
theorem ok_most_open_N {f f0 C CB : Addr} {fd fd0 : FuncData} (F : Fun K "most_open" "most_open" s_most_open f fd)
    (G0 : FnOk P w K mg base (L2.CX P w) 2 f0 fd0 ["cabinet"] (spCkC K C CB)) (g0 : mg "check_cabinet" = some (.ref f0)) (k0 : PySem.W.keepIn K (.ref f0) = true) (b0 : Binds K fd0 ["cabinet"] []) :
    FnOk P w K mg base (L2.CX P w) 4 f fd ["cabinet"] (spN1 K C CB) := by
  refine F.okX scN_most_open (fun vs H Q E h => ?_) (fun cdv A outer s H vs Q E hr h => ?_)
  · obtain ⟨v, rfl, _⟩ := h.h
    rfl
  · obtain ⟨v, rfl, hv, k⟩ := h.h
    refine ⟨_, pss_cons (ps_expr (pe_call G0 (hr.mono (by decide)) rfl g0 k0 b0 .nil (passes_call (E := E) (takes_of rfl rfl rfl rfl) (fun _ _ _ _ z => z)) (pa_cons (pv 0) pa_nil))) pss_never, ?_⟩
    exact ⟨_, rfl, ⟨⟨v, rfl, .inr ⟨hv, k⟩⟩⟩⟩
theorem scN_never_together : FnScope ["cabinet", "standings"] ["cabinet"] (defScope s_never_together) := ⟨rfl, rfl, rfl, by decide +kernel, rfl, by decide +kernel, by decide +kernel⟩
theorem ok_never_together_N {f f0 C CB : Addr} {fd fd0 : FuncData} (F : Fun K "never_together" "never_together" s_never_together f fd)
    (G0 : FnOk P w K mg base (L2.CX P w) 2 f0 fd0 ["cabinet"] (spCkC K C CB)) (g0 : mg "check_cabinet" = some (.ref f0)) (k0 : PySem.W.keepIn K (.ref f0) = true) (b0 : Binds K fd0 ["cabinet"] []) :
    FnOk P w K mg base (L2.CX P w) 4 f fd ["cabinet"] (spN1 K C CB) := by
  refine F.okX scN_never_together (fun vs H Q E h => ?_) (fun cdv A outer s H vs Q E hr h => ?_)
  · obtain ⟨v, rfl, _⟩ := h.h
    rfl
  · obtain ⟨v, rfl, hv, k⟩ := h.h
    refine ⟨_, pss_cons (ps_expr (pe_call G0 (hr.mono (by decide)) rfl g0 k0 b0 .nil (passes_call (E := E) (takes_of rfl rfl rfl rfl) (fun _ _ _ _ z => z)) (pa_cons (pv 0) pa_nil))) pss_never, ?_⟩
    exact ⟨_, rfl, ⟨⟨v, rfl, .inr ⟨hv, k⟩⟩⟩⟩
theorem scN_can : FnScope ["cabinet", "standing"] ["cabinet", "standing"] (defScope s_can) := ⟨rfl, rfl, rfl, by decide +kernel, rfl, by decide +kernel, by decide +kernel⟩
theorem ok_can_N {f f0 C CB : Addr} {fd fd0 : FuncData} (F : Fun K "can" "can" s_can f fd)
    (G0 : FnOk P w K mg base (L2.CX P w) 2 f0 fd0 ["cabinet"] (spCkC K C CB)) (g0 : mg "check_cabinet" = some (.ref f0)) (k0 : PySem.W.keepIn K (.ref f0) = true) (b0 : Binds K fd0 ["cabinet"] []) :
    FnOk P w K mg base (L2.CX P w) 4 f fd ["cabinet", "standing"] (spN2 K C CB) := by
  refine F.okX scN_can (fun vs H Q E h => ?_) (fun cdv A outer s H vs Q E hr h => ?_)
  · obtain ⟨v, u, rfl, _⟩ := h.h
    rfl
  · obtain ⟨v, u, rfl, hv, k⟩ := h.h
    refine ⟨_, pss_cons (ps_expr (pe_call G0 (hr.mono (by decide)) rfl g0 k0 b0 .nil (passes_call (E := E) (takes_of rfl rfl rfl rfl) (fun _ _ _ _ z => z)) (pa_cons (pv 0) pa_nil))) pss_never, ?_⟩
    exact ⟨_, rfl, ⟨⟨v, rfl, .inr ⟨hv, k⟩⟩⟩⟩
theorem scN_count_rows : FnScope ["cabinet", "length"] ["cabinet", "length"] (defScope s_count_rows) := ⟨rfl, rfl, rfl, by decide +kernel, rfl, by decide +kernel, by decide +kernel⟩
theorem ok_count_rows_N {f f0 C CB : Addr} {fd fd0 : FuncData} (F : Fun K "count_rows" "count_rows" s_count_rows f fd)
    (G0 : FnOk P w K mg base (L2.CX P w) 2 f0 fd0 ["cabinet"] (spCkC K C CB)) (g0 : mg "check_cabinet" = some (.ref f0)) (k0 : PySem.W.keepIn K (.ref f0) = true) (b0 : Binds K fd0 ["cabinet"] []) :
    FnOk P w K mg base (L2.CX P w) 4 f fd ["cabinet", "length"] (spN2 K C CB) := by
  refine F.okX scN_count_rows (fun vs H Q E h => ?_) (fun cdv A outer s H vs Q E hr h => ?_)
  · obtain ⟨v, u, rfl, _⟩ := h.h
    rfl
  · obtain ⟨v, u, rfl, hv, k⟩ := h.h
    refine ⟨_, pss_cons (ps_expr (pe_call G0 (hr.mono (by decide)) rfl g0 k0 b0 .nil (passes_call (E := E) (takes_of rfl rfl rfl rfl) (fun _ _ _ _ z => z)) (pa_cons (pv 0) pa_nil))) pss_never, ?_⟩
    exact ⟨_, rfl, ⟨⟨v, rfl, .inr ⟨hv, k⟩⟩⟩⟩
theorem scN_row_to : FnScope ["cabinet", "pattern"] ["cabinet", "pattern"] (defScope s_row_to) := ⟨rfl, rfl, rfl, by decide +kernel, rfl, by decide +kernel, by decide +kernel⟩
theorem ok_row_to_N {f f0 C CB : Addr} {fd fd0 : FuncData} (F : Fun K "row_to" "row_to" s_row_to f fd)
    (G0 : FnOk P w K mg base (L2.CX P w) 2 f0 fd0 ["cabinet"] (spCkC K C CB)) (g0 : mg "check_cabinet" = some (.ref f0)) (k0 : PySem.W.keepIn K (.ref f0) = true) (b0 : Binds K fd0 ["cabinet"] []) :
    FnOk P w K mg base (L2.CX P w) 4 f fd ["cabinet", "pattern"] (spN2 K C CB) := by
  refine F.okX scN_row_to (fun vs H Q E h => ?_) (fun cdv A outer s H vs Q E hr h => ?_)
  · obtain ⟨v, u, rfl, _⟩ := h.h
    rfl
  · obtain ⟨v, u, rfl, hv, k⟩ := h.h
    refine ⟨_, pss_cons (ps_expr (pe_call G0 (hr.mono (by decide)) rfl g0 k0 b0 .nil (passes_call (E := E) (takes_of rfl rfl rfl rfl) (fun _ _ _ _ z => z)) (pa_cons (pv 0) pa_nil))) pss_never, ?_⟩
    exact ⟨_, rfl, ⟨⟨v, rfl, .inr ⟨hv, k⟩⟩⟩⟩
theorem scN_frozen : FnScope ["cabinet", "drawer", "pulls", "moving"] ["cabinet", "drawer"] (defScope s_frozen) := ⟨rfl, rfl, rfl, by decide +kernel, rfl, by decide +kernel, by decide +kernel⟩
theorem ok_frozen_N {f f0 C CB : Addr} {fd fd0 : FuncData} (F : Fun K "frozen" "frozen" s_frozen f fd)
    (G0 : FnOk P w K mg base (L2.CX P w) 2 f0 fd0 ["cabinet"] (spCkC K C CB)) (g0 : mg "check_cabinet" = some (.ref f0)) (k0 : PySem.W.keepIn K (.ref f0) = true) (b0 : Binds K fd0 ["cabinet"] []) :
    FnOk P w K mg base (L2.CX P w) 4 f fd ["cabinet", "drawer"] (spN2 K C CB) := by
  refine F.okX scN_frozen (fun vs H Q E h => ?_) (fun cdv A outer s H vs Q E hr h => ?_)
  · obtain ⟨v, u, rfl, _⟩ := h.h
    rfl
  · obtain ⟨v, u, rfl, hv, k⟩ := h.h
    refine ⟨_, pss_cons (ps_expr (pe_call G0 (hr.mono (by decide)) rfl g0 k0 b0 .nil (passes_call (E := E) (takes_of rfl rfl rfl rfl) (fun _ _ _ _ z => z)) (pa_cons (pv 0) pa_nil))) pss_never, ?_⟩
    exact ⟨_, rfl, ⟨⟨v, rfl, .inr ⟨hv, k⟩⟩⟩⟩
theorem scN_open_together : FnScope ["cabinet", "some"] ["cabinet", "some"] (defScope s_open_together) := ⟨rfl, rfl, rfl, by decide +kernel, rfl, by decide +kernel, by decide +kernel⟩
theorem ok_open_together_N {f f0 C CB : Addr} {fd fd0 : FuncData} (F : Fun K "open_together" "open_together" s_open_together f fd)
    (G0 : FnOk P w K mg base (L2.CX P w) 2 f0 fd0 ["cabinet"] (spCkC K C CB)) (g0 : mg "check_cabinet" = some (.ref f0)) (k0 : PySem.W.keepIn K (.ref f0) = true) (b0 : Binds K fd0 ["cabinet"] []) :
    FnOk P w K mg base (L2.CX P w) 4 f fd ["cabinet", "some"] (spN2 K C CB) := by
  refine F.okX scN_open_together (fun vs H Q E h => ?_) (fun cdv A outer s H vs Q E hr h => ?_)
  · obtain ⟨v, u, rfl, _⟩ := h.h
    rfl
  · obtain ⟨v, u, rfl, hv, k⟩ := h.h
    refine ⟨_, pss_cons (ps_expr (pe_call G0 (hr.mono (by decide)) rfl g0 k0 b0 .nil (passes_call (E := E) (takes_of rfl rfl rfl rfl) (fun _ _ _ _ z => z)) (pa_cons (pv 0) pa_nil))) pss_never, ?_⟩
    exact ⟨_, rfl, ⟨⟨v, rfl, .inr ⟨hv, k⟩⟩⟩⟩
theorem scN_paper : FnScope ["cabinet", "some", "standings"] ["cabinet", "some"] (defScope s_paper) := ⟨rfl, rfl, rfl, by decide +kernel, rfl, by decide +kernel, by decide +kernel⟩
theorem ok_paper_N {f f0 C CB : Addr} {fd fd0 : FuncData} (F : Fun K "paper" "paper" s_paper f fd)
    (G0 : FnOk P w K mg base (L2.CX P w) 2 f0 fd0 ["cabinet"] (spCkC K C CB)) (g0 : mg "check_cabinet" = some (.ref f0)) (k0 : PySem.W.keepIn K (.ref f0) = true) (b0 : Binds K fd0 ["cabinet"] []) :
    FnOk P w K mg base (L2.CX P w) 4 f fd ["cabinet", "some"] (spN2 K C CB) := by
  refine F.okX scN_paper (fun vs H Q E h => ?_) (fun cdv A outer s H vs Q E hr h => ?_)
  · obtain ⟨v, u, rfl, _⟩ := h.h
    rfl
  · obtain ⟨v, u, rfl, hv, k⟩ := h.h
    refine ⟨_, pss_cons (ps_expr (pe_call G0 (hr.mono (by decide)) rfl g0 k0 b0 .nil (passes_call (E := E) (takes_of rfl rfl rfl rfl) (fun _ _ _ _ z => z)) (pa_cons (pv 0) pa_nil))) pss_never, ?_⟩
    exact ⟨_, rfl, ⟨⟨v, rfl, .inr ⟨hv, k⟩⟩⟩⟩
theorem scN_barring : FnScope ["cabinet", "standing", "drawer"] ["cabinet", "standing", "drawer"] (defScope s_barring) := ⟨rfl, rfl, rfl, by decide +kernel, rfl, by decide +kernel, by decide +kernel⟩
theorem ok_barring_N {f f0 C CB : Addr} {fd fd0 : FuncData} (F : Fun K "barring" "barring" s_barring f fd)
    (G0 : FnOk P w K mg base (L2.CX P w) 2 f0 fd0 ["cabinet"] (spCkC K C CB)) (g0 : mg "check_cabinet" = some (.ref f0)) (k0 : PySem.W.keepIn K (.ref f0) = true) (b0 : Binds K fd0 ["cabinet"] []) :
    FnOk P w K mg base (L2.CX P w) 4 f fd ["cabinet", "standing", "drawer"] (spN3 K C CB) := by
  refine F.okX scN_barring (fun vs H Q E h => ?_) (fun cdv A outer s H vs Q E hr h => ?_)
  · obtain ⟨v, u, x, rfl, _⟩ := h.h
    rfl
  · obtain ⟨v, u, x, rfl, hv, k⟩ := h.h
    refine ⟨_, pss_cons (ps_expr (pe_call G0 (hr.mono (by decide)) rfl g0 k0 b0 .nil (passes_call (E := E) (takes_of rfl rfl rfl rfl) (fun _ _ _ _ z => z)) (pa_cons (pv 0) pa_nil))) pss_never, ?_⟩
    exact ⟨_, rfl, ⟨⟨v, rfl, .inr ⟨hv, k⟩⟩⟩⟩
theorem scN_behind : FnScope ["cabinet", "standing", "drawer"] ["cabinet", "standing", "drawer"] (defScope s_behind) := ⟨rfl, rfl, rfl, by decide +kernel, rfl, by decide +kernel, by decide +kernel⟩
theorem ok_behind_N {f f0 C CB : Addr} {fd fd0 : FuncData} (F : Fun K "behind" "behind" s_behind f fd)
    (G0 : FnOk P w K mg base (L2.CX P w) 2 f0 fd0 ["cabinet"] (spCkC K C CB)) (g0 : mg "check_cabinet" = some (.ref f0)) (k0 : PySem.W.keepIn K (.ref f0) = true) (b0 : Binds K fd0 ["cabinet"] []) :
    FnOk P w K mg base (L2.CX P w) 4 f fd ["cabinet", "standing", "drawer"] (spN3 K C CB) := by
  refine F.okX scN_behind (fun vs H Q E h => ?_) (fun cdv A outer s H vs Q E hr h => ?_)
  · obtain ⟨v, u, x, rfl, _⟩ := h.h
    rfl
  · obtain ⟨v, u, x, rfl, hv, k⟩ := h.h
    refine ⟨_, pss_cons (ps_expr (pe_call G0 (hr.mono (by decide)) rfl g0 k0 b0 .nil (passes_call (E := E) (takes_of rfl rfl rfl rfl) (fun _ _ _ _ z => z)) (pa_cons (pv 0) pa_nil))) pss_never, ?_⟩
    exact ⟨_, rfl, ⟨⟨v, rfl, .inr ⟨hv, k⟩⟩⟩⟩
theorem scN_count_to : FnScope ["cabinet", "length", "pattern", "counts"] ["cabinet", "length", "pattern"] (defScope s_count_to) := ⟨rfl, rfl, rfl, by decide +kernel, rfl, by decide +kernel, by decide +kernel⟩
theorem ok_count_to_N {f f0 C CB : Addr} {fd fd0 : FuncData} (F : Fun K "count_to" "count_to" s_count_to f fd)
    (G0 : FnOk P w K mg base (L2.CX P w) 2 f0 fd0 ["cabinet"] (spCkC K C CB)) (g0 : mg "check_cabinet" = some (.ref f0)) (k0 : PySem.W.keepIn K (.ref f0) = true) (b0 : Binds K fd0 ["cabinet"] []) :
    FnOk P w K mg base (L2.CX P w) 4 f fd ["cabinet", "length", "pattern"] (spN3 K C CB) := by
  refine F.okX scN_count_to (fun vs H Q E h => ?_) (fun cdv A outer s H vs Q E hr h => ?_)
  · obtain ⟨v, u, x, rfl, _⟩ := h.h
    rfl
  · obtain ⟨v, u, x, rfl, hv, k⟩ := h.h
    refine ⟨_, pss_cons (ps_expr (pe_call G0 (hr.mono (by decide)) rfl g0 k0 b0 .nil (passes_call (E := E) (takes_of rfl rfl rfl rfl) (fun _ _ _ _ z => z)) (pa_cons (pv 0) pa_nil))) pss_never, ?_⟩
    exact ⟨_, rfl, ⟨⟨v, rfl, .inr ⟨hv, k⟩⟩⟩⟩
theorem scN_guards : FnScope ["cabinet", "pairs", "most", "spare", "pulls", "apart", "many", "found"] ["cabinet", "pairs", "most"] (defScope s_guards) := ⟨rfl, rfl, rfl, by decide +kernel, rfl, by decide +kernel, by decide +kernel⟩
theorem ok_guards_N {f f0 C CB : Addr} {fd fd0 : FuncData} (F : Fun K "guards" "guards" s_guards f fd)
    (G0 : FnOk P w K mg base (L2.CX P w) 2 f0 fd0 ["cabinet"] (spCkC K C CB)) (g0 : mg "check_cabinet" = some (.ref f0)) (k0 : PySem.W.keepIn K (.ref f0) = true) (b0 : Binds K fd0 ["cabinet"] []) :
    FnOk P w K mg base (L2.CX P w) 4 f fd ["cabinet", "pairs", "most"] (spN3 K C CB) := by
  refine F.okX scN_guards (fun vs H Q E h => ?_) (fun cdv A outer s H vs Q E hr h => ?_)
  · obtain ⟨v, u, x, rfl, _⟩ := h.h
    rfl
  · obtain ⟨v, u, x, rfl, hv, k⟩ := h.h
    refine ⟨_, pss_cons (ps_expr (pe_call G0 (hr.mono (by decide)) rfl g0 k0 b0 .nil (passes_call (E := E) (takes_of rfl rfl rfl rfl) (fun _ _ _ _ z => z)) (pa_cons (pv 0) pa_nil))) pss_never, ?_⟩
    exact ⟨_, rfl, ⟨⟨v, rfl, .inr ⟨hv, k⟩⟩⟩⟩
theorem scN_right_row : FnScope ["cabinet", "pattern", "value", "end"] ["cabinet", "pattern", "value"] (defScope s_right_row) := ⟨rfl, rfl, rfl, by decide +kernel, rfl, by decide +kernel, by decide +kernel⟩
theorem ok_right_row_N {f f0 C CB : Addr} {fd fd0 : FuncData} (F : Fun K "right_row" "right_row" s_right_row f fd)
    (G0 : FnOk P w K mg base (L2.CX P w) 2 f0 fd0 ["cabinet"] (spCkC K C CB)) (g0 : mg "check_cabinet" = some (.ref f0)) (k0 : PySem.W.keepIn K (.ref f0) = true) (b0 : Binds K fd0 ["cabinet"] []) :
    FnOk P w K mg base (L2.CX P w) 4 f fd ["cabinet", "pattern", "value"] (spN3 K C CB) := by
  refine F.okX scN_right_row (fun vs H Q E h => ?_) (fun cdv A outer s H vs Q E hr h => ?_)
  · obtain ⟨v, u, x, rfl, _⟩ := h.h
    rfl
  · obtain ⟨v, u, x, rfl, hv, k⟩ := h.h
    refine ⟨_, pss_cons (ps_expr (pe_call G0 (hr.mono (by decide)) rfl g0 k0 b0 .nil (passes_call (E := E) (takes_of rfl rfl rfl rfl) (fun _ _ _ _ z => z)) (pa_cons (pv 0) pa_nil))) pss_never, ?_⟩
    exact ⟨_, rfl, ⟨⟨v, rfl, .inr ⟨hv, k⟩⟩⟩⟩
theorem scN_row_between : FnScope ["cabinet", "standing", "pattern"] ["cabinet", "standing", "pattern"] (defScope s_row_between) := ⟨rfl, rfl, rfl, by decide +kernel, rfl, by decide +kernel, by decide +kernel⟩
theorem ok_row_between_N {f f0 C CB : Addr} {fd fd0 : FuncData} (F : Fun K "row_between" "row_between" s_row_between f fd)
    (G0 : FnOk P w K mg base (L2.CX P w) 2 f0 fd0 ["cabinet"] (spCkC K C CB)) (g0 : mg "check_cabinet" = some (.ref f0)) (k0 : PySem.W.keepIn K (.ref f0) = true) (b0 : Binds K fd0 ["cabinet"] []) :
    FnOk P w K mg base (L2.CX P w) 4 f fd ["cabinet", "standing", "pattern"] (spN3 K C CB) := by
  refine F.okX scN_row_between (fun vs H Q E h => ?_) (fun cdv A outer s H vs Q E hr h => ?_)
  · obtain ⟨v, u, x, rfl, _⟩ := h.h
    rfl
  · obtain ⟨v, u, x, rfl, hv, k⟩ := h.h
    refine ⟨_, pss_cons (ps_expr (pe_call G0 (hr.mono (by decide)) rfl g0 k0 b0 .nil (passes_call (E := E) (takes_of rfl rfl rfl rfl) (fun _ _ _ _ z => z)) (pa_cons (pv 0) pa_nil))) pss_never, ?_⟩
    exact ⟨_, rfl, ⟨⟨v, rfl, .inr ⟨hv, k⟩⟩⟩⟩
theorem scN_right_paper : FnScope ["cabinet", "some", "value"] ["cabinet", "some", "value"] (defScope s_right_paper) := ⟨rfl, rfl, rfl, by decide +kernel, rfl, by decide +kernel, by decide +kernel⟩
theorem ok_right_paper_N {f f0 C CB : Addr} {fd fd0 : FuncData} (F : Fun K "right_paper" "right_paper" s_right_paper f fd)
    (G0 : FnOk P w K mg base (L2.CX P w) 2 f0 fd0 ["cabinet"] (spCkC K C CB)) (g0 : mg "check_cabinet" = some (.ref f0)) (k0 : PySem.W.keepIn K (.ref f0) = true) (b0 : Binds K fd0 ["cabinet"] []) :
    FnOk P w K mg base (L2.CX P w) 4 f fd ["cabinet", "some", "value"] (spN3 K C CB) := by
  refine F.okX scN_right_paper (fun vs H Q E h => ?_) (fun cdv A outer s H vs Q E hr h => ?_)
  · obtain ⟨v, u, x, rfl, _⟩ := h.h
    rfl
  · obtain ⟨v, u, x, rfl, hv, k⟩ := h.h
    refine ⟨_, pss_cons (ps_expr (pe_call G0 (hr.mono (by decide)) rfl g0 k0 b0 .nil (passes_call (E := E) (takes_of rfl rfl rfl rfl) (fun _ _ _ _ z => z)) (pa_cons (pv 0) pa_nil))) pss_never, ?_⟩
    exact ⟨_, rfl, ⟨⟨v, rfl, .inr ⟨hv, k⟩⟩⟩⟩
theorem scN_fa : FnScope ["one", "other", "standing", "row", "drawer"] ["one", "other"] (defScope s_first_apart) := ⟨rfl, rfl, rfl, by decide +kernel, rfl, by decide +kernel, by decide +kernel⟩
theorem ok_first_apart_N {f f0 C CB : Addr} {fd fd0 : FuncData} (F : Fun K "first_apart" "first_apart" s_first_apart f fd)
    (G0 : FnOk P w K mg base (L2.CX P w) 2 f0 fd0 ["cabinet"] (spCkC K C CB)) (g0 : mg "check_cabinet" = some (.ref f0)) (k0 : PySem.W.keepIn K (.ref f0) = true) (b0 : Binds K fd0 ["cabinet"] []) :
    FnOk P w K mg base (L2.CX P w) 4 f fd ["one", "other"] (spNA K C CB) := by
  refine F.okX scN_fa (fun vs H Q E h => ?_) (fun cdv A outer s H vs Q E hr h => ?_)
  · obtain ⟨v, u, rfl, _⟩ := h.h
    rfl
  · obtain ⟨v, u, rfl, hv, k⟩ := h.h
    refine ⟨_, pss_cons (ps_expr (pe_call G0 (hr.mono (by decide)) rfl g0 k0 b0 .nil (passes_call (E := E) (takes_of rfl rfl rfl rfl) (fun _ _ _ _ z => z)) (pa_cons (pv 0) pa_nil)))
      (pss_cons (ps_expr (pe_call G0 (hr.mono (by decide)) rfl g0 k0 b0 .nil (passes_call (E := E) (takes_of rfl rfl rfl rfl) (fun _ _ _ _ z => z)) (pa_cons (pv 1) pa_nil))) pss_never), ?_⟩
    rcases hv with hv | ⟨⟨c, n, t, rfl, hc⟩, hu⟩
    · exact ⟨_, rfl, ⟨⟨v, rfl, .inr ⟨hv, k⟩⟩⟩⟩
    · exact ⟨_, rfl, ⟨⟨_, rfl, .inl ⟨c, n, t, rfl, hc, _, rfl, ⟨⟨u, rfl, .inr ⟨hu, k⟩⟩⟩⟩⟩⟩⟩
theorem scN_al : FnScope ["one", "other"] ["one", "other"] (defScope s_alike) := ⟨rfl, rfl, rfl, by decide +kernel, rfl, by decide +kernel, by decide +kernel⟩
theorem ok_alike_N {f f0 C CB : Addr} {fd fd0 : FuncData} (F : Fun K "alike" "alike" s_alike f fd)
    (G0 : FnOk P w K mg base (L2.CX P w) 4 f0 fd0 ["one", "other"] (spNA K C CB)) (g0 : mg "first_apart" = some (.ref f0)) (k0 : PySem.W.keepIn K (.ref f0) = true) (b0 : Binds K fd0 ["one", "other"] []) :
    FnOk P w K mg base (L2.CX P w) 5 f fd ["one", "other"] (spNA K C CB) := by
  refine F.okX scN_al (fun vs H Q E h => ?_) (fun cdv A outer s H vs Q E hr h => ?_)
  · obtain ⟨v, u, rfl, _⟩ := h.h
    rfl
  · obtain ⟨v, u, rfl, hv⟩ := h.h
    refine ⟨_, pss_one (ps_ret (pe_cmp (pc_isN (pe_call G0 (hr.mono (by decide)) rfl g0 k0 b0 .nil (passes_call (E := E) (takes_of rfl rfl rfl rfl) (fun _ _ _ _ z => z)) (pa_cons (pv 0) (pa_cons (pv 1) pa_nil)))))), ?_⟩
    exact ⟨_, rfl, _, rfl, ⟨⟨v, u, rfl, hv⟩⟩⟩
structure spDeskN (K : PySem.W.Frag) (C CB : Addr) (vs : List V) (H : Hp) (_ : VK) (E : XK) : Prop where
  h : ∃ p v : V, vs = [p, v] ∧ NoCab K C H v ∧ E (.ref CB) none H
theorem ok_deskN {f f0 C CB : Addr} {fd fd0 : FuncData} (F : Fun K "__init__" "Desk.__init__" s_Desk__init_ f fd)
    (G0 : FnOk P w K mg base (L2.CX P w) 2 f0 fd0 ["cabinet"] (spCkC K C CB)) (g0 : mg "check_cabinet" = some (.ref f0)) (k0 : PySem.W.keepIn K (.ref f0) = true) (b0 : Binds K fd0 ["cabinet"] []) :
    FnOk P w K mg base (L2.CX P w) 4 f fd ["self", "cabinet"] (spDeskN K C CB) := by
  refine F.okX scDI (fun vs H Q E h => ?_) (fun cdv A outer s H vs Q E hr h => ?_)
  · obtain ⟨p, v, rfl, _⟩ := h.h
    rfl
  · obtain ⟨p, v, rfl, hv, k⟩ := h.h
    refine ⟨_, pss_cons (ps_expr (pe_call G0 (hr.mono (by decide)) rfl g0 k0 b0 .nil (passes_call (E := E) (takes_of rfl rfl rfl rfl) (fun _ _ _ _ z => z)) (pa_cons (pv 1) pa_nil))) pss_never, ?_⟩
    exact ⟨_, rfl, ⟨⟨v, rfl, .inr ⟨hv, k⟩⟩⟩⟩
end
end DL

set_option Elab.async false
set_option maxRecDepth 100000
set_option maxHeartbeats 4000000
namespace DL
open PySem L2 HT TL
def spLaw02 (K : PySem.W.Frag) : Sp := fun vs H Q _ => ∃ (a : Addr) (ns : List Int), vs = [.ref a] ∧ SqL K H a (ns.map V.int) ∧ ns.length ≤ 63 ∧ ∀ H', Q (.bl true) H'
/-- the law's call: which function, and what is no cabinet -/
structure spCall02 (K : PySem.W.Frag) (C CB : Addr) (vs : List V) (H : Hp) (_ : VK) (E : XK) : Prop where
  h : ∃ (kd : Int) (v : V), vs = [.int kd, v] ∧ 0 ≤ kd ∧ kd < 28 ∧ NoCab K C H v ∧ ∀ H', Same H H' → E (.ref CB) none H'
structure KitC (K : PySem.W.Frag) (C : Addr) : Prop where
  n : PySem.W.kitOne K (.type "NoneType") (.ref C) = some false
  i : PySem.W.kitOne K (.type "int") (.ref C) = some false
  b : PySem.W.kitOne K (.type "bool") (.ref C) = some false
  t : PySem.W.kitOne K (.type "tuple") (.ref C) = some false
  s : PySem.W.kitOne K (.type "str") (.ref C) = some false
  d : PySem.W.kitOne K (.type "dict") (.ref C) = some false
structure spOddC (K : PySem.W.Frag) (C : Addr) (vs : List V) (H : Hp) (Q : VK) (_ : XK) : Prop where
  h : ∃ (r sc : Addr) (ns : List Int), vs = [.ref r] ∧ RowOk H r sc ∧ (∀ H', But r H H' → SqL K H' sc (ns.map V.int)) ∧ ∀ (x : V) (H' : Hp), RowOk H' r sc → But r H H' → (∀ H'', Same H' H'' → NoCab K C H'' x) → Q x H'
theorem okNil2 (n : Int) : OkBars n (([] : List (Addr × Bar)).map (·.2)) := ⟨fun _ h => (by cases h), List.Pairwise.nil⟩
section
variable {P : Program} {w : World} {K : PySem.W.Frag} {mg : Str → Option Value} {base : Heap}
theorem scOC : FnScope ["_law_row"] ["_law_row"] (defScope s__law_odd) := ⟨rfl, rfl, rfl, by decide +kernel, rfl, by decide +kernel, by decide +kernel⟩
theorem ok_oddC {f fT C : Addr} {fd dT : FuncData} (F : Fun K "_law_odd" "_law_odd" s__law_odd f fd) (T : Bt mg) (KC : KitC K C)
    (GT : FnOk P w K mg base CX0 1 fT dT ["_law_row", "_law_many"] (spTaken K)) (gT : mg "_law_taken" = some (.ref fT)) (kT : PySem.W.keepIn K (.ref fT) = true) (bT : Binds K dT ["_law_row", "_law_many"] []) :
    FnOk P w K mg base CX0 2 f fd ["_law_row"] (spOddC K C) := by
  refine F.ok scOC (fun vs H Q E h => ?_) (fun cdv A outer s H vs Q E hr h => ?_)
  · obtain ⟨r, sc, ns, rfl, _⟩ := h.h
    rfl
  · obtain ⟨r, sc, ns, rfl, R, SB, k⟩ := h.h
    refine ⟨_, pss_one (ps_ret (pe_ix ix_list (pe_lst (pa_cons pe_non (pa_cons pe_int (pa_cons pe_bl (pa_cons (pe_tup (pa_cons pe_int (pa_cons (pe_tup pa_nil) pa_nil))) (pa_cons pe_str (pa_cons pe_dnewT pa_nil)))))))
      (pe_call GT (hr.mono (by decide)) rfl gT kT bT .nil pass0 (pa_cons (pv 0) (pa_cons pe_int pa_nil))) (fun _ _ => rfl))), ?_⟩
    refine ⟨(by show 0 ≤ sizeLine; decide), fun e he => ?_⟩
    obtain ⟨s1, f1⟩ := new_at (o := .tup []) he
    generalize upd H e (.tup []) = H1 at s1 f1 ⊢
    refine ⟨(by show 2 ≤ sizeLine; decide), fun p hp => ?_⟩
    obtain ⟨s2, f2⟩ := new_at (o := .tup [.int 2, .ref e]) hp
    generalize upd H1 p (.tup [.int 2, .ref e]) = H2 at s2 f2 ⊢
    refine fun d hd => ?_
    obtain ⟨s3, f3⟩ := new_at (o := .dT []) hd
    generalize upd H2 d (.dT []) = H3 at s3 f3 ⊢
    refine ⟨(by show 6 ≤ sizeLine; decide), fun l hl => ?_⟩
    obtain ⟨s4, f4⟩ := new_at (o := .lst [.non, .int 2, .bl true, .ref p, .str "drawers 2", .ref d]) hl
    simp only [] at s4 f4 ⊢
    generalize upd H3 l (.lst [.non, .int 2, .bl true, .ref p, .str "drawers 2", .ref d]) = H4 at s4 f4 ⊢
    have s04 := (((s1.trans s2).trans s3).trans s4)
    obtain ⟨_, _, _, hR, _⟩ := id R.h
    have nd : d ≠ r := (ne_of_none ((s1.trans s2) _ _ hR) hd).symm
    have nl : l ≠ r := (ne_of_none (((s1.trans s2).trans s3) _ _ hR) hl).symm
    have R4 := R.same s04
    obtain ⟨_, _, _, hR4, _⟩ := id R4.h
    refine ⟨_, rfl, ⟨⟨r, sc, ns, 6, rfl, R4, SB H4 (sbut s04), by decide, by decide, fun v H5 v0 v1 R5 B5 => ?_⟩⟩⟩
    have hp5 : SqT K H5 p [.int 2, .ref e] := sqT_but hR4 B5 (SqT.of' ((s3.trans s4) _ _ f2))
    have hd5 := B5 _ _ nd (s4 _ _ f3)
    have fin : ∃ x, atI [V.non, .int 2, .bl true, .ref p, .str "drawers 2", .ref d] v = some x ∧ ∀ H'', Same H5 H'' → NoCab K C H'' x := by
      have : v = 0 ∨ v = 1 ∨ v = 2 ∨ v = 3 ∨ v = 4 ∨ v = 5 := by omega
      rcases this with rfl | rfl | rfl | rfl | rfl | rfl
      · exact ⟨.non, rfl, fun _ _ => ⟨_, fun _ _ => .base .non, KC.n⟩⟩
      · exact ⟨.int 2, rfl, fun _ _ => ⟨_, fun _ _ => .base (.int _), KC.i⟩⟩
      · exact ⟨.bl true, rfl, fun _ _ => ⟨_, fun _ _ => .base (.bl _), KC.b⟩⟩
      · exact ⟨.ref p, rfl, fun _ s => ⟨_, fun _ s' => tyT (SqT.same (s.trans s') hp5), KC.t⟩⟩
      · exact ⟨.str "drawers 2", rfl, fun _ _ => ⟨_, fun _ _ => .base (.str _), KC.s⟩⟩
      · exact ⟨.ref d, rfl, fun _ s => ⟨_, fun _ s' => .base (.dT (s' _ _ (s _ _ hd5))), KC.d⟩⟩
    obtain ⟨x, ax, nx⟩ := fin
    exact ⟨l, _, v, x, rfl, rfl, SqL.of (B5 _ _ nl f4), ax, k x H5 R5 ((sbut s04).trans B5) nx⟩
abbrev nC02 : List Str := ["_law_kind", "_law_value", "_law_good", "_law_some"]
theorem scLC : FnScope nC02 ["_law_kind", "_law_value"] (defScope s__law_call) := ⟨rfl, rfl, rfl, by decide +kernel, rfl, by decide +kernel, by decide +kernel⟩
theorem ok_call02 {f fI fD C D CB : Addr} {fd dI dD : FuncData} {f0 f1 f2 f3 f4 f5 f6 f7 f8 f9 f10 f11 f12 f13 f14 f15 f16 f17 f18 f19 f20 f21 f22 f23 f24 : Addr} {d0 d1 d2 d3 d4 d5 d6 d7 d8 d9 d10 d11 d12 d13 d14 d15 d16 d17 d18 d19 d20 d21 d22 d23 d24 : FuncData} (F : Fun K "_law_call" "_law_call" s__law_call f fd)
    (T2 : CabT K mg C) (M : Mk K C fI) (GI : FnOk P w K mg base CX0 5 fI dI ["self", "drawers", "bars"] (spInit C)) (bI : Binds K dI ["self", "drawers", "bars"] [])
    (gDk : mg "Desk" = some (.ref D)) (MD : Mk K D fD) (GD : FnOk P w K mg base (L2.CX P w) 4 fD dD ["self", "cabinet"] (spDeskN K C CB)) (bD : Binds K dD ["self", "cabinet"] [])
    (G0 : FnOk P w K mg base (L2.CX P w) 4 f0 d0 ["cabinet"] (spN1 K C CB)) (g0 : mg "fewest_bars" = some (.ref f0)) (k0 : PySem.W.keepIn K (.ref f0) = true) (b0 : Binds K d0 ["cabinet"] [])
    (G1 : FnOk P w K mg base (L2.CX P w) 4 f1 d1 ["cabinet"] (spN1 K C CB)) (g1 : mg "needless" = some (.ref f1)) (k1 : PySem.W.keepIn K (.ref f1) = true) (b1 : Binds K d1 ["cabinet"] [])
    (G2 : FnOk P w K mg base (L2.CX P w) 4 f2 d2 ["cabinet"] (spN1 K C CB)) (g2 : mg "farthest" = some (.ref f2)) (k2 : PySem.W.keepIn K (.ref f2) = true) (b2 : Binds K d2 ["cabinet"] [])
    (G3 : FnOk P w K mg base (L2.CX P w) 4 f3 d3 ["cabinet"] (spN1 K C CB)) (g3 : mg "reached" = some (.ref f3)) (k3 : PySem.W.keepIn K (.ref f3) = true) (b3 : Binds K d3 ["cabinet"] [])
    (G4 : FnOk P w K mg base (L2.CX P w) 4 f4 d4 ["cabinet"] (spN1 K C CB)) (g4 : mg "dead_end" = some (.ref f4)) (k4 : PySem.W.keepIn K (.ref f4) = true) (b4 : Binds K d4 ["cabinet"] [])
    (G5 : FnOk P w K mg base (L2.CX P w) 4 f5 d5 ["cabinet"] (spN1 K C CB)) (g5 : mg "never_opened" = some (.ref f5)) (k5 : PySem.W.keepIn K (.ref f5) = true) (b5 : Binds K d5 ["cabinet"] [])
    (G6 : FnOk P w K mg base (L2.CX P w) 4 f6 d6 ["cabinet"] (spN1 K C CB)) (g6 : mg "no_return" = some (.ref f6)) (k6 : PySem.W.keepIn K (.ref f6) = true) (b6 : Binds K d6 ["cabinet"] [])
    (G7 : FnOk P w K mg base (L2.CX P w) 4 f7 d7 ["cabinet"] (spN1 K C CB)) (g7 : mg "write" = some (.ref f7)) (k7 : PySem.W.keepIn K (.ref f7) = true) (b7 : Binds K d7 ["cabinet"] [])
    (G8 : FnOk P w K mg base (L2.CX P w) 4 f8 d8 ["cabinet"] (spN1 K C CB)) (g8 : mg "most_open" = some (.ref f8)) (k8 : PySem.W.keepIn K (.ref f8) = true) (b8 : Binds K d8 ["cabinet"] [])
    (G9 : FnOk P w K mg base (L2.CX P w) 4 f9 d9 ["cabinet"] (spN1 K C CB)) (g9 : mg "never_together" = some (.ref f9)) (k9 : PySem.W.keepIn K (.ref f9) = true) (b9 : Binds K d9 ["cabinet"] [])
    (G10 : FnOk P w K mg base (L2.CX P w) 4 f10 d10 ["cabinet", "standing"] (spN2 K C CB)) (g10 : mg "can" = some (.ref f10)) (k10 : PySem.W.keepIn K (.ref f10) = true) (b10 : Binds K d10 ["cabinet", "standing"] [])
    (G11 : FnOk P w K mg base (L2.CX P w) 4 f11 d11 ["cabinet", "length"] (spN2 K C CB)) (g11 : mg "count_rows" = some (.ref f11)) (k11 : PySem.W.keepIn K (.ref f11) = true) (b11 : Binds K d11 ["cabinet", "length"] [])
    (G12 : FnOk P w K mg base (L2.CX P w) 5 f12 d12 ["one", "other"] (spNA K C CB)) (g12 : mg "alike" = some (.ref f12)) (k12 : PySem.W.keepIn K (.ref f12) = true) (b12 : Binds K d12 ["one", "other"] [])
    (G13 : FnOk P w K mg base (L2.CX P w) 4 f13 d13 ["one", "other"] (spNA K C CB)) (g13 : mg "first_apart" = some (.ref f13)) (k13 : PySem.W.keepIn K (.ref f13) = true) (b13 : Binds K d13 ["one", "other"] [])
    (G14 : FnOk P w K mg base (L2.CX P w) 4 f14 d14 ["cabinet", "pattern"] (spN2 K C CB)) (g14 : mg "row_to" = some (.ref f14)) (k14 : PySem.W.keepIn K (.ref f14) = true) (b14 : Binds K d14 ["cabinet", "pattern"] [])
    (G15 : FnOk P w K mg base (L2.CX P w) 4 f15 d15 ["cabinet", "drawer"] (spN2 K C CB)) (g15 : mg "frozen" = some (.ref f15)) (k15 : PySem.W.keepIn K (.ref f15) = true) (b15 : Binds K d15 ["cabinet", "drawer"] [])
    (G16 : FnOk P w K mg base (L2.CX P w) 4 f16 d16 ["cabinet", "some"] (spN2 K C CB)) (g16 : mg "open_together" = some (.ref f16)) (k16 : PySem.W.keepIn K (.ref f16) = true) (b16 : Binds K d16 ["cabinet", "some"] [])
    (G17 : FnOk P w K mg base (L2.CX P w) 4 f17 d17 ["cabinet", "some"] (spN2 K C CB)) (g17 : mg "paper" = some (.ref f17)) (k17 : PySem.W.keepIn K (.ref f17) = true) (b17 : Binds K d17 ["cabinet", "some"] [])
    (G18 : FnOk P w K mg base (L2.CX P w) 4 f18 d18 ["cabinet", "standing", "drawer"] (spN3 K C CB)) (g18 : mg "barring" = some (.ref f18)) (k18 : PySem.W.keepIn K (.ref f18) = true) (b18 : Binds K d18 ["cabinet", "standing", "drawer"] [])
    (G19 : FnOk P w K mg base (L2.CX P w) 4 f19 d19 ["cabinet", "standing", "drawer"] (spN3 K C CB)) (g19 : mg "behind" = some (.ref f19)) (k19 : PySem.W.keepIn K (.ref f19) = true) (b19 : Binds K d19 ["cabinet", "standing", "drawer"] [])
    (G20 : FnOk P w K mg base (L2.CX P w) 4 f20 d20 ["cabinet", "length", "pattern"] (spN3 K C CB)) (g20 : mg "count_to" = some (.ref f20)) (k20 : PySem.W.keepIn K (.ref f20) = true) (b20 : Binds K d20 ["cabinet", "length", "pattern"] [])
    (G21 : FnOk P w K mg base (L2.CX P w) 4 f21 d21 ["cabinet", "pairs", "most"] (spN3 K C CB)) (g21 : mg "guards" = some (.ref f21)) (k21 : PySem.W.keepIn K (.ref f21) = true) (b21 : Binds K d21 ["cabinet", "pairs", "most"] [])
    (G22 : FnOk P w K mg base (L2.CX P w) 4 f22 d22 ["cabinet", "pattern", "value"] (spN3 K C CB)) (g22 : mg "right_row" = some (.ref f22)) (k22 : PySem.W.keepIn K (.ref f22) = true) (b22 : Binds K d22 ["cabinet", "pattern", "value"] [])
    (G23 : FnOk P w K mg base (L2.CX P w) 4 f23 d23 ["cabinet", "standing", "pattern"] (spN3 K C CB)) (g23 : mg "row_between" = some (.ref f23)) (k23 : PySem.W.keepIn K (.ref f23) = true) (b23 : Binds K d23 ["cabinet", "standing", "pattern"] [])
    (G24 : FnOk P w K mg base (L2.CX P w) 4 f24 d24 ["cabinet", "some", "value"] (spN3 K C CB)) (g24 : mg "right_paper" = some (.ref f24)) (k24 : PySem.W.keepIn K (.ref f24) = true) (b24 : Binds K d24 ["cabinet", "some", "value"] []) :
    FnOk P w K mg base (L2.CX P w) 9 f fd ["_law_kind", "_law_value"] (spCall02 K C CB) := by
  refine F.okX scLC (fun vs H Q E h => ?_) (fun cdv A outer s H vs Q E hr h => ?_)
  · obtain ⟨kd, v, rfl, _⟩ := h.h
    rfl
  · obtain ⟨kd, v, rfl, k0', k28, hv, k⟩ := h.h
    have pas := passes_call (X := cxOf (L2.CX P w) P w K mg base nC02 "_law_call" (defScope s__law_call) f cdv A outer s H E) (E := E) (takes_of rfl rfl rfl rfl) (fun _ _ _ _ z => z)
    refine ⟨_, pss_cons (ps_set (i := 2) scLC.nd rfl (Or.inl rfl) (pe_make M GI (hr.mono (by decide)) rfl T2.mgC bI .nil pass0 (pa_cons pe_int (pa_cons (pe_tup pa_nil) pa_nil))))
      (pss_one (ps_if (pt_cmpR op_lt (pv 0) pe_int (nomark _)) (pss_cons (ps_set (i := 3) scLC.nd rfl (Or.inl rfl) (pe_lst (pa_cons (pe_glob (v := .ref f0) rfl g0 rfl) (pa_cons (pe_glob (v := .ref f1) rfl g1 rfl) (pa_cons (pe_glob (v := .ref f2) rfl g2 rfl) (pa_cons (pe_glob (v := .ref f3) rfl g3 rfl) (pa_cons (pe_glob (v := .ref f4) rfl g4 rfl) (pa_cons (pe_glob (v := .ref f5) rfl g5 rfl) (pa_cons (pe_glob (v := .ref f6) rfl g6 rfl) (pa_cons (pe_glob (v := .ref f7) rfl g7 rfl) (pa_cons (pe_glob (v := .ref f8) rfl g8 rfl) pa_nil))))))))))) (pss_one (ps_expr (pe_callE (S := [(f0, spN1 K C CB), (f1, spN1 K C CB), (f2, spN1 K C CB), (f3, spN1 K C CB), (f4, spN1 K C CB), (f5, spN1 K C CB), (f6, spN1 K C CB), (f7, spN1 K C CB), (f8, spN1 K C CB), (f9, spN1 K C CB)]) (E := fun _ => E) (k := 5) (CX := L2.CX P w) (pe_ix ix_list (pe_op op_cat (pv 3) (pe_lst (pa_cons (pe_glob (v := .ref f9) rfl g9 rfl) pa_nil))) (pv 0) (fun _ _ => rfl))
          (fun q hq => by
            simp only [List.mem_cons, List.not_mem_nil, or_false] at hq
            rcases hq with rfl | rfl | rfl | rfl | rfl | rfl | rfl | rfl | rfl | rfl
            · exact ⟨_, _, G0.mono (by decide), k0, b0⟩
            · exact ⟨_, _, G1.mono (by decide), k1, b1⟩
            · exact ⟨_, _, G2.mono (by decide), k2, b2⟩
            · exact ⟨_, _, G3.mono (by decide), k3, b3⟩
            · exact ⟨_, _, G4.mono (by decide), k4, b4⟩
            · exact ⟨_, _, G5.mono (by decide), k5, b5⟩
            · exact ⟨_, _, G6.mono (by decide), k6, b6⟩
            · exact ⟨_, _, G7.mono (by decide), k7, b7⟩
            · exact ⟨_, _, G8.mono (by decide), k8, b8⟩
            · exact ⟨_, _, G9.mono (by decide), k9, b9⟩) (hr.mono (by decide)) (fun σ pins H0 => pas pins σ H0) (pa_cons (pv 1) pa_nil)))))
      (pss_one (ps_if (pt_cmpR op_lt (pv 0) pe_int (nomark _)) (pss_cons (ps_set (i := 3) scLC.nd rfl (Or.inl rfl) (pe_lst (pa_cons (pe_glob (v := .ref f10) rfl g10 rfl) (pa_cons (pe_glob (v := .ref f11) rfl g11 rfl) (pa_cons (pe_glob (v := .ref f12) rfl g12 rfl) (pa_cons (pe_glob (v := .ref f13) rfl g13 rfl) (pa_cons (pe_glob (v := .ref f14) rfl g14 rfl) (pa_cons (pe_glob (v := .ref f15) rfl g15 rfl) (pa_cons (pe_glob (v := .ref f16) rfl g16 rfl) (pa_cons (pe_glob (v := .ref f17) rfl g17 rfl) pa_nil)))))))))) (pss_one (ps_expr (pe_callE (S := [(f10, spN2 K C CB), (f11, spN2 K C CB), (f12, spNA K C CB), (f13, spNA K C CB), (f14, spN2 K C CB), (f15, spN2 K C CB), (f16, spN2 K C CB), (f17, spN2 K C CB)]) (E := fun _ => E) (k := 5) (CX := L2.CX P w) (pe_ix ix_list (pv 3) (pe_op op_sub (pv 0) pe_int) (fun _ _ => rfl))
          (fun q hq => by
            simp only [List.mem_cons, List.not_mem_nil, or_false] at hq
            rcases hq with rfl | rfl | rfl | rfl | rfl | rfl | rfl | rfl
            · exact ⟨_, _, G10.mono (by decide), k10, b10⟩
            · exact ⟨_, _, G11.mono (by decide), k11, b11⟩
            · exact ⟨_, _, G12.mono (by decide), k12, b12⟩
            · exact ⟨_, _, G13.mono (by decide), k13, b13⟩
            · exact ⟨_, _, G14.mono (by decide), k14, b14⟩
            · exact ⟨_, _, G15.mono (by decide), k15, b15⟩
            · exact ⟨_, _, G16.mono (by decide), k16, b16⟩
            · exact ⟨_, _, G17.mono (by decide), k17, b17⟩) (hr.mono (by decide)) (fun σ pins H0 => pas pins σ H0) (pa_cons (pv 1) (pa_cons pe_non pa_nil))))))
      (pss_one (ps_if (pt_cmpR op_lt (pv 0) pe_int (nomark _)) (pss_one (ps_expr (pe_callE (S := [(f12, spNA K C CB), (f13, spNA K C CB)]) (E := fun _ => E) (k := 5) (CX := L2.CX P w) (pe_ix ix_list (pe_lst (pa_cons (pe_glob (v := .ref f12) rfl g12 rfl) (pa_cons (pe_glob (v := .ref f13) rfl g13 rfl) pa_nil))) (pe_op op_sub (pv 0) pe_int) (fun _ _ => rfl))
          (fun q hq => by
            simp only [List.mem_cons, List.not_mem_nil, or_false] at hq
            rcases hq with rfl | rfl
            · exact ⟨_, _, G12.mono (by decide), k12, b12⟩
            · exact ⟨_, _, G13.mono (by decide), k13, b13⟩) (hr.mono (by decide)) (fun σ pins H0 => pas pins σ H0) (pa_cons (pv 2) (pa_cons (pv 1) pa_nil)))))
      (pss_one (ps_if (pt_cmpR op_lt (pv 0) pe_int (nomark _)) (pss_cons (ps_set (i := 3) scLC.nd rfl (Or.inl rfl) (pe_lst (pa_cons (pe_glob (v := .ref f18) rfl g18 rfl) (pa_cons (pe_glob (v := .ref f19) rfl g19 rfl) (pa_cons (pe_glob (v := .ref f20) rfl g20 rfl) (pa_cons (pe_glob (v := .ref f21) rfl g21 rfl) (pa_cons (pe_glob (v := .ref f22) rfl g22 rfl) (pa_cons (pe_glob (v := .ref f23) rfl g23 rfl) (pa_cons (pe_glob (v := .ref f24) rfl g24 rfl) pa_nil))))))))) (pss_one (ps_expr (pe_callE (S := [(f18, spN3 K C CB), (f19, spN3 K C CB), (f20, spN3 K C CB), (f21, spN3 K C CB), (f22, spN3 K C CB), (f23, spN3 K C CB), (f24, spN3 K C CB)]) (E := fun _ => E) (k := 5) (CX := L2.CX P w) (pe_ix ix_list (pv 3) (pe_op op_sub (pv 0) pe_int) (fun _ _ => rfl))
          (fun q hq => by
            simp only [List.mem_cons, List.not_mem_nil, or_false] at hq
            rcases hq with rfl | rfl | rfl | rfl | rfl | rfl | rfl
            · exact ⟨_, _, G18.mono (by decide), k18, b18⟩
            · exact ⟨_, _, G19.mono (by decide), k19, b19⟩
            · exact ⟨_, _, G20.mono (by decide), k20, b20⟩
            · exact ⟨_, _, G21.mono (by decide), k21, b21⟩
            · exact ⟨_, _, G22.mono (by decide), k22, b22⟩
            · exact ⟨_, _, G23.mono (by decide), k23, b23⟩
            · exact ⟨_, _, G24.mono (by decide), k24, b24⟩) (hr.mono (by decide)) (fun σ pins H0 => pas pins σ H0) (pa_cons (pv 1) (pa_cons pe_non (pa_cons pe_non pa_nil)))))))
      (pss_one (ps_expr (pe_mkS MD GD (hr.mono (by decide)) rfl gDk bD (fun σ pins H0 => pas pins σ H0) (pa_cons (pv 1) pa_nil)))))))))))), ?_⟩
    refine ⟨by show 0 ≤ sizeLine; decide, fun q hq => ?_⟩
    obtain ⟨s1, e1⟩ := new_at (o := .tup []) hq
    generalize upd H q (.tup []) = H1 at s1 e1 ⊢
    intro c dx nc ndx nex
    have s2 : Same H1 (upd (upd H1 dx (.own c)) c (.ins C dx [])) := fun b o e => by
      rw [upd_ne (ne_of_none e nc), upd_ne (ne_of_none e ndx)]
      exact e
    refine ⟨⟨c, dx, 2, q, [], rfl, upd_same, by omega, by omega, ⟨s2 _ _ e1, fun _ h => (by cases h)⟩, okNil2 2, fun H4 hx kp => ⟨rfl, ?_⟩⟩⟩
    have s3 : Same H1 H4 := fun b o e => kp b o (ne_of_none e nc) (s2 b o e)
    have s4 := s1.trans s3
    have hv4 := hv.same s4
    have k4 : ∀ H', Same H4 H' → E (.ref CB) none H' := fun H' s => k H' (s4.trans s)
    have : kd = 0 ∨ kd = 1 ∨ kd = 2 ∨ kd = 3 ∨ kd = 4 ∨ kd = 5 ∨ kd = 6 ∨ kd = 7 ∨ kd = 8 ∨ kd = 9 ∨ kd = 10 ∨ kd = 11 ∨ kd = 12 ∨ kd = 13 ∨ kd = 14 ∨ kd = 15 ∨ kd = 16 ∨ kd = 17 ∨ kd = 18 ∨ kd = 19 ∨ kd = 20 ∨ kd = 21 ∨ kd = 22 ∨ kd = 23 ∨ kd = 24 ∨ kd = 25 ∨ kd = 26 ∨ kd = 27 := by omega
    rcases this with rfl | rfl | rfl | rfl | rfl | rfl | rfl | rfl | rfl | rfl | rfl | rfl | rfl | rfl | rfl | rfl | rfl | rfl | rfl | rfl | rfl | rfl | rfl | rfl | rfl | rfl | rfl | rfl
    · refine ⟨_, rfl, _, _, rfl, rfl, _, rfl, iteT ?_⟩
      refine ⟨(by show 9 ≤ sizeLine; decide), fun l1 h1 => ?_⟩
      obtain ⟨s5, g5⟩ := new_at (o := .lst [.ref f0, .ref f1, .ref f2, .ref f3, .ref f4, .ref f5, .ref f6, .ref f7, .ref f8]) h1
      simp only [] at s5 g5 ⊢
      generalize upd H4 l1 (.lst [.ref f0, .ref f1, .ref f2, .ref f3, .ref f4, .ref f5, .ref f6, .ref f7, .ref f8]) = H5 at s5 g5 ⊢
      refine ⟨_, rfl, ?_⟩
      refine ⟨(by show 1 ≤ sizeLine; decide), fun l2 h2 => ?_⟩
      obtain ⟨s6, g6⟩ := new_at (o := .lst [.ref f9]) h2
      simp only [] at s6 g6 ⊢
      generalize upd H5 l2 (.lst [.ref f9]) = H6 at s6 g6 ⊢
      refine ⟨l1, l2, _, _, rfl, rfl, s6 _ _ g5, g6, (by show 10 ≤ sizeLine; decide), fun l3 h3 => ?_⟩
      obtain ⟨s7, g7⟩ := new_at (o := .lst [.ref f0, .ref f1, .ref f2, .ref f3, .ref f4, .ref f5, .ref f6, .ref f7, .ref f8, .ref f9]) h3
      have s47 := (s5.trans s6).trans s7
      exact ⟨_, rfl, l3, _, 0, .ref f0, rfl, rfl, SqL.of g7, rfl, f0, _, List.mem_cons_self, rfl, _, rfl, ⟨⟨v, rfl, hv4.same s47, k4 _ s47⟩⟩⟩
    · refine ⟨_, rfl, _, _, rfl, rfl, _, rfl, iteT ?_⟩
      refine ⟨(by show 9 ≤ sizeLine; decide), fun l1 h1 => ?_⟩
      obtain ⟨s5, g5⟩ := new_at (o := .lst [.ref f0, .ref f1, .ref f2, .ref f3, .ref f4, .ref f5, .ref f6, .ref f7, .ref f8]) h1
      simp only [] at s5 g5 ⊢
      generalize upd H4 l1 (.lst [.ref f0, .ref f1, .ref f2, .ref f3, .ref f4, .ref f5, .ref f6, .ref f7, .ref f8]) = H5 at s5 g5 ⊢
      refine ⟨_, rfl, ?_⟩
      refine ⟨(by show 1 ≤ sizeLine; decide), fun l2 h2 => ?_⟩
      obtain ⟨s6, g6⟩ := new_at (o := .lst [.ref f9]) h2
      simp only [] at s6 g6 ⊢
      generalize upd H5 l2 (.lst [.ref f9]) = H6 at s6 g6 ⊢
      refine ⟨l1, l2, _, _, rfl, rfl, s6 _ _ g5, g6, (by show 10 ≤ sizeLine; decide), fun l3 h3 => ?_⟩
      obtain ⟨s7, g7⟩ := new_at (o := .lst [.ref f0, .ref f1, .ref f2, .ref f3, .ref f4, .ref f5, .ref f6, .ref f7, .ref f8, .ref f9]) h3
      have s47 := (s5.trans s6).trans s7
      exact ⟨_, rfl, l3, _, 1, .ref f1, rfl, rfl, SqL.of g7, rfl, f1, _, (List.mem_cons_of_mem _ List.mem_cons_self), rfl, _, rfl, ⟨⟨v, rfl, hv4.same s47, k4 _ s47⟩⟩⟩
    · refine ⟨_, rfl, _, _, rfl, rfl, _, rfl, iteT ?_⟩
      refine ⟨(by show 9 ≤ sizeLine; decide), fun l1 h1 => ?_⟩
      obtain ⟨s5, g5⟩ := new_at (o := .lst [.ref f0, .ref f1, .ref f2, .ref f3, .ref f4, .ref f5, .ref f6, .ref f7, .ref f8]) h1
      simp only [] at s5 g5 ⊢
      generalize upd H4 l1 (.lst [.ref f0, .ref f1, .ref f2, .ref f3, .ref f4, .ref f5, .ref f6, .ref f7, .ref f8]) = H5 at s5 g5 ⊢
      refine ⟨_, rfl, ?_⟩
      refine ⟨(by show 1 ≤ sizeLine; decide), fun l2 h2 => ?_⟩
      obtain ⟨s6, g6⟩ := new_at (o := .lst [.ref f9]) h2
      simp only [] at s6 g6 ⊢
      generalize upd H5 l2 (.lst [.ref f9]) = H6 at s6 g6 ⊢
      refine ⟨l1, l2, _, _, rfl, rfl, s6 _ _ g5, g6, (by show 10 ≤ sizeLine; decide), fun l3 h3 => ?_⟩
      obtain ⟨s7, g7⟩ := new_at (o := .lst [.ref f0, .ref f1, .ref f2, .ref f3, .ref f4, .ref f5, .ref f6, .ref f7, .ref f8, .ref f9]) h3
      have s47 := (s5.trans s6).trans s7
      exact ⟨_, rfl, l3, _, 2, .ref f2, rfl, rfl, SqL.of g7, rfl, f2, _, (List.mem_cons_of_mem _ (List.mem_cons_of_mem _ List.mem_cons_self)), rfl, _, rfl, ⟨⟨v, rfl, hv4.same s47, k4 _ s47⟩⟩⟩
    · refine ⟨_, rfl, _, _, rfl, rfl, _, rfl, iteT ?_⟩
      refine ⟨(by show 9 ≤ sizeLine; decide), fun l1 h1 => ?_⟩
      obtain ⟨s5, g5⟩ := new_at (o := .lst [.ref f0, .ref f1, .ref f2, .ref f3, .ref f4, .ref f5, .ref f6, .ref f7, .ref f8]) h1
      simp only [] at s5 g5 ⊢
      generalize upd H4 l1 (.lst [.ref f0, .ref f1, .ref f2, .ref f3, .ref f4, .ref f5, .ref f6, .ref f7, .ref f8]) = H5 at s5 g5 ⊢
      refine ⟨_, rfl, ?_⟩
      refine ⟨(by show 1 ≤ sizeLine; decide), fun l2 h2 => ?_⟩
      obtain ⟨s6, g6⟩ := new_at (o := .lst [.ref f9]) h2
      simp only [] at s6 g6 ⊢
      generalize upd H5 l2 (.lst [.ref f9]) = H6 at s6 g6 ⊢
      refine ⟨l1, l2, _, _, rfl, rfl, s6 _ _ g5, g6, (by show 10 ≤ sizeLine; decide), fun l3 h3 => ?_⟩
      obtain ⟨s7, g7⟩ := new_at (o := .lst [.ref f0, .ref f1, .ref f2, .ref f3, .ref f4, .ref f5, .ref f6, .ref f7, .ref f8, .ref f9]) h3
      have s47 := (s5.trans s6).trans s7
      exact ⟨_, rfl, l3, _, 3, .ref f3, rfl, rfl, SqL.of g7, rfl, f3, _, (List.mem_cons_of_mem _ (List.mem_cons_of_mem _ (List.mem_cons_of_mem _ List.mem_cons_self))), rfl, _, rfl, ⟨⟨v, rfl, hv4.same s47, k4 _ s47⟩⟩⟩
    · refine ⟨_, rfl, _, _, rfl, rfl, _, rfl, iteT ?_⟩
      refine ⟨(by show 9 ≤ sizeLine; decide), fun l1 h1 => ?_⟩
      obtain ⟨s5, g5⟩ := new_at (o := .lst [.ref f0, .ref f1, .ref f2, .ref f3, .ref f4, .ref f5, .ref f6, .ref f7, .ref f8]) h1
      simp only [] at s5 g5 ⊢
      generalize upd H4 l1 (.lst [.ref f0, .ref f1, .ref f2, .ref f3, .ref f4, .ref f5, .ref f6, .ref f7, .ref f8]) = H5 at s5 g5 ⊢
      refine ⟨_, rfl, ?_⟩
      refine ⟨(by show 1 ≤ sizeLine; decide), fun l2 h2 => ?_⟩
      obtain ⟨s6, g6⟩ := new_at (o := .lst [.ref f9]) h2
      simp only [] at s6 g6 ⊢
      generalize upd H5 l2 (.lst [.ref f9]) = H6 at s6 g6 ⊢
      refine ⟨l1, l2, _, _, rfl, rfl, s6 _ _ g5, g6, (by show 10 ≤ sizeLine; decide), fun l3 h3 => ?_⟩
      obtain ⟨s7, g7⟩ := new_at (o := .lst [.ref f0, .ref f1, .ref f2, .ref f3, .ref f4, .ref f5, .ref f6, .ref f7, .ref f8, .ref f9]) h3
      have s47 := (s5.trans s6).trans s7
      exact ⟨_, rfl, l3, _, 4, .ref f4, rfl, rfl, SqL.of g7, rfl, f4, _, (List.mem_cons_of_mem _ (List.mem_cons_of_mem _ (List.mem_cons_of_mem _ (List.mem_cons_of_mem _ List.mem_cons_self)))), rfl, _, rfl, ⟨⟨v, rfl, hv4.same s47, k4 _ s47⟩⟩⟩
    · refine ⟨_, rfl, _, _, rfl, rfl, _, rfl, iteT ?_⟩
      refine ⟨(by show 9 ≤ sizeLine; decide), fun l1 h1 => ?_⟩
      obtain ⟨s5, g5⟩ := new_at (o := .lst [.ref f0, .ref f1, .ref f2, .ref f3, .ref f4, .ref f5, .ref f6, .ref f7, .ref f8]) h1
      simp only [] at s5 g5 ⊢
      generalize upd H4 l1 (.lst [.ref f0, .ref f1, .ref f2, .ref f3, .ref f4, .ref f5, .ref f6, .ref f7, .ref f8]) = H5 at s5 g5 ⊢
      refine ⟨_, rfl, ?_⟩
      refine ⟨(by show 1 ≤ sizeLine; decide), fun l2 h2 => ?_⟩
      obtain ⟨s6, g6⟩ := new_at (o := .lst [.ref f9]) h2
      simp only [] at s6 g6 ⊢
      generalize upd H5 l2 (.lst [.ref f9]) = H6 at s6 g6 ⊢
      refine ⟨l1, l2, _, _, rfl, rfl, s6 _ _ g5, g6, (by show 10 ≤ sizeLine; decide), fun l3 h3 => ?_⟩
      obtain ⟨s7, g7⟩ := new_at (o := .lst [.ref f0, .ref f1, .ref f2, .ref f3, .ref f4, .ref f5, .ref f6, .ref f7, .ref f8, .ref f9]) h3
      have s47 := (s5.trans s6).trans s7
      exact ⟨_, rfl, l3, _, 5, .ref f5, rfl, rfl, SqL.of g7, rfl, f5, _, (List.mem_cons_of_mem _ (List.mem_cons_of_mem _ (List.mem_cons_of_mem _ (List.mem_cons_of_mem _ (List.mem_cons_of_mem _ List.mem_cons_self))))), rfl, _, rfl, ⟨⟨v, rfl, hv4.same s47, k4 _ s47⟩⟩⟩
    · refine ⟨_, rfl, _, _, rfl, rfl, _, rfl, iteT ?_⟩
      refine ⟨(by show 9 ≤ sizeLine; decide), fun l1 h1 => ?_⟩
      obtain ⟨s5, g5⟩ := new_at (o := .lst [.ref f0, .ref f1, .ref f2, .ref f3, .ref f4, .ref f5, .ref f6, .ref f7, .ref f8]) h1
      simp only [] at s5 g5 ⊢
      generalize upd H4 l1 (.lst [.ref f0, .ref f1, .ref f2, .ref f3, .ref f4, .ref f5, .ref f6, .ref f7, .ref f8]) = H5 at s5 g5 ⊢
      refine ⟨_, rfl, ?_⟩
      refine ⟨(by show 1 ≤ sizeLine; decide), fun l2 h2 => ?_⟩
      obtain ⟨s6, g6⟩ := new_at (o := .lst [.ref f9]) h2
      simp only [] at s6 g6 ⊢
      generalize upd H5 l2 (.lst [.ref f9]) = H6 at s6 g6 ⊢
      refine ⟨l1, l2, _, _, rfl, rfl, s6 _ _ g5, g6, (by show 10 ≤ sizeLine; decide), fun l3 h3 => ?_⟩
      obtain ⟨s7, g7⟩ := new_at (o := .lst [.ref f0, .ref f1, .ref f2, .ref f3, .ref f4, .ref f5, .ref f6, .ref f7, .ref f8, .ref f9]) h3
      have s47 := (s5.trans s6).trans s7
      exact ⟨_, rfl, l3, _, 6, .ref f6, rfl, rfl, SqL.of g7, rfl, f6, _, (List.mem_cons_of_mem _ (List.mem_cons_of_mem _ (List.mem_cons_of_mem _ (List.mem_cons_of_mem _ (List.mem_cons_of_mem _ (List.mem_cons_of_mem _ List.mem_cons_self)))))), rfl, _, rfl, ⟨⟨v, rfl, hv4.same s47, k4 _ s47⟩⟩⟩
    · refine ⟨_, rfl, _, _, rfl, rfl, _, rfl, iteT ?_⟩
      refine ⟨(by show 9 ≤ sizeLine; decide), fun l1 h1 => ?_⟩
      obtain ⟨s5, g5⟩ := new_at (o := .lst [.ref f0, .ref f1, .ref f2, .ref f3, .ref f4, .ref f5, .ref f6, .ref f7, .ref f8]) h1
      simp only [] at s5 g5 ⊢
      generalize upd H4 l1 (.lst [.ref f0, .ref f1, .ref f2, .ref f3, .ref f4, .ref f5, .ref f6, .ref f7, .ref f8]) = H5 at s5 g5 ⊢
      refine ⟨_, rfl, ?_⟩
      refine ⟨(by show 1 ≤ sizeLine; decide), fun l2 h2 => ?_⟩
      obtain ⟨s6, g6⟩ := new_at (o := .lst [.ref f9]) h2
      simp only [] at s6 g6 ⊢
      generalize upd H5 l2 (.lst [.ref f9]) = H6 at s6 g6 ⊢
      refine ⟨l1, l2, _, _, rfl, rfl, s6 _ _ g5, g6, (by show 10 ≤ sizeLine; decide), fun l3 h3 => ?_⟩
      obtain ⟨s7, g7⟩ := new_at (o := .lst [.ref f0, .ref f1, .ref f2, .ref f3, .ref f4, .ref f5, .ref f6, .ref f7, .ref f8, .ref f9]) h3
      have s47 := (s5.trans s6).trans s7
      exact ⟨_, rfl, l3, _, 7, .ref f7, rfl, rfl, SqL.of g7, rfl, f7, _, (List.mem_cons_of_mem _ (List.mem_cons_of_mem _ (List.mem_cons_of_mem _ (List.mem_cons_of_mem _ (List.mem_cons_of_mem _ (List.mem_cons_of_mem _ (List.mem_cons_of_mem _ List.mem_cons_self))))))), rfl, _, rfl, ⟨⟨v, rfl, hv4.same s47, k4 _ s47⟩⟩⟩
    · refine ⟨_, rfl, _, _, rfl, rfl, _, rfl, iteT ?_⟩
      refine ⟨(by show 9 ≤ sizeLine; decide), fun l1 h1 => ?_⟩
      obtain ⟨s5, g5⟩ := new_at (o := .lst [.ref f0, .ref f1, .ref f2, .ref f3, .ref f4, .ref f5, .ref f6, .ref f7, .ref f8]) h1
      simp only [] at s5 g5 ⊢
      generalize upd H4 l1 (.lst [.ref f0, .ref f1, .ref f2, .ref f3, .ref f4, .ref f5, .ref f6, .ref f7, .ref f8]) = H5 at s5 g5 ⊢
      refine ⟨_, rfl, ?_⟩
      refine ⟨(by show 1 ≤ sizeLine; decide), fun l2 h2 => ?_⟩
      obtain ⟨s6, g6⟩ := new_at (o := .lst [.ref f9]) h2
      simp only [] at s6 g6 ⊢
      generalize upd H5 l2 (.lst [.ref f9]) = H6 at s6 g6 ⊢
      refine ⟨l1, l2, _, _, rfl, rfl, s6 _ _ g5, g6, (by show 10 ≤ sizeLine; decide), fun l3 h3 => ?_⟩
      obtain ⟨s7, g7⟩ := new_at (o := .lst [.ref f0, .ref f1, .ref f2, .ref f3, .ref f4, .ref f5, .ref f6, .ref f7, .ref f8, .ref f9]) h3
      have s47 := (s5.trans s6).trans s7
      exact ⟨_, rfl, l3, _, 8, .ref f8, rfl, rfl, SqL.of g7, rfl, f8, _, (List.mem_cons_of_mem _ (List.mem_cons_of_mem _ (List.mem_cons_of_mem _ (List.mem_cons_of_mem _ (List.mem_cons_of_mem _ (List.mem_cons_of_mem _ (List.mem_cons_of_mem _ (List.mem_cons_of_mem _ List.mem_cons_self)))))))), rfl, _, rfl, ⟨⟨v, rfl, hv4.same s47, k4 _ s47⟩⟩⟩
    · refine ⟨_, rfl, _, _, rfl, rfl, _, rfl, iteT ?_⟩
      refine ⟨(by show 9 ≤ sizeLine; decide), fun l1 h1 => ?_⟩
      obtain ⟨s5, g5⟩ := new_at (o := .lst [.ref f0, .ref f1, .ref f2, .ref f3, .ref f4, .ref f5, .ref f6, .ref f7, .ref f8]) h1
      simp only [] at s5 g5 ⊢
      generalize upd H4 l1 (.lst [.ref f0, .ref f1, .ref f2, .ref f3, .ref f4, .ref f5, .ref f6, .ref f7, .ref f8]) = H5 at s5 g5 ⊢
      refine ⟨_, rfl, ?_⟩
      refine ⟨(by show 1 ≤ sizeLine; decide), fun l2 h2 => ?_⟩
      obtain ⟨s6, g6⟩ := new_at (o := .lst [.ref f9]) h2
      simp only [] at s6 g6 ⊢
      generalize upd H5 l2 (.lst [.ref f9]) = H6 at s6 g6 ⊢
      refine ⟨l1, l2, _, _, rfl, rfl, s6 _ _ g5, g6, (by show 10 ≤ sizeLine; decide), fun l3 h3 => ?_⟩
      obtain ⟨s7, g7⟩ := new_at (o := .lst [.ref f0, .ref f1, .ref f2, .ref f3, .ref f4, .ref f5, .ref f6, .ref f7, .ref f8, .ref f9]) h3
      have s47 := (s5.trans s6).trans s7
      exact ⟨_, rfl, l3, _, 9, .ref f9, rfl, rfl, SqL.of g7, rfl, f9, _, (List.mem_cons_of_mem _ (List.mem_cons_of_mem _ (List.mem_cons_of_mem _ (List.mem_cons_of_mem _ (List.mem_cons_of_mem _ (List.mem_cons_of_mem _ (List.mem_cons_of_mem _ (List.mem_cons_of_mem _ (List.mem_cons_of_mem _ List.mem_cons_self))))))))), rfl, _, rfl, ⟨⟨v, rfl, hv4.same s47, k4 _ s47⟩⟩⟩
    · refine ⟨_, rfl, _, _, rfl, rfl, _, rfl, iteF ?_⟩
      refine ⟨_, rfl, _, _, rfl, rfl, _, rfl, iteT ?_⟩
      refine ⟨(by show 8 ≤ sizeLine; decide), fun l1 h1 => ?_⟩
      obtain ⟨s5, g5⟩ := new_at (o := .lst [.ref f10, .ref f11, .ref f12, .ref f13, .ref f14, .ref f15, .ref f16, .ref f17]) h1
      simp only [] at s5 g5 ⊢
      generalize upd H4 l1 (.lst [.ref f10, .ref f11, .ref f12, .ref f13, .ref f14, .ref f15, .ref f16, .ref f17]) = H5 at s5 g5 ⊢
      exact ⟨_, rfl, _, rfl, _, _, rfl, rfl, l1, _, 0, .ref f10, rfl, rfl, SqL.of g5, rfl, f10, _, List.mem_cons_self, rfl, _, rfl, ⟨⟨v, .non, rfl, hv4.same s5, k4 _ s5⟩⟩⟩
    · refine ⟨_, rfl, _, _, rfl, rfl, _, rfl, iteF ?_⟩
      refine ⟨_, rfl, _, _, rfl, rfl, _, rfl, iteT ?_⟩
      refine ⟨(by show 8 ≤ sizeLine; decide), fun l1 h1 => ?_⟩
      obtain ⟨s5, g5⟩ := new_at (o := .lst [.ref f10, .ref f11, .ref f12, .ref f13, .ref f14, .ref f15, .ref f16, .ref f17]) h1
      simp only [] at s5 g5 ⊢
      generalize upd H4 l1 (.lst [.ref f10, .ref f11, .ref f12, .ref f13, .ref f14, .ref f15, .ref f16, .ref f17]) = H5 at s5 g5 ⊢
      exact ⟨_, rfl, _, rfl, _, _, rfl, rfl, l1, _, 1, .ref f11, rfl, rfl, SqL.of g5, rfl, f11, _, (List.mem_cons_of_mem _ List.mem_cons_self), rfl, _, rfl, ⟨⟨v, .non, rfl, hv4.same s5, k4 _ s5⟩⟩⟩
    · refine ⟨_, rfl, _, _, rfl, rfl, _, rfl, iteF ?_⟩
      refine ⟨_, rfl, _, _, rfl, rfl, _, rfl, iteT ?_⟩
      refine ⟨(by show 8 ≤ sizeLine; decide), fun l1 h1 => ?_⟩
      obtain ⟨s5, g5⟩ := new_at (o := .lst [.ref f10, .ref f11, .ref f12, .ref f13, .ref f14, .ref f15, .ref f16, .ref f17]) h1
      simp only [] at s5 g5 ⊢
      generalize upd H4 l1 (.lst [.ref f10, .ref f11, .ref f12, .ref f13, .ref f14, .ref f15, .ref f16, .ref f17]) = H5 at s5 g5 ⊢
      exact ⟨_, rfl, _, rfl, _, _, rfl, rfl, l1, _, 2, .ref f12, rfl, rfl, SqL.of g5, rfl, f12, _, (List.mem_cons_of_mem _ (List.mem_cons_of_mem _ List.mem_cons_self)), rfl, _, rfl, ⟨⟨v, .non, rfl, .inl (hv4.same s5), k4 _ s5⟩⟩⟩
    · refine ⟨_, rfl, _, _, rfl, rfl, _, rfl, iteF ?_⟩
      refine ⟨_, rfl, _, _, rfl, rfl, _, rfl, iteT ?_⟩
      refine ⟨(by show 8 ≤ sizeLine; decide), fun l1 h1 => ?_⟩
      obtain ⟨s5, g5⟩ := new_at (o := .lst [.ref f10, .ref f11, .ref f12, .ref f13, .ref f14, .ref f15, .ref f16, .ref f17]) h1
      simp only [] at s5 g5 ⊢
      generalize upd H4 l1 (.lst [.ref f10, .ref f11, .ref f12, .ref f13, .ref f14, .ref f15, .ref f16, .ref f17]) = H5 at s5 g5 ⊢
      exact ⟨_, rfl, _, rfl, _, _, rfl, rfl, l1, _, 3, .ref f13, rfl, rfl, SqL.of g5, rfl, f13, _, (List.mem_cons_of_mem _ (List.mem_cons_of_mem _ (List.mem_cons_of_mem _ List.mem_cons_self))), rfl, _, rfl, ⟨⟨v, .non, rfl, .inl (hv4.same s5), k4 _ s5⟩⟩⟩
    · refine ⟨_, rfl, _, _, rfl, rfl, _, rfl, iteF ?_⟩
      refine ⟨_, rfl, _, _, rfl, rfl, _, rfl, iteT ?_⟩
      refine ⟨(by show 8 ≤ sizeLine; decide), fun l1 h1 => ?_⟩
      obtain ⟨s5, g5⟩ := new_at (o := .lst [.ref f10, .ref f11, .ref f12, .ref f13, .ref f14, .ref f15, .ref f16, .ref f17]) h1
      simp only [] at s5 g5 ⊢
      generalize upd H4 l1 (.lst [.ref f10, .ref f11, .ref f12, .ref f13, .ref f14, .ref f15, .ref f16, .ref f17]) = H5 at s5 g5 ⊢
      exact ⟨_, rfl, _, rfl, _, _, rfl, rfl, l1, _, 4, .ref f14, rfl, rfl, SqL.of g5, rfl, f14, _, (List.mem_cons_of_mem _ (List.mem_cons_of_mem _ (List.mem_cons_of_mem _ (List.mem_cons_of_mem _ List.mem_cons_self)))), rfl, _, rfl, ⟨⟨v, .non, rfl, hv4.same s5, k4 _ s5⟩⟩⟩
    · refine ⟨_, rfl, _, _, rfl, rfl, _, rfl, iteF ?_⟩
      refine ⟨_, rfl, _, _, rfl, rfl, _, rfl, iteT ?_⟩
      refine ⟨(by show 8 ≤ sizeLine; decide), fun l1 h1 => ?_⟩
      obtain ⟨s5, g5⟩ := new_at (o := .lst [.ref f10, .ref f11, .ref f12, .ref f13, .ref f14, .ref f15, .ref f16, .ref f17]) h1
      simp only [] at s5 g5 ⊢
      generalize upd H4 l1 (.lst [.ref f10, .ref f11, .ref f12, .ref f13, .ref f14, .ref f15, .ref f16, .ref f17]) = H5 at s5 g5 ⊢
      exact ⟨_, rfl, _, rfl, _, _, rfl, rfl, l1, _, 5, .ref f15, rfl, rfl, SqL.of g5, rfl, f15, _, (List.mem_cons_of_mem _ (List.mem_cons_of_mem _ (List.mem_cons_of_mem _ (List.mem_cons_of_mem _ (List.mem_cons_of_mem _ List.mem_cons_self))))), rfl, _, rfl, ⟨⟨v, .non, rfl, hv4.same s5, k4 _ s5⟩⟩⟩
    · refine ⟨_, rfl, _, _, rfl, rfl, _, rfl, iteF ?_⟩
      refine ⟨_, rfl, _, _, rfl, rfl, _, rfl, iteT ?_⟩
      refine ⟨(by show 8 ≤ sizeLine; decide), fun l1 h1 => ?_⟩
      obtain ⟨s5, g5⟩ := new_at (o := .lst [.ref f10, .ref f11, .ref f12, .ref f13, .ref f14, .ref f15, .ref f16, .ref f17]) h1
      simp only [] at s5 g5 ⊢
      generalize upd H4 l1 (.lst [.ref f10, .ref f11, .ref f12, .ref f13, .ref f14, .ref f15, .ref f16, .ref f17]) = H5 at s5 g5 ⊢
      exact ⟨_, rfl, _, rfl, _, _, rfl, rfl, l1, _, 6, .ref f16, rfl, rfl, SqL.of g5, rfl, f16, _, (List.mem_cons_of_mem _ (List.mem_cons_of_mem _ (List.mem_cons_of_mem _ (List.mem_cons_of_mem _ (List.mem_cons_of_mem _ (List.mem_cons_of_mem _ List.mem_cons_self)))))), rfl, _, rfl, ⟨⟨v, .non, rfl, hv4.same s5, k4 _ s5⟩⟩⟩
    · refine ⟨_, rfl, _, _, rfl, rfl, _, rfl, iteF ?_⟩
      refine ⟨_, rfl, _, _, rfl, rfl, _, rfl, iteT ?_⟩
      refine ⟨(by show 8 ≤ sizeLine; decide), fun l1 h1 => ?_⟩
      obtain ⟨s5, g5⟩ := new_at (o := .lst [.ref f10, .ref f11, .ref f12, .ref f13, .ref f14, .ref f15, .ref f16, .ref f17]) h1
      simp only [] at s5 g5 ⊢
      generalize upd H4 l1 (.lst [.ref f10, .ref f11, .ref f12, .ref f13, .ref f14, .ref f15, .ref f16, .ref f17]) = H5 at s5 g5 ⊢
      exact ⟨_, rfl, _, rfl, _, _, rfl, rfl, l1, _, 7, .ref f17, rfl, rfl, SqL.of g5, rfl, f17, _, (List.mem_cons_of_mem _ (List.mem_cons_of_mem _ (List.mem_cons_of_mem _ (List.mem_cons_of_mem _ (List.mem_cons_of_mem _ (List.mem_cons_of_mem _ (List.mem_cons_of_mem _ List.mem_cons_self))))))), rfl, _, rfl, ⟨⟨v, .non, rfl, hv4.same s5, k4 _ s5⟩⟩⟩
    · refine ⟨_, rfl, _, _, rfl, rfl, _, rfl, iteF ?_⟩
      refine ⟨_, rfl, _, _, rfl, rfl, _, rfl, iteF ?_⟩
      refine ⟨_, rfl, _, _, rfl, rfl, _, rfl, iteT ?_⟩
      refine ⟨(by show 2 ≤ sizeLine; decide), fun l1 h1 => ?_⟩
      obtain ⟨s5, g5⟩ := new_at (o := .lst [.ref f12, .ref f13]) h1
      simp only [] at s5 g5 ⊢
      generalize upd H4 l1 (.lst [.ref f12, .ref f13]) = H5 at s5 g5 ⊢
      exact ⟨_, rfl, _, _, rfl, rfl, l1, _, 0, .ref f12, rfl, rfl, SqL.of g5, rfl, f12, _, List.mem_cons_self, rfl, _, rfl, _, rfl, ⟨⟨.ref c, v, rfl, .inr ⟨⟨c, 2, q, rfl, dx, s5 _ _ hx⟩, hv4.same s5⟩, k4 _ s5⟩⟩⟩
    · refine ⟨_, rfl, _, _, rfl, rfl, _, rfl, iteF ?_⟩
      refine ⟨_, rfl, _, _, rfl, rfl, _, rfl, iteF ?_⟩
      refine ⟨_, rfl, _, _, rfl, rfl, _, rfl, iteT ?_⟩
      refine ⟨(by show 2 ≤ sizeLine; decide), fun l1 h1 => ?_⟩
      obtain ⟨s5, g5⟩ := new_at (o := .lst [.ref f12, .ref f13]) h1
      simp only [] at s5 g5 ⊢
      generalize upd H4 l1 (.lst [.ref f12, .ref f13]) = H5 at s5 g5 ⊢
      exact ⟨_, rfl, _, _, rfl, rfl, l1, _, 1, .ref f13, rfl, rfl, SqL.of g5, rfl, f13, _, (List.mem_cons_of_mem _ List.mem_cons_self), rfl, _, rfl, _, rfl, ⟨⟨.ref c, v, rfl, .inr ⟨⟨c, 2, q, rfl, dx, s5 _ _ hx⟩, hv4.same s5⟩, k4 _ s5⟩⟩⟩
    · refine ⟨_, rfl, _, _, rfl, rfl, _, rfl, iteF ?_⟩
      refine ⟨_, rfl, _, _, rfl, rfl, _, rfl, iteF ?_⟩
      refine ⟨_, rfl, _, _, rfl, rfl, _, rfl, iteF ?_⟩
      refine ⟨_, rfl, _, _, rfl, rfl, _, rfl, iteT ?_⟩
      refine ⟨(by show 7 ≤ sizeLine; decide), fun l1 h1 => ?_⟩
      obtain ⟨s5, g5⟩ := new_at (o := .lst [.ref f18, .ref f19, .ref f20, .ref f21, .ref f22, .ref f23, .ref f24]) h1
      simp only [] at s5 g5 ⊢
      generalize upd H4 l1 (.lst [.ref f18, .ref f19, .ref f20, .ref f21, .ref f22, .ref f23, .ref f24]) = H5 at s5 g5 ⊢
      exact ⟨_, rfl, _, rfl, _, _, rfl, rfl, l1, _, 0, .ref f18, rfl, rfl, SqL.of g5, rfl, f18, _, List.mem_cons_self, rfl, _, rfl, ⟨⟨v, .non, .non, rfl, hv4.same s5, k4 _ s5⟩⟩⟩
    · refine ⟨_, rfl, _, _, rfl, rfl, _, rfl, iteF ?_⟩
      refine ⟨_, rfl, _, _, rfl, rfl, _, rfl, iteF ?_⟩
      refine ⟨_, rfl, _, _, rfl, rfl, _, rfl, iteF ?_⟩
      refine ⟨_, rfl, _, _, rfl, rfl, _, rfl, iteT ?_⟩
      refine ⟨(by show 7 ≤ sizeLine; decide), fun l1 h1 => ?_⟩
      obtain ⟨s5, g5⟩ := new_at (o := .lst [.ref f18, .ref f19, .ref f20, .ref f21, .ref f22, .ref f23, .ref f24]) h1
      simp only [] at s5 g5 ⊢
      generalize upd H4 l1 (.lst [.ref f18, .ref f19, .ref f20, .ref f21, .ref f22, .ref f23, .ref f24]) = H5 at s5 g5 ⊢
      exact ⟨_, rfl, _, rfl, _, _, rfl, rfl, l1, _, 1, .ref f19, rfl, rfl, SqL.of g5, rfl, f19, _, (List.mem_cons_of_mem _ List.mem_cons_self), rfl, _, rfl, ⟨⟨v, .non, .non, rfl, hv4.same s5, k4 _ s5⟩⟩⟩
    · refine ⟨_, rfl, _, _, rfl, rfl, _, rfl, iteF ?_⟩
      refine ⟨_, rfl, _, _, rfl, rfl, _, rfl, iteF ?_⟩
      refine ⟨_, rfl, _, _, rfl, rfl, _, rfl, iteF ?_⟩
      refine ⟨_, rfl, _, _, rfl, rfl, _, rfl, iteT ?_⟩
      refine ⟨(by show 7 ≤ sizeLine; decide), fun l1 h1 => ?_⟩
      obtain ⟨s5, g5⟩ := new_at (o := .lst [.ref f18, .ref f19, .ref f20, .ref f21, .ref f22, .ref f23, .ref f24]) h1
      simp only [] at s5 g5 ⊢
      generalize upd H4 l1 (.lst [.ref f18, .ref f19, .ref f20, .ref f21, .ref f22, .ref f23, .ref f24]) = H5 at s5 g5 ⊢
      exact ⟨_, rfl, _, rfl, _, _, rfl, rfl, l1, _, 2, .ref f20, rfl, rfl, SqL.of g5, rfl, f20, _, (List.mem_cons_of_mem _ (List.mem_cons_of_mem _ List.mem_cons_self)), rfl, _, rfl, ⟨⟨v, .non, .non, rfl, hv4.same s5, k4 _ s5⟩⟩⟩
    · refine ⟨_, rfl, _, _, rfl, rfl, _, rfl, iteF ?_⟩
      refine ⟨_, rfl, _, _, rfl, rfl, _, rfl, iteF ?_⟩
      refine ⟨_, rfl, _, _, rfl, rfl, _, rfl, iteF ?_⟩
      refine ⟨_, rfl, _, _, rfl, rfl, _, rfl, iteT ?_⟩
      refine ⟨(by show 7 ≤ sizeLine; decide), fun l1 h1 => ?_⟩
      obtain ⟨s5, g5⟩ := new_at (o := .lst [.ref f18, .ref f19, .ref f20, .ref f21, .ref f22, .ref f23, .ref f24]) h1
      simp only [] at s5 g5 ⊢
      generalize upd H4 l1 (.lst [.ref f18, .ref f19, .ref f20, .ref f21, .ref f22, .ref f23, .ref f24]) = H5 at s5 g5 ⊢
      exact ⟨_, rfl, _, rfl, _, _, rfl, rfl, l1, _, 3, .ref f21, rfl, rfl, SqL.of g5, rfl, f21, _, (List.mem_cons_of_mem _ (List.mem_cons_of_mem _ (List.mem_cons_of_mem _ List.mem_cons_self))), rfl, _, rfl, ⟨⟨v, .non, .non, rfl, hv4.same s5, k4 _ s5⟩⟩⟩
    · refine ⟨_, rfl, _, _, rfl, rfl, _, rfl, iteF ?_⟩
      refine ⟨_, rfl, _, _, rfl, rfl, _, rfl, iteF ?_⟩
      refine ⟨_, rfl, _, _, rfl, rfl, _, rfl, iteF ?_⟩
      refine ⟨_, rfl, _, _, rfl, rfl, _, rfl, iteT ?_⟩
      refine ⟨(by show 7 ≤ sizeLine; decide), fun l1 h1 => ?_⟩
      obtain ⟨s5, g5⟩ := new_at (o := .lst [.ref f18, .ref f19, .ref f20, .ref f21, .ref f22, .ref f23, .ref f24]) h1
      simp only [] at s5 g5 ⊢
      generalize upd H4 l1 (.lst [.ref f18, .ref f19, .ref f20, .ref f21, .ref f22, .ref f23, .ref f24]) = H5 at s5 g5 ⊢
      exact ⟨_, rfl, _, rfl, _, _, rfl, rfl, l1, _, 4, .ref f22, rfl, rfl, SqL.of g5, rfl, f22, _, (List.mem_cons_of_mem _ (List.mem_cons_of_mem _ (List.mem_cons_of_mem _ (List.mem_cons_of_mem _ List.mem_cons_self)))), rfl, _, rfl, ⟨⟨v, .non, .non, rfl, hv4.same s5, k4 _ s5⟩⟩⟩
    · refine ⟨_, rfl, _, _, rfl, rfl, _, rfl, iteF ?_⟩
      refine ⟨_, rfl, _, _, rfl, rfl, _, rfl, iteF ?_⟩
      refine ⟨_, rfl, _, _, rfl, rfl, _, rfl, iteF ?_⟩
      refine ⟨_, rfl, _, _, rfl, rfl, _, rfl, iteT ?_⟩
      refine ⟨(by show 7 ≤ sizeLine; decide), fun l1 h1 => ?_⟩
      obtain ⟨s5, g5⟩ := new_at (o := .lst [.ref f18, .ref f19, .ref f20, .ref f21, .ref f22, .ref f23, .ref f24]) h1
      simp only [] at s5 g5 ⊢
      generalize upd H4 l1 (.lst [.ref f18, .ref f19, .ref f20, .ref f21, .ref f22, .ref f23, .ref f24]) = H5 at s5 g5 ⊢
      exact ⟨_, rfl, _, rfl, _, _, rfl, rfl, l1, _, 5, .ref f23, rfl, rfl, SqL.of g5, rfl, f23, _, (List.mem_cons_of_mem _ (List.mem_cons_of_mem _ (List.mem_cons_of_mem _ (List.mem_cons_of_mem _ (List.mem_cons_of_mem _ List.mem_cons_self))))), rfl, _, rfl, ⟨⟨v, .non, .non, rfl, hv4.same s5, k4 _ s5⟩⟩⟩
    · refine ⟨_, rfl, _, _, rfl, rfl, _, rfl, iteF ?_⟩
      refine ⟨_, rfl, _, _, rfl, rfl, _, rfl, iteF ?_⟩
      refine ⟨_, rfl, _, _, rfl, rfl, _, rfl, iteF ?_⟩
      refine ⟨_, rfl, _, _, rfl, rfl, _, rfl, iteT ?_⟩
      refine ⟨(by show 7 ≤ sizeLine; decide), fun l1 h1 => ?_⟩
      obtain ⟨s5, g5⟩ := new_at (o := .lst [.ref f18, .ref f19, .ref f20, .ref f21, .ref f22, .ref f23, .ref f24]) h1
      simp only [] at s5 g5 ⊢
      generalize upd H4 l1 (.lst [.ref f18, .ref f19, .ref f20, .ref f21, .ref f22, .ref f23, .ref f24]) = H5 at s5 g5 ⊢
      exact ⟨_, rfl, _, rfl, _, _, rfl, rfl, l1, _, 6, .ref f24, rfl, rfl, SqL.of g5, rfl, f24, _, (List.mem_cons_of_mem _ (List.mem_cons_of_mem _ (List.mem_cons_of_mem _ (List.mem_cons_of_mem _ (List.mem_cons_of_mem _ (List.mem_cons_of_mem _ List.mem_cons_self)))))), rfl, _, rfl, ⟨⟨v, .non, .non, rfl, hv4.same s5, k4 _ s5⟩⟩⟩
    · refine ⟨_, rfl, _, _, rfl, rfl, _, rfl, iteF ?_⟩
      refine ⟨_, rfl, _, _, rfl, rfl, _, rfl, iteF ?_⟩
      refine ⟨_, rfl, _, _, rfl, rfl, _, rfl, iteF ?_⟩
      refine ⟨_, rfl, _, _, rfl, rfl, _, rfl, iteF ?_⟩
      refine ⟨_, rfl, ?_⟩
      intro p dp np ndp nep
      have sp : Same H4 (upd (upd H4 dp (.own p)) p (.ins D dp [])) := fun b o e => by
        rw [upd_ne (ne_of_none e np), upd_ne (ne_of_none e ndp)]
        exact e
      exact ⟨⟨.ref p, v, rfl, hv4.same sp, k4 _ sp⟩⟩
abbrev nLaw : List Str := ["_law_script", "_law_row", "_law_turn", "_law_raised"]
theorem scLaw : FnScope nLaw ["_law_script"] (defScope s_law) := ⟨rfl, rfl, rfl, by decide +kernel, rfl, by decide +kernel, by decide +kernel⟩
theorem ok_law {f fT fO fC C CB : Addr} {fd dT dO dC : FuncData} (F : Fun K "law" "law" s_law f fd) (T : Bt mg) (gB : mg "BadCabinet" = some (.ref CB)) (EX : PySem.W.exmOne K (.ref CB) (.ref CB) = some true)
    (GT : FnOk P w K mg base CX0 1 fT dT ["_law_row", "_law_many"] (spTaken K)) (gT : mg "_law_taken" = some (.ref fT)) (kT : PySem.W.keepIn K (.ref fT) = true) (bT : Binds K dT ["_law_row", "_law_many"] [])
    (GO : FnOk P w K mg base CX0 2 fO dO ["_law_row"] (spOddC K C)) (gO : mg "_law_odd" = some (.ref fO)) (kO : PySem.W.keepIn K (.ref fO) = true) (bO : Binds K dO ["_law_row"] [])
    (GC : FnOk P w K mg base (L2.CX P w) 9 fC dC ["_law_kind", "_law_value"] (spCall02 K C CB)) (gC : mg "_law_call" = some (.ref fC)) (kC : PySem.W.keepIn K (.ref fC) = true) (bC : Binds K dC ["_law_kind", "_law_value"] []) :
    FnOk P w K mg base CX0 20 f fd ["_law_script"] (spLaw02 K) := by
  refine F.ok scLaw (fun vs H Q E h => ?_) (fun cdv A outer s H vs Q E hr h => ?_)
  · obtain ⟨a, ns, rfl, _⟩ := h
    rfl
  · obtain ⟨a, ns, rfl, hS, hlen, k⟩ := h
    refine ⟨_, pss_cons (ps_set (i := 1) scLaw.nd rfl (Or.inl rfl) (pe_lst (pa_cons (pv 0) (pa_cons pe_int (pa_cons pe_int (pa_cons pe_int pa_nil))))))
      (pss_cons (ps_for PassesOwn.never rfl (pi_range1 rfl T.range (pa_cons pe_int pa_nil)) (pg_name (i := 2) scLaw.nd rfl (Or.inl rfl))
        (pss_cons (ps_set (i := 3) scLaw.nd rfl (Or.inl rfl) pe_bl)
        (pss_cons (ps_try_any (tb := fun W => tDrop (tCallS (spCall02 K C CB) (WE W) (tCons (tCall (spTaken K) [] E0 (tCons (tVar 1) (tCons (tC (.int 28)) tNil))) (tCons (tCall (spOddC K C) [] E0 (tCons (tVar 1) tNil)) tNil)))) (l := [(.ref CB, none, fun _ _ _ => tAsg (tC (.bl true)) (gName 3))]) (Wout := fun _ _ _ _ => False) rfl rfl takes0
          (fun W pn xe tk _ => pss_one (ps_expr (by exact (pe_callS GC (hr.mono (by decide)) rfl gC kC bC (fun σ => passAt tk σ) (by exact (pa_cons (pe_call GT (hr.mono (by decide)) rfl gT kT bT .nil pass0 (pa_cons (pv 1) (pa_cons pe_int pa_nil))) (pa_cons (pe_call GO (hr.mono (by decide)) rfl gO kO bO .nil pass0 (pa_cons (pv 1) pa_nil)) pa_nil)))))))
          (.plain ⟨rfl, by decide, Or.inl gB⟩ (fun a oe cls d pn _ _ => pss_one (ps_set (i := 3) scLaw.nd rfl (Or.inl rfl) pe_bl)) .nil))
        (pss_one (ps_if (pt_not (pt_val (pv 3))) (pss_one (ps_ret pe_bl)) pss_nil)))))
      (pss_one (ps_ret pe_bl))), ?_⟩
    refine ⟨_, rfl, (by show 4 ≤ sizeLine; decide), fun r hr0 => ?_⟩
    have R0 : RowOk (upd H r (.lst [.ref a, .int 0, .int 202, .int 0])) r a := ⟨⟨0, 202, 0, upd_same, by decide, by decide, by decide, by decide⟩⟩
    have S0 : SqL K (upd H r (.lst [.ref a, .int 0, .int 202, .int 0])) a (ns.map V.int) := (same_upd hr0).seq hS
    generalize (upd H r (.lst [.ref a, .int 0, .int 202, .int 0])) = H0 at R0 S0 ⊢
    refine ⟨12, rfl, by decide, by decide, ?_⟩
    refine for_range (lo := 0) (n := 12) (fun i σ H' => ∃ v2 v3 : Option V, σ = [some (.ref a), some (.ref r), v2, v3] ∧ RowOk H' r a ∧ But r H0 H')
      ⟨_, _, rfl, R0, But.refl _ _⟩ ?_ ?_
    · rintro i σ H1 hi ⟨v2, v3, rfl, R1, B1⟩
      refine ⟨_, rfl, ⟨⟨r, a, ns, 28, rfl, R1, B1.seqR R0 S0, by decide, by decide, fun kd H2 k0 k28 R2 B2 => ?_⟩⟩⟩
      have B02 := B1.trans B2
      refine ⟨_, rfl, ⟨⟨r, a, ns, rfl, R2, fun H' b => (B02.trans b).seqR R0 S0, fun x H3 R3 B3 hx => ?_⟩⟩⟩
      have B03 := B02.trans B3
      refine ⟨⟨kd, x, rfl, k0, k28, hx H3 (Same.refl H3), fun H4 s4 => ?_⟩⟩
      refine ⟨true, EX, fun _ a' na => ?_, fun z => by cases z⟩
      refine ⟨_, rfl, _, rfl, iteF ?_⟩
      exact ⟨_, _, rfl, R3.same s4, B03.trans (sbut s4)⟩
    · rintro σ H' ⟨v2, v3, rfl, _, _⟩
      exact k H'
end
end DL

set_option Elab.async false
set_option maxRecDepth 100000
set_option maxHeartbeats 8000000
namespace DL
open PySem L2 HT TL
/-! ### what the top has written -/
theorem all_mk {l : PySem.W.OpenLaw} {w : World} {K : PySem.W.Frag} {h : Heap} {mg : Str → Option Value} {fa : Addr} (X : K.In h) (G : h.Ns mainGlobals mg) (hfa : mg "law" = some (.ref fa))
    {f_is_integer : Addr} {od_is_integer an_is_integer : Option Addr} {sl_is_integer : Array (Option Value)} {oc_is_integer kV_is_integer dc_is_integer pm_is_integer cd_is_integer ct_is_integer : Value}
    {f_is_drawer_count : Addr} {od_is_drawer_count an_is_drawer_count : Option Addr} {sl_is_drawer_count : Array (Option Value)} {oc_is_drawer_count kV_is_drawer_count dc_is_drawer_count pm_is_drawer_count cd_is_drawer_count ct_is_drawer_count : Value}
    {f_is_drawer : Addr} {od_is_drawer an_is_drawer : Option Addr} {sl_is_drawer : Array (Option Value)} {oc_is_drawer kV_is_drawer dc_is_drawer pm_is_drawer cd_is_drawer ct_is_drawer : Value}
    {f_is_bar : Addr} {od_is_bar an_is_bar : Option Addr} {sl_is_bar : Array (Option Value)} {oc_is_bar kV_is_bar dc_is_bar pm_is_bar cd_is_bar ct_is_bar : Value}
    {f_check_drawers : Addr} {od_check_drawers an_check_drawers : Option Addr} {sl_check_drawers : Array (Option Value)} {oc_check_drawers kV_check_drawers dc_check_drawers pm_check_drawers cd_check_drawers ct_check_drawers : Value}
    {f_check_bars : Addr} {od_check_bars an_check_bars : Option Addr} {sl_check_bars : Array (Option Value)} {oc_check_bars kV_check_bars dc_check_bars pm_check_bars cd_check_bars ct_check_bars : Value}
    {f__law_taken : Addr} {od__law_taken an__law_taken : Option Addr} {sl__law_taken : Array (Option Value)} {oc__law_taken kV__law_taken dc__law_taken pm__law_taken cd__law_taken ct__law_taken : Value}
    {f_check_cabinet : Addr} {od_check_cabinet an_check_cabinet : Option Addr} {sl_check_cabinet : Array (Option Value)} {oc_check_cabinet kV_check_cabinet dc_check_cabinet pm_check_cabinet cd_check_cabinet ct_check_cabinet : Value}
    {f_can : Addr} {od_can an_can : Option Addr} {sl_can : Array (Option Value)} {oc_can kV_can dc_can pm_can cd_can ct_can : Value}
    {f_barring : Addr} {od_barring an_barring : Option Addr} {sl_barring : Array (Option Value)} {oc_barring kV_barring dc_barring pm_barring cd_barring ct_barring : Value}
    {f_behind : Addr} {od_behind an_behind : Option Addr} {sl_behind : Array (Option Value)} {oc_behind kV_behind dc_behind pm_behind cd_behind ct_behind : Value}
    {f_right_row : Addr} {od_right_row an_right_row : Option Addr} {sl_right_row : Array (Option Value)} {oc_right_row kV_right_row dc_right_row pm_right_row cd_right_row ct_right_row : Value}
    {f_row_to : Addr} {od_row_to an_row_to : Option Addr} {sl_row_to : Array (Option Value)} {oc_row_to kV_row_to dc_row_to pm_row_to cd_row_to ct_row_to : Value}
    {f_row_between : Addr} {od_row_between an_row_between : Option Addr} {sl_row_between : Array (Option Value)} {oc_row_between kV_row_between dc_row_between pm_row_between cd_row_between ct_row_between : Value}
    {f_reached : Addr} {od_reached an_reached : Option Addr} {sl_reached : Array (Option Value)} {oc_reached kV_reached dc_reached pm_reached cd_reached ct_reached : Value}
    {f_farthest : Addr} {od_farthest an_farthest : Option Addr} {sl_farthest : Array (Option Value)} {oc_farthest kV_farthest dc_farthest pm_farthest cd_farthest ct_farthest : Value}
    {f_open_together : Addr} {od_open_together an_open_together : Option Addr} {sl_open_together : Array (Option Value)} {oc_open_together kV_open_together dc_open_together pm_open_together cd_open_together ct_open_together : Value}
    {f_never_together : Addr} {od_never_together an_never_together : Option Addr} {sl_never_together : Array (Option Value)} {oc_never_together kV_never_together dc_never_together pm_never_together cd_never_together ct_never_together : Value}
    {f_most_open : Addr} {od_most_open an_most_open : Option Addr} {sl_most_open : Array (Option Value)} {oc_most_open kV_most_open dc_most_open pm_most_open cd_most_open ct_most_open : Value}
    {f_first_apart : Addr} {od_first_apart an_first_apart : Option Addr} {sl_first_apart : Array (Option Value)} {oc_first_apart kV_first_apart dc_first_apart pm_first_apart cd_first_apart ct_first_apart : Value}
    {f_alike : Addr} {od_alike an_alike : Option Addr} {sl_alike : Array (Option Value)} {oc_alike kV_alike dc_alike pm_alike cd_alike ct_alike : Value}
    {f_needless : Addr} {od_needless an_needless : Option Addr} {sl_needless : Array (Option Value)} {oc_needless kV_needless dc_needless pm_needless cd_needless ct_needless : Value}
    {f__law_odd : Addr} {od__law_odd an__law_odd : Option Addr} {sl__law_odd : Array (Option Value)} {oc__law_odd kV__law_odd dc__law_odd pm__law_odd cd__law_odd ct__law_odd : Value}
    {f_fewest_bars : Addr} {od_fewest_bars an_fewest_bars : Option Addr} {sl_fewest_bars : Array (Option Value)} {oc_fewest_bars kV_fewest_bars dc_fewest_bars pm_fewest_bars cd_fewest_bars ct_fewest_bars : Value}
    {f_dead_end : Addr} {od_dead_end an_dead_end : Option Addr} {sl_dead_end : Array (Option Value)} {oc_dead_end kV_dead_end dc_dead_end pm_dead_end cd_dead_end ct_dead_end : Value}
    {f_never_opened : Addr} {od_never_opened an_never_opened : Option Addr} {sl_never_opened : Array (Option Value)} {oc_never_opened kV_never_opened dc_never_opened pm_never_opened cd_never_opened ct_never_opened : Value}
    {f_no_return : Addr} {od_no_return an_no_return : Option Addr} {sl_no_return : Array (Option Value)} {oc_no_return kV_no_return dc_no_return pm_no_return cd_no_return ct_no_return : Value}
    {f_write : Addr} {od_write an_write : Option Addr} {sl_write : Array (Option Value)} {oc_write kV_write dc_write pm_write cd_write ct_write : Value}
    {f_count_rows : Addr} {od_count_rows an_count_rows : Option Addr} {sl_count_rows : Array (Option Value)} {oc_count_rows kV_count_rows dc_count_rows pm_count_rows cd_count_rows ct_count_rows : Value}
    {f_frozen : Addr} {od_frozen an_frozen : Option Addr} {sl_frozen : Array (Option Value)} {oc_frozen kV_frozen dc_frozen pm_frozen cd_frozen ct_frozen : Value}
    {f_paper : Addr} {od_paper an_paper : Option Addr} {sl_paper : Array (Option Value)} {oc_paper kV_paper dc_paper pm_paper cd_paper ct_paper : Value}
    {f_count_to : Addr} {od_count_to an_count_to : Option Addr} {sl_count_to : Array (Option Value)} {oc_count_to kV_count_to dc_count_to pm_count_to cd_count_to ct_count_to : Value}
    {f_guards : Addr} {od_guards an_guards : Option Addr} {sl_guards : Array (Option Value)} {oc_guards kV_guards dc_guards pm_guards cd_guards ct_guards : Value}
    {f_right_paper : Addr} {od_right_paper an_right_paper : Option Addr} {sl_right_paper : Array (Option Value)} {oc_right_paper kV_right_paper dc_right_paper pm_right_paper cd_right_paper ct_right_paper : Value}
    {f__law_call : Addr} {od__law_call an__law_call : Option Addr} {sl__law_call : Array (Option Value)} {oc__law_call kV__law_call dc__law_call pm__law_call cd__law_call ct__law_call : Value}
    {f_law : Addr} {od_law an_law : Option Addr} {sl_law : Array (Option Value)} {oc_law kV_law dc_law pm_law cd_law ct_law : Value}
    {C : Addr}
    {f_Cabinet___init__ : Addr} {od_Cabinet___init__ an_Cabinet___init__ : Option Addr} {sl_Cabinet___init__ : Array (Option Value)} {oc_Cabinet___init__ kV_Cabinet___init__ dc_Cabinet___init__ pm_Cabinet___init__ cd_Cabinet___init__ ct_Cabinet___init__ : Value}
    {f_Desk___init__ : Addr} {od_Desk___init__ an_Desk___init__ : Option Addr} {sl_Desk___init__ : Array (Option Value)} {oc_Desk___init__ kV_Desk___init__ dc_Desk___init__ pm_Desk___init__ cd_Desk___init__ ct_Desk___init__ : Value}
    {tM : Tok}
    {fW : Addr}
    {ddW : Option Addr} {tW1 tW2 : Tok} {nW : Nat} {slW : Array (Option Value)}
    {CCb : Addr}
    {CDk : Addr}
    (aDk : PySem.W.nsIn K mainGlobals "Desk" = some (some (.ref CDk)))
    (a_Desk___init__ : PySem.W.findIn K (.ref CDk) "__init__" = some (some (.ref f_Desk___init__)))
    (a_is_integer : PySem.W.nsIn K mainGlobals "is_integer" = some (some (.ref f_is_integer)))
    (l_is_integer : K.lookup f_is_integer = some ⟨oc_is_integer, od_is_integer, .func (PySem.W.fnOf "is_integer" "is_integer" (defArgs sIsInt) (defBody sIsInt) (defScope sIsInt) .none kV_is_integer dc_is_integer pm_is_integer an_is_integer cd_is_integer ct_is_integer), sl_is_integer⟩)
    (c_is_integer : PySem.W.codeIn K cd_is_integer "is_integer" = true)
    (k_is_integer : PySem.W.keepIn K (.ref f_is_integer) = true)
    (a_is_drawer_count : PySem.W.nsIn K mainGlobals "is_drawer_count" = some (some (.ref f_is_drawer_count)))
    (l_is_drawer_count : K.lookup f_is_drawer_count = some ⟨oc_is_drawer_count, od_is_drawer_count, .func (PySem.W.fnOf "is_drawer_count" "is_drawer_count" (defArgs sIsCount) (defBody sIsCount) (defScope sIsCount) .none kV_is_drawer_count dc_is_drawer_count pm_is_drawer_count an_is_drawer_count cd_is_drawer_count ct_is_drawer_count), sl_is_drawer_count⟩)
    (c_is_drawer_count : PySem.W.codeIn K cd_is_drawer_count "is_drawer_count" = true)
    (k_is_drawer_count : PySem.W.keepIn K (.ref f_is_drawer_count) = true)
    (a_is_drawer : PySem.W.nsIn K mainGlobals "is_drawer" = some (some (.ref f_is_drawer)))
    (l_is_drawer : K.lookup f_is_drawer = some ⟨oc_is_drawer, od_is_drawer, .func (PySem.W.fnOf "is_drawer" "is_drawer" (defArgs sIsDrawer) (defBody sIsDrawer) (defScope sIsDrawer) .none kV_is_drawer dc_is_drawer pm_is_drawer an_is_drawer cd_is_drawer ct_is_drawer), sl_is_drawer⟩)
    (c_is_drawer : PySem.W.codeIn K cd_is_drawer "is_drawer" = true)
    (k_is_drawer : PySem.W.keepIn K (.ref f_is_drawer) = true)
    (a_is_bar : PySem.W.nsIn K mainGlobals "is_bar" = some (some (.ref f_is_bar)))
    (l_is_bar : K.lookup f_is_bar = some ⟨oc_is_bar, od_is_bar, .func (PySem.W.fnOf "is_bar" "is_bar" (defArgs sIsBar) (defBody sIsBar) (defScope sIsBar) .none kV_is_bar dc_is_bar pm_is_bar an_is_bar cd_is_bar ct_is_bar), sl_is_bar⟩)
    (c_is_bar : PySem.W.codeIn K cd_is_bar "is_bar" = true)
    (k_is_bar : PySem.W.keepIn K (.ref f_is_bar) = true)
    (a_check_drawers : PySem.W.nsIn K mainGlobals "check_drawers" = some (some (.ref f_check_drawers)))
    (l_check_drawers : K.lookup f_check_drawers = some ⟨oc_check_drawers, od_check_drawers, .func (PySem.W.fnOf "check_drawers" "check_drawers" (defArgs sCheckDrawers) (defBody sCheckDrawers) (defScope sCheckDrawers) .none kV_check_drawers dc_check_drawers pm_check_drawers an_check_drawers cd_check_drawers ct_check_drawers), sl_check_drawers⟩)
    (c_check_drawers : PySem.W.codeIn K cd_check_drawers "check_drawers" = true)
    (k_check_drawers : PySem.W.keepIn K (.ref f_check_drawers) = true)
    (a_check_bars : PySem.W.nsIn K mainGlobals "check_bars" = some (some (.ref f_check_bars)))
    (l_check_bars : K.lookup f_check_bars = some ⟨oc_check_bars, od_check_bars, .func (PySem.W.fnOf "check_bars" "check_bars" (defArgs sCheckBars) (defBody sCheckBars) (defScope sCheckBars) .none kV_check_bars dc_check_bars pm_check_bars an_check_bars cd_check_bars ct_check_bars), sl_check_bars⟩)
    (c_check_bars : PySem.W.codeIn K cd_check_bars "check_bars" = true)
    (k_check_bars : PySem.W.keepIn K (.ref f_check_bars) = true)
    (a__law_taken : PySem.W.nsIn K mainGlobals "_law_taken" = some (some (.ref f__law_taken)))
    (l__law_taken : K.lookup f__law_taken = some ⟨oc__law_taken, od__law_taken, .func (PySem.W.fnOf "_law_taken" "_law_taken" (defArgs sTaken) (defBody sTaken) (defScope sTaken) .none kV__law_taken dc__law_taken pm__law_taken an__law_taken cd__law_taken ct__law_taken), sl__law_taken⟩)
    (c__law_taken : PySem.W.codeIn K cd__law_taken "_law_taken" = true)
    (k__law_taken : PySem.W.keepIn K (.ref f__law_taken) = true)
    (a_check_cabinet : PySem.W.nsIn K mainGlobals "check_cabinet" = some (some (.ref f_check_cabinet)))
    (l_check_cabinet : K.lookup f_check_cabinet = some ⟨oc_check_cabinet, od_check_cabinet, .func (PySem.W.fnOf "check_cabinet" "check_cabinet" (defArgs s_check_cabinet) (defBody s_check_cabinet) (defScope s_check_cabinet) .none kV_check_cabinet dc_check_cabinet pm_check_cabinet an_check_cabinet cd_check_cabinet ct_check_cabinet), sl_check_cabinet⟩)
    (c_check_cabinet : PySem.W.codeIn K cd_check_cabinet "check_cabinet" = true)
    (k_check_cabinet : PySem.W.keepIn K (.ref f_check_cabinet) = true)
    (a_can : PySem.W.nsIn K mainGlobals "can" = some (some (.ref f_can)))
    (l_can : K.lookup f_can = some ⟨oc_can, od_can, .func (PySem.W.fnOf "can" "can" (defArgs s_can) (defBody s_can) (defScope s_can) .none kV_can dc_can pm_can an_can cd_can ct_can), sl_can⟩)
    (c_can : PySem.W.codeIn K cd_can "can" = true)
    (k_can : PySem.W.keepIn K (.ref f_can) = true)
    (a_barring : PySem.W.nsIn K mainGlobals "barring" = some (some (.ref f_barring)))
    (l_barring : K.lookup f_barring = some ⟨oc_barring, od_barring, .func (PySem.W.fnOf "barring" "barring" (defArgs s_barring) (defBody s_barring) (defScope s_barring) .none kV_barring dc_barring pm_barring an_barring cd_barring ct_barring), sl_barring⟩)
    (c_barring : PySem.W.codeIn K cd_barring "barring" = true)
    (k_barring : PySem.W.keepIn K (.ref f_barring) = true)
    (a_behind : PySem.W.nsIn K mainGlobals "behind" = some (some (.ref f_behind)))
    (l_behind : K.lookup f_behind = some ⟨oc_behind, od_behind, .func (PySem.W.fnOf "behind" "behind" (defArgs s_behind) (defBody s_behind) (defScope s_behind) .none kV_behind dc_behind pm_behind an_behind cd_behind ct_behind), sl_behind⟩)
    (c_behind : PySem.W.codeIn K cd_behind "behind" = true)
    (k_behind : PySem.W.keepIn K (.ref f_behind) = true)
    (a_right_row : PySem.W.nsIn K mainGlobals "right_row" = some (some (.ref f_right_row)))
    (l_right_row : K.lookup f_right_row = some ⟨oc_right_row, od_right_row, .func (PySem.W.fnOf "right_row" "right_row" (defArgs s_right_row) (defBody s_right_row) (defScope s_right_row) .none kV_right_row dc_right_row pm_right_row an_right_row cd_right_row ct_right_row), sl_right_row⟩)
    (c_right_row : PySem.W.codeIn K cd_right_row "right_row" = true)
    (k_right_row : PySem.W.keepIn K (.ref f_right_row) = true)
    (a_row_to : PySem.W.nsIn K mainGlobals "row_to" = some (some (.ref f_row_to)))
    (l_row_to : K.lookup f_row_to = some ⟨oc_row_to, od_row_to, .func (PySem.W.fnOf "row_to" "row_to" (defArgs s_row_to) (defBody s_row_to) (defScope s_row_to) .none kV_row_to dc_row_to pm_row_to an_row_to cd_row_to ct_row_to), sl_row_to⟩)
    (c_row_to : PySem.W.codeIn K cd_row_to "row_to" = true)
    (k_row_to : PySem.W.keepIn K (.ref f_row_to) = true)
    (a_row_between : PySem.W.nsIn K mainGlobals "row_between" = some (some (.ref f_row_between)))
    (l_row_between : K.lookup f_row_between = some ⟨oc_row_between, od_row_between, .func (PySem.W.fnOf "row_between" "row_between" (defArgs s_row_between) (defBody s_row_between) (defScope s_row_between) .none kV_row_between dc_row_between pm_row_between an_row_between cd_row_between ct_row_between), sl_row_between⟩)
    (c_row_between : PySem.W.codeIn K cd_row_between "row_between" = true)
    (k_row_between : PySem.W.keepIn K (.ref f_row_between) = true)
    (a_reached : PySem.W.nsIn K mainGlobals "reached" = some (some (.ref f_reached)))
    (l_reached : K.lookup f_reached = some ⟨oc_reached, od_reached, .func (PySem.W.fnOf "reached" "reached" (defArgs s_reached) (defBody s_reached) (defScope s_reached) .none kV_reached dc_reached pm_reached an_reached cd_reached ct_reached), sl_reached⟩)
    (c_reached : PySem.W.codeIn K cd_reached "reached" = true)
    (k_reached : PySem.W.keepIn K (.ref f_reached) = true)
    (a_farthest : PySem.W.nsIn K mainGlobals "farthest" = some (some (.ref f_farthest)))
    (l_farthest : K.lookup f_farthest = some ⟨oc_farthest, od_farthest, .func (PySem.W.fnOf "farthest" "farthest" (defArgs s_farthest) (defBody s_farthest) (defScope s_farthest) .none kV_farthest dc_farthest pm_farthest an_farthest cd_farthest ct_farthest), sl_farthest⟩)
    (c_farthest : PySem.W.codeIn K cd_farthest "farthest" = true)
    (k_farthest : PySem.W.keepIn K (.ref f_farthest) = true)
    (a_open_together : PySem.W.nsIn K mainGlobals "open_together" = some (some (.ref f_open_together)))
    (l_open_together : K.lookup f_open_together = some ⟨oc_open_together, od_open_together, .func (PySem.W.fnOf "open_together" "open_together" (defArgs s_open_together) (defBody s_open_together) (defScope s_open_together) .none kV_open_together dc_open_together pm_open_together an_open_together cd_open_together ct_open_together), sl_open_together⟩)
    (c_open_together : PySem.W.codeIn K cd_open_together "open_together" = true)
    (k_open_together : PySem.W.keepIn K (.ref f_open_together) = true)
    (a_never_together : PySem.W.nsIn K mainGlobals "never_together" = some (some (.ref f_never_together)))
    (l_never_together : K.lookup f_never_together = some ⟨oc_never_together, od_never_together, .func (PySem.W.fnOf "never_together" "never_together" (defArgs s_never_together) (defBody s_never_together) (defScope s_never_together) .none kV_never_together dc_never_together pm_never_together an_never_together cd_never_together ct_never_together), sl_never_together⟩)
    (c_never_together : PySem.W.codeIn K cd_never_together "never_together" = true)
    (k_never_together : PySem.W.keepIn K (.ref f_never_together) = true)
    (a_most_open : PySem.W.nsIn K mainGlobals "most_open" = some (some (.ref f_most_open)))
    (l_most_open : K.lookup f_most_open = some ⟨oc_most_open, od_most_open, .func (PySem.W.fnOf "most_open" "most_open" (defArgs s_most_open) (defBody s_most_open) (defScope s_most_open) .none kV_most_open dc_most_open pm_most_open an_most_open cd_most_open ct_most_open), sl_most_open⟩)
    (c_most_open : PySem.W.codeIn K cd_most_open "most_open" = true)
    (k_most_open : PySem.W.keepIn K (.ref f_most_open) = true)
    (a_first_apart : PySem.W.nsIn K mainGlobals "first_apart" = some (some (.ref f_first_apart)))
    (l_first_apart : K.lookup f_first_apart = some ⟨oc_first_apart, od_first_apart, .func (PySem.W.fnOf "first_apart" "first_apart" (defArgs s_first_apart) (defBody s_first_apart) (defScope s_first_apart) .none kV_first_apart dc_first_apart pm_first_apart an_first_apart cd_first_apart ct_first_apart), sl_first_apart⟩)
    (c_first_apart : PySem.W.codeIn K cd_first_apart "first_apart" = true)
    (k_first_apart : PySem.W.keepIn K (.ref f_first_apart) = true)
    (a_alike : PySem.W.nsIn K mainGlobals "alike" = some (some (.ref f_alike)))
    (l_alike : K.lookup f_alike = some ⟨oc_alike, od_alike, .func (PySem.W.fnOf "alike" "alike" (defArgs s_alike) (defBody s_alike) (defScope s_alike) .none kV_alike dc_alike pm_alike an_alike cd_alike ct_alike), sl_alike⟩)
    (c_alike : PySem.W.codeIn K cd_alike "alike" = true)
    (k_alike : PySem.W.keepIn K (.ref f_alike) = true)
    (a_needless : PySem.W.nsIn K mainGlobals "needless" = some (some (.ref f_needless)))
    (l_needless : K.lookup f_needless = some ⟨oc_needless, od_needless, .func (PySem.W.fnOf "needless" "needless" (defArgs s_needless) (defBody s_needless) (defScope s_needless) .none kV_needless dc_needless pm_needless an_needless cd_needless ct_needless), sl_needless⟩)
    (c_needless : PySem.W.codeIn K cd_needless "needless" = true)
    (k_needless : PySem.W.keepIn K (.ref f_needless) = true)
    (a__law_odd : PySem.W.nsIn K mainGlobals "_law_odd" = some (some (.ref f__law_odd)))
    (l__law_odd : K.lookup f__law_odd = some ⟨oc__law_odd, od__law_odd, .func (PySem.W.fnOf "_law_odd" "_law_odd" (defArgs s__law_odd) (defBody s__law_odd) (defScope s__law_odd) .none kV__law_odd dc__law_odd pm__law_odd an__law_odd cd__law_odd ct__law_odd), sl__law_odd⟩)
    (c__law_odd : PySem.W.codeIn K cd__law_odd "_law_odd" = true)
    (k__law_odd : PySem.W.keepIn K (.ref f__law_odd) = true)
    (a_fewest_bars : PySem.W.nsIn K mainGlobals "fewest_bars" = some (some (.ref f_fewest_bars)))
    (l_fewest_bars : K.lookup f_fewest_bars = some ⟨oc_fewest_bars, od_fewest_bars, .func (PySem.W.fnOf "fewest_bars" "fewest_bars" (defArgs s_fewest_bars) (defBody s_fewest_bars) (defScope s_fewest_bars) .none kV_fewest_bars dc_fewest_bars pm_fewest_bars an_fewest_bars cd_fewest_bars ct_fewest_bars), sl_fewest_bars⟩)
    (c_fewest_bars : PySem.W.codeIn K cd_fewest_bars "fewest_bars" = true)
    (k_fewest_bars : PySem.W.keepIn K (.ref f_fewest_bars) = true)
    (a_dead_end : PySem.W.nsIn K mainGlobals "dead_end" = some (some (.ref f_dead_end)))
    (l_dead_end : K.lookup f_dead_end = some ⟨oc_dead_end, od_dead_end, .func (PySem.W.fnOf "dead_end" "dead_end" (defArgs s_dead_end) (defBody s_dead_end) (defScope s_dead_end) .none kV_dead_end dc_dead_end pm_dead_end an_dead_end cd_dead_end ct_dead_end), sl_dead_end⟩)
    (c_dead_end : PySem.W.codeIn K cd_dead_end "dead_end" = true)
    (k_dead_end : PySem.W.keepIn K (.ref f_dead_end) = true)
    (a_never_opened : PySem.W.nsIn K mainGlobals "never_opened" = some (some (.ref f_never_opened)))
    (l_never_opened : K.lookup f_never_opened = some ⟨oc_never_opened, od_never_opened, .func (PySem.W.fnOf "never_opened" "never_opened" (defArgs s_never_opened) (defBody s_never_opened) (defScope s_never_opened) .none kV_never_opened dc_never_opened pm_never_opened an_never_opened cd_never_opened ct_never_opened), sl_never_opened⟩)
    (c_never_opened : PySem.W.codeIn K cd_never_opened "never_opened" = true)
    (k_never_opened : PySem.W.keepIn K (.ref f_never_opened) = true)
    (a_no_return : PySem.W.nsIn K mainGlobals "no_return" = some (some (.ref f_no_return)))
    (l_no_return : K.lookup f_no_return = some ⟨oc_no_return, od_no_return, .func (PySem.W.fnOf "no_return" "no_return" (defArgs s_no_return) (defBody s_no_return) (defScope s_no_return) .none kV_no_return dc_no_return pm_no_return an_no_return cd_no_return ct_no_return), sl_no_return⟩)
    (c_no_return : PySem.W.codeIn K cd_no_return "no_return" = true)
    (k_no_return : PySem.W.keepIn K (.ref f_no_return) = true)
    (a_write : PySem.W.nsIn K mainGlobals "write" = some (some (.ref f_write)))
    (l_write : K.lookup f_write = some ⟨oc_write, od_write, .func (PySem.W.fnOf "write" "write" (defArgs s_write) (defBody s_write) (defScope s_write) .none kV_write dc_write pm_write an_write cd_write ct_write), sl_write⟩)
    (c_write : PySem.W.codeIn K cd_write "write" = true)
    (k_write : PySem.W.keepIn K (.ref f_write) = true)
    (a_count_rows : PySem.W.nsIn K mainGlobals "count_rows" = some (some (.ref f_count_rows)))
    (l_count_rows : K.lookup f_count_rows = some ⟨oc_count_rows, od_count_rows, .func (PySem.W.fnOf "count_rows" "count_rows" (defArgs s_count_rows) (defBody s_count_rows) (defScope s_count_rows) .none kV_count_rows dc_count_rows pm_count_rows an_count_rows cd_count_rows ct_count_rows), sl_count_rows⟩)
    (c_count_rows : PySem.W.codeIn K cd_count_rows "count_rows" = true)
    (k_count_rows : PySem.W.keepIn K (.ref f_count_rows) = true)
    (a_frozen : PySem.W.nsIn K mainGlobals "frozen" = some (some (.ref f_frozen)))
    (l_frozen : K.lookup f_frozen = some ⟨oc_frozen, od_frozen, .func (PySem.W.fnOf "frozen" "frozen" (defArgs s_frozen) (defBody s_frozen) (defScope s_frozen) .none kV_frozen dc_frozen pm_frozen an_frozen cd_frozen ct_frozen), sl_frozen⟩)
    (c_frozen : PySem.W.codeIn K cd_frozen "frozen" = true)
    (k_frozen : PySem.W.keepIn K (.ref f_frozen) = true)
    (a_paper : PySem.W.nsIn K mainGlobals "paper" = some (some (.ref f_paper)))
    (l_paper : K.lookup f_paper = some ⟨oc_paper, od_paper, .func (PySem.W.fnOf "paper" "paper" (defArgs s_paper) (defBody s_paper) (defScope s_paper) .none kV_paper dc_paper pm_paper an_paper cd_paper ct_paper), sl_paper⟩)
    (c_paper : PySem.W.codeIn K cd_paper "paper" = true)
    (k_paper : PySem.W.keepIn K (.ref f_paper) = true)
    (a_count_to : PySem.W.nsIn K mainGlobals "count_to" = some (some (.ref f_count_to)))
    (l_count_to : K.lookup f_count_to = some ⟨oc_count_to, od_count_to, .func (PySem.W.fnOf "count_to" "count_to" (defArgs s_count_to) (defBody s_count_to) (defScope s_count_to) .none kV_count_to dc_count_to pm_count_to an_count_to cd_count_to ct_count_to), sl_count_to⟩)
    (c_count_to : PySem.W.codeIn K cd_count_to "count_to" = true)
    (k_count_to : PySem.W.keepIn K (.ref f_count_to) = true)
    (a_guards : PySem.W.nsIn K mainGlobals "guards" = some (some (.ref f_guards)))
    (l_guards : K.lookup f_guards = some ⟨oc_guards, od_guards, .func (PySem.W.fnOf "guards" "guards" (defArgs s_guards) (defBody s_guards) (defScope s_guards) .none kV_guards dc_guards pm_guards an_guards cd_guards ct_guards), sl_guards⟩)
    (c_guards : PySem.W.codeIn K cd_guards "guards" = true)
    (k_guards : PySem.W.keepIn K (.ref f_guards) = true)
    (a_right_paper : PySem.W.nsIn K mainGlobals "right_paper" = some (some (.ref f_right_paper)))
    (l_right_paper : K.lookup f_right_paper = some ⟨oc_right_paper, od_right_paper, .func (PySem.W.fnOf "right_paper" "right_paper" (defArgs s_right_paper) (defBody s_right_paper) (defScope s_right_paper) .none kV_right_paper dc_right_paper pm_right_paper an_right_paper cd_right_paper ct_right_paper), sl_right_paper⟩)
    (c_right_paper : PySem.W.codeIn K cd_right_paper "right_paper" = true)
    (k_right_paper : PySem.W.keepIn K (.ref f_right_paper) = true)
    (a__law_call : PySem.W.nsIn K mainGlobals "_law_call" = some (some (.ref f__law_call)))
    (l__law_call : K.lookup f__law_call = some ⟨oc__law_call, od__law_call, .func (PySem.W.fnOf "_law_call" "_law_call" (defArgs s__law_call) (defBody s__law_call) (defScope s__law_call) .none kV__law_call dc__law_call pm__law_call an__law_call cd__law_call ct__law_call), sl__law_call⟩)
    (c__law_call : PySem.W.codeIn K cd__law_call "_law_call" = true)
    (k__law_call : PySem.W.keepIn K (.ref f__law_call) = true)
    (a_law : PySem.W.nsIn K mainGlobals "law" = some (some (.ref f_law)))
    (l_law : K.lookup f_law = some ⟨oc_law, od_law, .func (PySem.W.fnOf "law" "law" (defArgs s_law) (defBody s_law) (defScope s_law) .none kV_law dc_law pm_law an_law cd_law ct_law), sl_law⟩)
    (c_law : PySem.W.codeIn K cd_law "law" = true)
    (k_law : PySem.W.keepIn K (.ref f_law) = true)
    (aC : PySem.W.nsIn K mainGlobals "Cabinet" = some (some (.ref C)))
    (pg : PySem.W.plainGet K C Str.empty = true)
    (hd : PySem.W.hasDictIn K C = true)
    (po : PySem.W.plainOver K C = true)
    (sa : PySem.W.findIn K (.ref C) "__setattr__" = some (some (.builtin "object.__setattr__")))
    (mk : PySem.W.makesIn K C = true)
    (kc : PySem.W.keepIn K (.ref C) = true)
    (nD : PySem.W.findIn K (.ref C) "_drawers" = some none)
    (nB : PySem.W.findIn K (.ref C) "_bars" = some none)
    (a_Cabinet___init__ : PySem.W.findIn K (.ref C) "__init__" = some (some (.ref f_Cabinet___init__)))
    (l_Cabinet___init__ : K.lookup f_Cabinet___init__ = some ⟨oc_Cabinet___init__, od_Cabinet___init__, .func (PySem.W.fnOf "__init__" "Cabinet.__init__" (defArgs sInit) (defBody sInit) (defScope sInit) .none kV_Cabinet___init__ dc_Cabinet___init__ pm_Cabinet___init__ an_Cabinet___init__ cd_Cabinet___init__ ct_Cabinet___init__), sl_Cabinet___init__⟩)
    (c_Cabinet___init__ : PySem.W.codeIn K cd_Cabinet___init__ "Cabinet.__init__" = true)
    (k_Cabinet___init__ : PySem.W.keepIn K (.ref f_Cabinet___init__) = true)
    (i_init : PySem.W.isFn K (.ref f_Cabinet___init__) = true)
    (ci1 : PySem.W.findIn K (.ref C) "__class__" = some (some (.builtin "object.__class__")))
    (ci2 : PySem.W.specialIn K (.builtin "object.__class__") "__get__" = some (some (.builtin "getset_descriptor.__get__")))
    (ci3 : PySem.W.takesIn K (.builtin "object.__class__") = some true)
    (ci4 : PySem.W.mroIn K C (.type "object") = some true)
    (ci5 : PySem.W.kitOne K (.ref C) (.ref C) = some true)
    (l_Desk___init__ : K.lookup f_Desk___init__ = some ⟨oc_Desk___init__, od_Desk___init__, .func (PySem.W.fnOf "__init__" "Desk.__init__" (defArgs s_Desk__init_) (defBody s_Desk__init_) (defScope s_Desk__init_) .none kV_Desk___init__ dc_Desk___init__ pm_Desk___init__ an_Desk___init__ cd_Desk___init__ ct_Desk___init__), sl_Desk___init__⟩)
    (c_Desk___init__ : PySem.W.codeIn K cd_Desk___init__ "Desk.__init__" = true)
    (k_Desk___init__ : PySem.W.keepIn K (.ref f_Desk___init__) = true)
    (z_isinstance : PySem.W.nsIn K mainGlobals "isinstance" = some none)
    (z_int : PySem.W.nsIn K mainGlobals "int" = some none)
    (z_bool : PySem.W.nsIn K mainGlobals "bool" = some none)
    (z_tuple : PySem.W.nsIn K mainGlobals "tuple" = some none)
    (z_len : PySem.W.nsIn K mainGlobals "len" = some none)
    (z_enumerate : PySem.W.nsIn K mainGlobals "enumerate" = some none)
    (z_range : PySem.W.nsIn K mainGlobals "range" = some none)
    (z_sorted : PySem.W.nsIn K mainGlobals "sorted" = some none)
    (aM : PySem.W.nsIn K mainGlobals "MOST_DRAWERS" = some (some (.int 7 tM)))
    (aW : PySem.W.nsIn K mainGlobals "WORDS" = some (some (.ref fW)))
    (lW : K.lookup fW = some ⟨.type "tuple", ddW, .seq #[.str "open" tW1, .str "shut" tW2] nW, slW⟩)
    (aCb : PySem.W.nsIn K mainGlobals "BadCabinet" = some (some (.ref CCb)))
    (xCb : PySem.W.excIn K CCb [.type "ValueError", .type "Exception", .type "BaseException", .type "object"] "ValueError.__new__" = true)
    (kCb : PySem.W.keepIn K (.ref CCb) = true)
    (bCb : PySem.W.subIn K (.ref CCb) (.type "BaseException") = some true)
    (tCb : PySem.W.typeIn K (.ref CCb) = some (.type "type"))
    (iCb : PySem.W.isClsIn K CCb = true)
    (sCb : PySem.W.subIn K (.ref CCb) (.ref CCb) = some true)
    (kcN : PySem.W.kitOne K (.type "NoneType") (.ref C) = some false)
    (kcI : PySem.W.kitOne K (.type "int") (.ref C) = some false)
    (kcB : PySem.W.kitOne K (.type "bool") (.ref C) = some false)
    (kcT : PySem.W.kitOne K (.type "tuple") (.ref C) = some false)
    (kcS : PySem.W.kitOne K (.type "str") (.ref C) = some false)
    (kcD : PySem.W.kitOne K (.type "dict") (.ref C) = some false)
    (mkDk : PySem.W.makesIn K CDk = true)
    (kcDk : PySem.W.keepIn K (.ref CDk) = true)
    (i_Deskinit : PySem.W.isFn K (.ref f_Desk___init__) = true)
    : ∃ fd : FuncData, (∀ (s : Shared) (v : Value), BindsTo s fd ⟨[v], []⟩ [("_law_script", v)]) ∧ ∀ base : Heap, K.In base → base.Ns mainGlobals mg → FnOk l.prog w K mg base CX0 20 fa fd ["_law_script"] (spLaw02 K) := by
  have e := hfa.symm.trans (PySem.W.mg_of X G a_law)
  cases e
  have F_is_integer := fun_mk (st := sIsInt) l_is_integer c_is_integer k_is_integer
  have b_is_integer := F_is_integer.binds (ps := ["value"]) fun _ _ _ _ _ _ us hl => match us, hl with | [_], _ => rfl
  have g_is_integer := PySem.W.mg_of X G a_is_integer
  have F_is_drawer_count := fun_mk (st := sIsCount) l_is_drawer_count c_is_drawer_count k_is_drawer_count
  have b_is_drawer_count := F_is_drawer_count.binds (ps := ["value"]) fun _ _ _ _ _ _ us hl => match us, hl with | [_], _ => rfl
  have g_is_drawer_count := PySem.W.mg_of X G a_is_drawer_count
  have F_is_drawer := fun_mk (st := sIsDrawer) l_is_drawer c_is_drawer k_is_drawer
  have b_is_drawer := F_is_drawer.binds (ps := ["drawers", "value"]) fun _ _ _ _ _ _ us hl => match us, hl with | [_, _], _ => rfl
  have g_is_drawer := PySem.W.mg_of X G a_is_drawer
  have F_is_bar := fun_mk (st := sIsBar) l_is_bar c_is_bar k_is_bar
  have b_is_bar := F_is_bar.binds (ps := ["drawers", "value"]) fun _ _ _ _ _ _ us hl => match us, hl with | [_, _], _ => rfl
  have g_is_bar := PySem.W.mg_of X G a_is_bar
  have F_check_drawers := fun_mk (st := sCheckDrawers) l_check_drawers c_check_drawers k_check_drawers
  have b_check_drawers := F_check_drawers.binds (ps := ["drawers"]) fun _ _ _ _ _ _ us hl => match us, hl with | [_], _ => rfl
  have g_check_drawers := PySem.W.mg_of X G a_check_drawers
  have F_check_bars := fun_mk (st := sCheckBars) l_check_bars c_check_bars k_check_bars
  have b_check_bars := F_check_bars.binds (ps := ["drawers", "bars"]) fun _ _ _ _ _ _ us hl => match us, hl with | [_, _], _ => rfl
  have g_check_bars := PySem.W.mg_of X G a_check_bars
  have F__law_taken := fun_mk (st := sTaken) l__law_taken c__law_taken k__law_taken
  have b__law_taken := F__law_taken.binds (ps := ["_law_row", "_law_many"]) fun _ _ _ _ _ _ us hl => match us, hl with | [_, _], _ => rfl
  have g__law_taken := PySem.W.mg_of X G a__law_taken
  have F_check_cabinet := fun_mk (st := s_check_cabinet) l_check_cabinet c_check_cabinet k_check_cabinet
  have b_check_cabinet := F_check_cabinet.binds (ps := ["cabinet"]) fun _ _ _ _ _ _ us hl => match us, hl with | [_], _ => rfl
  have g_check_cabinet := PySem.W.mg_of X G a_check_cabinet
  have F_can := fun_mk (st := s_can) l_can c_can k_can
  have b_can := F_can.binds (ps := ["cabinet", "standing"]) fun _ _ _ _ _ _ us hl => match us, hl with | [_, _], _ => rfl
  have g_can := PySem.W.mg_of X G a_can
  have F_barring := fun_mk (st := s_barring) l_barring c_barring k_barring
  have b_barring := F_barring.binds (ps := ["cabinet", "standing", "drawer"]) fun _ _ _ _ _ _ us hl => match us, hl with | [_, _, _], _ => rfl
  have g_barring := PySem.W.mg_of X G a_barring
  have F_behind := fun_mk (st := s_behind) l_behind c_behind k_behind
  have b_behind := F_behind.binds (ps := ["cabinet", "standing", "drawer"]) fun _ _ _ _ _ _ us hl => match us, hl with | [_, _, _], _ => rfl
  have g_behind := PySem.W.mg_of X G a_behind
  have F_right_row := fun_mk (st := s_right_row) l_right_row c_right_row k_right_row
  have b_right_row := F_right_row.binds (ps := ["cabinet", "pattern", "value"]) fun _ _ _ _ _ _ us hl => match us, hl with | [_, _, _], _ => rfl
  have g_right_row := PySem.W.mg_of X G a_right_row
  have F_row_to := fun_mk (st := s_row_to) l_row_to c_row_to k_row_to
  have b_row_to := F_row_to.binds (ps := ["cabinet", "pattern"]) fun _ _ _ _ _ _ us hl => match us, hl with | [_, _], _ => rfl
  have g_row_to := PySem.W.mg_of X G a_row_to
  have F_row_between := fun_mk (st := s_row_between) l_row_between c_row_between k_row_between
  have b_row_between := F_row_between.binds (ps := ["cabinet", "standing", "pattern"]) fun _ _ _ _ _ _ us hl => match us, hl with | [_, _, _], _ => rfl
  have g_row_between := PySem.W.mg_of X G a_row_between
  have F_reached := fun_mk (st := s_reached) l_reached c_reached k_reached
  have b_reached := F_reached.binds (ps := ["cabinet"]) fun _ _ _ _ _ _ us hl => match us, hl with | [_], _ => rfl
  have g_reached := PySem.W.mg_of X G a_reached
  have F_farthest := fun_mk (st := s_farthest) l_farthest c_farthest k_farthest
  have b_farthest := F_farthest.binds (ps := ["cabinet"]) fun _ _ _ _ _ _ us hl => match us, hl with | [_], _ => rfl
  have g_farthest := PySem.W.mg_of X G a_farthest
  have F_open_together := fun_mk (st := s_open_together) l_open_together c_open_together k_open_together
  have b_open_together := F_open_together.binds (ps := ["cabinet", "some"]) fun _ _ _ _ _ _ us hl => match us, hl with | [_, _], _ => rfl
  have g_open_together := PySem.W.mg_of X G a_open_together
  have F_never_together := fun_mk (st := s_never_together) l_never_together c_never_together k_never_together
  have b_never_together := F_never_together.binds (ps := ["cabinet"]) fun _ _ _ _ _ _ us hl => match us, hl with | [_], _ => rfl
  have g_never_together := PySem.W.mg_of X G a_never_together
  have F_most_open := fun_mk (st := s_most_open) l_most_open c_most_open k_most_open
  have b_most_open := F_most_open.binds (ps := ["cabinet"]) fun _ _ _ _ _ _ us hl => match us, hl with | [_], _ => rfl
  have g_most_open := PySem.W.mg_of X G a_most_open
  have F_first_apart := fun_mk (st := s_first_apart) l_first_apart c_first_apart k_first_apart
  have b_first_apart := F_first_apart.binds (ps := ["one", "other"]) fun _ _ _ _ _ _ us hl => match us, hl with | [_, _], _ => rfl
  have g_first_apart := PySem.W.mg_of X G a_first_apart
  have F_alike := fun_mk (st := s_alike) l_alike c_alike k_alike
  have b_alike := F_alike.binds (ps := ["one", "other"]) fun _ _ _ _ _ _ us hl => match us, hl with | [_, _], _ => rfl
  have g_alike := PySem.W.mg_of X G a_alike
  have F_needless := fun_mk (st := s_needless) l_needless c_needless k_needless
  have b_needless := F_needless.binds (ps := ["cabinet"]) fun _ _ _ _ _ _ us hl => match us, hl with | [_], _ => rfl
  have g_needless := PySem.W.mg_of X G a_needless
  have F__law_odd := fun_mk (st := s__law_odd) l__law_odd c__law_odd k__law_odd
  have b__law_odd := F__law_odd.binds (ps := ["_law_row"]) fun _ _ _ _ _ _ us hl => match us, hl with | [_], _ => rfl
  have g__law_odd := PySem.W.mg_of X G a__law_odd
  have F_fewest_bars := fun_mk (st := s_fewest_bars) l_fewest_bars c_fewest_bars k_fewest_bars
  have b_fewest_bars := F_fewest_bars.binds (ps := ["cabinet"]) fun _ _ _ _ _ _ us hl => match us, hl with | [_], _ => rfl
  have g_fewest_bars := PySem.W.mg_of X G a_fewest_bars
  have F_dead_end := fun_mk (st := s_dead_end) l_dead_end c_dead_end k_dead_end
  have b_dead_end := F_dead_end.binds (ps := ["cabinet"]) fun _ _ _ _ _ _ us hl => match us, hl with | [_], _ => rfl
  have g_dead_end := PySem.W.mg_of X G a_dead_end
  have F_never_opened := fun_mk (st := s_never_opened) l_never_opened c_never_opened k_never_opened
  have b_never_opened := F_never_opened.binds (ps := ["cabinet"]) fun _ _ _ _ _ _ us hl => match us, hl with | [_], _ => rfl
  have g_never_opened := PySem.W.mg_of X G a_never_opened
  have F_no_return := fun_mk (st := s_no_return) l_no_return c_no_return k_no_return
  have b_no_return := F_no_return.binds (ps := ["cabinet"]) fun _ _ _ _ _ _ us hl => match us, hl with | [_], _ => rfl
  have g_no_return := PySem.W.mg_of X G a_no_return
  have F_write := fun_mk (st := s_write) l_write c_write k_write
  have b_write := F_write.binds (ps := ["cabinet"]) fun _ _ _ _ _ _ us hl => match us, hl with | [_], _ => rfl
  have g_write := PySem.W.mg_of X G a_write
  have F_count_rows := fun_mk (st := s_count_rows) l_count_rows c_count_rows k_count_rows
  have b_count_rows := F_count_rows.binds (ps := ["cabinet", "length"]) fun _ _ _ _ _ _ us hl => match us, hl with | [_, _], _ => rfl
  have g_count_rows := PySem.W.mg_of X G a_count_rows
  have F_frozen := fun_mk (st := s_frozen) l_frozen c_frozen k_frozen
  have b_frozen := F_frozen.binds (ps := ["cabinet", "drawer"]) fun _ _ _ _ _ _ us hl => match us, hl with | [_, _], _ => rfl
  have g_frozen := PySem.W.mg_of X G a_frozen
  have F_paper := fun_mk (st := s_paper) l_paper c_paper k_paper
  have b_paper := F_paper.binds (ps := ["cabinet", "some"]) fun _ _ _ _ _ _ us hl => match us, hl with | [_, _], _ => rfl
  have g_paper := PySem.W.mg_of X G a_paper
  have F_count_to := fun_mk (st := s_count_to) l_count_to c_count_to k_count_to
  have b_count_to := F_count_to.binds (ps := ["cabinet", "length", "pattern"]) fun _ _ _ _ _ _ us hl => match us, hl with | [_, _, _], _ => rfl
  have g_count_to := PySem.W.mg_of X G a_count_to
  have F_guards := fun_mk (st := s_guards) l_guards c_guards k_guards
  have b_guards := F_guards.binds (ps := ["cabinet", "pairs", "most"]) fun _ _ _ _ _ _ us hl => match us, hl with | [_, _, _], _ => rfl
  have g_guards := PySem.W.mg_of X G a_guards
  have F_right_paper := fun_mk (st := s_right_paper) l_right_paper c_right_paper k_right_paper
  have b_right_paper := F_right_paper.binds (ps := ["cabinet", "some", "value"]) fun _ _ _ _ _ _ us hl => match us, hl with | [_, _, _], _ => rfl
  have g_right_paper := PySem.W.mg_of X G a_right_paper
  have F__law_call := fun_mk (st := s__law_call) l__law_call c__law_call k__law_call
  have b__law_call := F__law_call.binds (ps := ["_law_kind", "_law_value"]) fun _ _ _ _ _ _ us hl => match us, hl with | [_, _], _ => rfl
  have g__law_call := PySem.W.mg_of X G a__law_call
  have F_law := fun_mk (st := s_law) l_law c_law k_law
  have b_law := F_law.binds (ps := ["_law_script"]) fun _ _ _ _ _ _ us hl => match us, hl with | [_], _ => rfl
  have g_law := PySem.W.mg_of X G a_law
  have F_Cabinet___init__ := fun_mk (st := sInit) l_Cabinet___init__ c_Cabinet___init__ k_Cabinet___init__
  have b_Cabinet___init__ := F_Cabinet___init__.binds (ps := ["self", "drawers", "bars"]) fun _ _ _ _ _ _ us hl => match us, hl with | [_, _, _], _ => rfl
  have TC : CabT K mg C := ⟨⟨pg, hd, po, sa⟩, nD, nB, PySem.W.mg_of X G aC⟩
  have MC : Mk K C f_Cabinet___init__ := ⟨mk, a_Cabinet___init__, i_init, kc⟩
  have IC : CabI K mg C := ⟨⟨pg, hd, po, sa⟩, PySem.W.mg_of X G aC, ci1, ci2, ci3, ci4, ci5⟩
  have F_Desk___init__ := fun_mk (st := s_Desk__init_) l_Desk___init__ c_Desk___init__ k_Desk___init__
  have b_Desk___init__ := F_Desk___init__.binds (ps := ["self", "cabinet"]) fun _ _ _ _ _ _ us hl => match us, hl with | [_, _], _ => rfl
  have TB : Bt mg := ⟨PySem.W.mg_none_of X G z_isinstance, PySem.W.mg_none_of X G z_int, PySem.W.mg_none_of X G z_bool, PySem.W.mg_none_of X G z_tuple, PySem.W.mg_none_of X G z_len, PySem.W.mg_none_of X G z_enumerate, PySem.W.mg_none_of X G z_range, PySem.W.mg_none_of X G z_sorted⟩
  have n_isinstance := PySem.W.mg_none_of X G z_isinstance
  have n_int := PySem.W.mg_none_of X G z_int
  have n_bool := PySem.W.mg_none_of X G z_bool
  have n_tuple := PySem.W.mg_none_of X G z_tuple
  have n_len := PySem.W.mg_none_of X G z_len
  have n_enumerate := PySem.W.mg_none_of X G z_enumerate
  have n_range := PySem.W.mg_none_of X G z_range
  have n_sorted := PySem.W.mg_none_of X G z_sorted
  have gM := PySem.W.mg_of X G aM
  have gW := PySem.W.mg_of X G aW
  have hW : ∀ H, SqT K H fW [.str "open", .str "shut"] := fun H => .inr ⟨_, _, _, lW, rfl, rfl, by show 2 ≤ sizeLine; decide, .cons ⟨_, rfl⟩ (.cons ⟨_, rfl⟩ .nil)⟩
  have ETCb : ErrT K mg "BadCabinet" CCb := ⟨PySem.W.mg_of X G aCb, xCb, kCb, bCb, tCb⟩
  have EXCb := exm_of bCb iCb tCb sCb
  have MD : Mk K CDk f_Desk___init__ := ⟨mkDk, a_Desk___init__, i_Deskinit, kcDk⟩
  refine ⟨PySem.W.fnOf "law" "law" (defArgs s_law) (defBody s_law) (defScope s_law) .none kV_law dc_law pm_law an_law cd_law ct_law, fun s v => .of_eq rfl, fun base hKX hGX => ?_⟩
  have O__law_taken := ok_taken (P := l.prog) (w := w) (base := base) F__law_taken TB
  have O__law_odd := ok_oddC F__law_odd TB ⟨kcN, kcI, kcB, kcT, kcS, kcD⟩ O__law_taken g__law_taken k__law_taken b__law_taken
  have O_check_cabinet := ok_ckC (P := l.prog) (w := w) (base := base) F_check_cabinet TB IC ETCb
  have O_fewest_bars := ok_fewest_bars_N F_fewest_bars O_check_cabinet g_check_cabinet k_check_cabinet b_check_cabinet
  have O_needless := ok_needless_N F_needless O_check_cabinet g_check_cabinet k_check_cabinet b_check_cabinet
  have O_farthest := ok_farthest_N F_farthest O_check_cabinet g_check_cabinet k_check_cabinet b_check_cabinet
  have O_reached := ok_reached_N F_reached O_check_cabinet g_check_cabinet k_check_cabinet b_check_cabinet
  have O_dead_end := ok_dead_end_N F_dead_end O_check_cabinet g_check_cabinet k_check_cabinet b_check_cabinet
  have O_never_opened := ok_never_opened_N F_never_opened O_check_cabinet g_check_cabinet k_check_cabinet b_check_cabinet
  have O_no_return := ok_no_return_N F_no_return O_check_cabinet g_check_cabinet k_check_cabinet b_check_cabinet
  have O_write := ok_write_N F_write O_check_cabinet g_check_cabinet k_check_cabinet b_check_cabinet
  have O_most_open := ok_most_open_N F_most_open O_check_cabinet g_check_cabinet k_check_cabinet b_check_cabinet
  have O_never_together := ok_never_together_N F_never_together O_check_cabinet g_check_cabinet k_check_cabinet b_check_cabinet
  have O_can := ok_can_N F_can O_check_cabinet g_check_cabinet k_check_cabinet b_check_cabinet
  have O_count_rows := ok_count_rows_N F_count_rows O_check_cabinet g_check_cabinet k_check_cabinet b_check_cabinet
  have O_first_apart := ok_first_apart_N F_first_apart O_check_cabinet g_check_cabinet k_check_cabinet b_check_cabinet
  have O_alike := ok_alike_N F_alike O_first_apart g_first_apart k_first_apart b_first_apart
  have O_row_to := ok_row_to_N F_row_to O_check_cabinet g_check_cabinet k_check_cabinet b_check_cabinet
  have O_frozen := ok_frozen_N F_frozen O_check_cabinet g_check_cabinet k_check_cabinet b_check_cabinet
  have O_open_together := ok_open_together_N F_open_together O_check_cabinet g_check_cabinet k_check_cabinet b_check_cabinet
  have O_paper := ok_paper_N F_paper O_check_cabinet g_check_cabinet k_check_cabinet b_check_cabinet
  have O_barring := ok_barring_N F_barring O_check_cabinet g_check_cabinet k_check_cabinet b_check_cabinet
  have O_behind := ok_behind_N F_behind O_check_cabinet g_check_cabinet k_check_cabinet b_check_cabinet
  have O_count_to := ok_count_to_N F_count_to O_check_cabinet g_check_cabinet k_check_cabinet b_check_cabinet
  have O_guards := ok_guards_N F_guards O_check_cabinet g_check_cabinet k_check_cabinet b_check_cabinet
  have O_right_row := ok_right_row_N F_right_row O_check_cabinet g_check_cabinet k_check_cabinet b_check_cabinet
  have O_row_between := ok_row_between_N F_row_between O_check_cabinet g_check_cabinet k_check_cabinet b_check_cabinet
  have O_right_paper := ok_right_paper_N F_right_paper O_check_cabinet g_check_cabinet k_check_cabinet b_check_cabinet
  have O_is_integer := ok_isInt (P := l.prog) (w := w) (base := base) F_is_integer TB
  have O_is_drawer_count := ok_isCount F_is_drawer_count TB O_is_integer g_is_integer k_is_integer b_is_integer ⟨_, gM⟩
  have O_check_drawers := ok_checkDrawers F_check_drawers O_is_drawer_count g_is_drawer_count k_is_drawer_count b_is_drawer_count
  have O_is_drawer := ok_isDrawer F_is_drawer TB O_is_integer g_is_integer k_is_integer b_is_integer
  have O_is_bar := ok_isBar F_is_bar TB O_is_drawer g_is_drawer k_is_drawer b_is_drawer ⟨fW, gW, hW⟩
  have O_check_bars := ok_checkBars F_check_bars TB O_is_bar g_is_bar k_is_bar b_is_bar
  have O_Cabinet___init__ := ok_init F_Cabinet___init__ TC O_check_drawers g_check_drawers k_check_drawers b_check_drawers O_check_bars g_check_bars k_check_bars b_check_bars
  have O_Desk___init__ := ok_deskN F_Desk___init__ O_check_cabinet g_check_cabinet k_check_cabinet b_check_cabinet
  have O__law_call := ok_call02 F__law_call TC MC O_Cabinet___init__ b_Cabinet___init__ (PySem.W.mg_of X G aDk) MD O_Desk___init__ b_Desk___init__ O_fewest_bars g_fewest_bars k_fewest_bars b_fewest_bars O_needless g_needless k_needless b_needless O_farthest g_farthest k_farthest b_farthest O_reached g_reached k_reached b_reached O_dead_end g_dead_end k_dead_end b_dead_end O_never_opened g_never_opened k_never_opened b_never_opened O_no_return g_no_return k_no_return b_no_return O_write g_write k_write b_write O_most_open g_most_open k_most_open b_most_open O_never_together g_never_together k_never_together b_never_together O_can g_can k_can b_can O_count_rows g_count_rows k_count_rows b_count_rows O_alike g_alike k_alike b_alike O_first_apart g_first_apart k_first_apart b_first_apart O_row_to g_row_to k_row_to b_row_to O_frozen g_frozen k_frozen b_frozen O_open_together g_open_together k_open_together b_open_together O_paper g_paper k_paper b_paper O_barring g_barring k_barring b_barring O_behind g_behind k_behind b_behind O_count_to g_count_to k_count_to b_count_to O_guards g_guards k_guards b_guards O_right_row g_right_row k_right_row b_right_row O_row_between g_row_between k_row_between b_row_between O_right_paper g_right_paper k_right_paper b_right_paper
  exact ok_law F_law TB ETCb.g EXCb O__law_taken g__law_taken k__law_taken b__law_taken O__law_odd g__law_odd k__law_odd b__law_odd O__law_call g__law_call k__law_call b__law_call
theorem walk {l : PySem.W.OpenLaw} {q : Program} {loose : List Str} {XP : (Str → Option Value) → Heap → Prop} {YP : World → Heap → Prop} {d : DefRec} {K : Params → PySem.W.Frag} (hn : l.most = some 63) (hdf : d.params.defaults = [])
    (hY : ∀ (w : World) (h : Heap), YP w h → (K w.params).In h)
    (F : ∀ (w : World) (mg : Str → Option Value) (fa : Addr) (h : Heap), (K w.params).In h → h.Ns mainGlobals mg → mg d.name = some (.ref fa) →
      ∃ fd : FuncData, (∀ (s : Shared) (u : Value), BindsTo s fd ⟨[u], []⟩ [("_law_script", u)]) ∧ ∀ base : Heap, (K w.params).In base → base.Ns mainGlobals mg → FnOk l.prog w (K w.params) mg base CX0 20 fa fd ["_law_script"] (spLaw02 (K w.params))) :
    PySem.W.WalkO q loose XP YP l.row.toRowW d [] (fun f vs => PySem.call f vs) :=
  L2.walk_of (n := 63) (k := 20) (x := "_law_script") (CX := fun _ => CX0) (sp := fun w => spLaw02 (K w.params)) hn (by decide) hdf ⟨rfl, by decide, by decide⟩ hY F (fun _ _ a ns hl _ hS => ⟨a, ns, rfl, hS, hl, fun _ => rfl⟩) fun _ _ _ _ _ z => z
end DL


set_option Elab.async false
open PySem PySem.W PyProof.Rows in
set_option maxRecDepth 100000 in
set_option maxHeartbeats 0 in
theorem PySem.Challenge.cw_drawerlocks_k02_no_cabinets_holds : PySem.Challenge.rw_drawerlocks_k02_no_cabinets.Holds := by
  w_on; o_law; k_head; (case hw => w_witness2)
  k_fill
  refine DL.walk (l := PySem.Challenge.rw_drawerlocks_k02_no_cabinets) rfl rfl (fun w h Y => PySem.W.kIn_of Y) ?F
  case F =>
    intro w mg fa h KX G hmg
    refine' DL.all_mk KX G hmg ?aDk ?a_Desk___init__ ?a_is_integer ?l_is_integer ?c_is_integer ?k_is_integer ?a_is_drawer_count ?l_is_drawer_count ?c_is_drawer_count ?k_is_drawer_count ?a_is_drawer ?l_is_drawer ?c_is_drawer ?k_is_drawer ?a_is_bar ?l_is_bar ?c_is_bar ?k_is_bar ?a_check_drawers ?l_check_drawers ?c_check_drawers ?k_check_drawers ?a_check_bars ?l_check_bars ?c_check_bars ?k_check_bars ?a__law_taken ?l__law_taken ?c__law_taken ?k__law_taken ?a_check_cabinet ?l_check_cabinet ?c_check_cabinet ?k_check_cabinet ?a_can ?l_can ?c_can ?k_can ?a_barring ?l_barring ?c_barring ?k_barring ?a_behind ?l_behind ?c_behind ?k_behind ?a_right_row ?l_right_row ?c_right_row ?k_right_row ?a_row_to ?l_row_to ?c_row_to ?k_row_to ?a_row_between ?l_row_between ?c_row_between ?k_row_between ?a_reached ?l_reached ?c_reached ?k_reached ?a_farthest ?l_farthest ?c_farthest ?k_farthest ?a_open_together ?l_open_together ?c_open_together ?k_open_together ?a_never_together ?l_never_together ?c_never_together ?k_never_together ?a_most_open ?l_most_open ?c_most_open ?k_most_open ?a_first_apart ?l_first_apart ?c_first_apart ?k_first_apart ?a_alike ?l_alike ?c_alike ?k_alike ?a_needless ?l_needless ?c_needless ?k_needless ?a__law_odd ?l__law_odd ?c__law_odd ?k__law_odd ?a_fewest_bars ?l_fewest_bars ?c_fewest_bars ?k_fewest_bars ?a_dead_end ?l_dead_end ?c_dead_end ?k_dead_end ?a_never_opened ?l_never_opened ?c_never_opened ?k_never_opened ?a_no_return ?l_no_return ?c_no_return ?k_no_return ?a_write ?l_write ?c_write ?k_write ?a_count_rows ?l_count_rows ?c_count_rows ?k_count_rows ?a_frozen ?l_frozen ?c_frozen ?k_frozen ?a_paper ?l_paper ?c_paper ?k_paper ?a_count_to ?l_count_to ?c_count_to ?k_count_to ?a_guards ?l_guards ?c_guards ?k_guards ?a_right_paper ?l_right_paper ?c_right_paper ?k_right_paper ?a__law_call ?l__law_call ?c__law_call ?k__law_call ?a_law ?l_law ?c_law ?k_law ?aC ?pg ?hd ?po ?sa ?mk ?kc ?nD ?nB ?a_Cabinet___init__ ?l_Cabinet___init__ ?c_Cabinet___init__ ?k_Cabinet___init__ ?i_init ?ci1 ?ci2 ?ci3 ?ci4 ?ci5 ?l_Desk___init__ ?c_Desk___init__ ?k_Desk___init__ ?z_isinstance ?z_int ?z_bool ?z_tuple ?z_len ?z_enumerate ?z_range ?z_sorted ?aM ?aW ?lW ?aCb ?xCb ?kCb ?bCb ?tCb ?iCb ?sCb ?kcN ?kcI ?kcB ?kcT ?kcS ?kcD ?mkDk ?kcDk ?i_Deskinit
    (case aDk => k_is)
    (case a_Desk___init__ => k_is)
    (case a_is_integer => k_is)
    (case l_is_integer => k_is)
    (case c_is_integer => k_is)
    (case k_is_integer => k_is)
    (case a_is_drawer_count => k_is)
    (case l_is_drawer_count => k_is)
    (case c_is_drawer_count => k_is)
    (case k_is_drawer_count => k_is)
    (case a_is_drawer => k_is)
    (case l_is_drawer => k_is)
    (case c_is_drawer => k_is)
    (case k_is_drawer => k_is)
    (case a_is_bar => k_is)
    (case l_is_bar => k_is)
    (case c_is_bar => k_is)
    (case k_is_bar => k_is)
    (case a_check_drawers => k_is)
    (case l_check_drawers => k_is)
    (case c_check_drawers => k_is)
    (case k_check_drawers => k_is)
    (case a_check_bars => k_is)
    (case l_check_bars => k_is)
    (case c_check_bars => k_is)
    (case k_check_bars => k_is)
    (case a__law_taken => k_is)
    (case l__law_taken => k_is)
    (case c__law_taken => k_is)
    (case k__law_taken => k_is)
    (case a_check_cabinet => k_is)
    (case l_check_cabinet => k_is)
    (case c_check_cabinet => k_is)
    (case k_check_cabinet => k_is)
    (case a_can => k_is)
    (case l_can => k_is)
    (case c_can => k_is)
    (case k_can => k_is)
    (case a_barring => k_is)
    (case l_barring => k_is)
    (case c_barring => k_is)
    (case k_barring => k_is)
    (case a_behind => k_is)
    (case l_behind => k_is)
    (case c_behind => k_is)
    (case k_behind => k_is)
    (case a_right_row => k_is)
    (case l_right_row => k_is)
    (case c_right_row => k_is)
    (case k_right_row => k_is)
    (case a_row_to => k_is)
    (case l_row_to => k_is)
    (case c_row_to => k_is)
    (case k_row_to => k_is)
    (case a_row_between => k_is)
    (case l_row_between => k_is)
    (case c_row_between => k_is)
    (case k_row_between => k_is)
    (case a_reached => k_is)
    (case l_reached => k_is)
    (case c_reached => k_is)
    (case k_reached => k_is)
    (case a_farthest => k_is)
    (case l_farthest => k_is)
    (case c_farthest => k_is)
    (case k_farthest => k_is)
    (case a_open_together => k_is)
    (case l_open_together => k_is)
    (case c_open_together => k_is)
    (case k_open_together => k_is)
    (case a_never_together => k_is)
    (case l_never_together => k_is)
    (case c_never_together => k_is)
    (case k_never_together => k_is)
    (case a_most_open => k_is)
    (case l_most_open => k_is)
    (case c_most_open => k_is)
    (case k_most_open => k_is)
    (case a_first_apart => k_is)
    (case l_first_apart => k_is)
    (case c_first_apart => k_is)
    (case k_first_apart => k_is)
    (case a_alike => k_is)
    (case l_alike => k_is)
    (case c_alike => k_is)
    (case k_alike => k_is)
    (case a_needless => k_is)
    (case l_needless => k_is)
    (case c_needless => k_is)
    (case k_needless => k_is)
    (case a__law_odd => k_is)
    (case l__law_odd => k_is)
    (case c__law_odd => k_is)
    (case k__law_odd => k_is)
    (case a_fewest_bars => k_is)
    (case l_fewest_bars => k_is)
    (case c_fewest_bars => k_is)
    (case k_fewest_bars => k_is)
    (case a_dead_end => k_is)
    (case l_dead_end => k_is)
    (case c_dead_end => k_is)
    (case k_dead_end => k_is)
    (case a_never_opened => k_is)
    (case l_never_opened => k_is)
    (case c_never_opened => k_is)
    (case k_never_opened => k_is)
    (case a_no_return => k_is)
    (case l_no_return => k_is)
    (case c_no_return => k_is)
    (case k_no_return => k_is)
    (case a_write => k_is)
    (case l_write => k_is)
    (case c_write => k_is)
    (case k_write => k_is)
    (case a_count_rows => k_is)
    (case l_count_rows => k_is)
    (case c_count_rows => k_is)
    (case k_count_rows => k_is)
    (case a_frozen => k_is)
    (case l_frozen => k_is)
    (case c_frozen => k_is)
    (case k_frozen => k_is)
    (case a_paper => k_is)
    (case l_paper => k_is)
    (case c_paper => k_is)
    (case k_paper => k_is)
    (case a_count_to => k_is)
    (case l_count_to => k_is)
    (case c_count_to => k_is)
    (case k_count_to => k_is)
    (case a_guards => k_is)
    (case l_guards => k_is)
    (case c_guards => k_is)
    (case k_guards => k_is)
    (case a_right_paper => k_is)
    (case l_right_paper => k_is)
    (case c_right_paper => k_is)
    (case k_right_paper => k_is)
    (case a__law_call => k_is)
    (case l__law_call => k_is)
    (case c__law_call => k_is)
    (case k__law_call => k_is)
    (case a_law => k_is)
    (case l_law => k_is)
    (case c_law => k_is)
    (case k_law => k_is)
    (case aC => k_is)
    (case pg => k_is)
    (case hd => k_is)
    (case po => k_is)
    (case sa => k_is)
    (case mk => k_is)
    (case kc => k_is)
    (case nD => k_is)
    (case nB => k_is)
    (case a_Cabinet___init__ => k_is)
    (case l_Cabinet___init__ => k_is)
    (case c_Cabinet___init__ => k_is)
    (case k_Cabinet___init__ => k_is)
    (case i_init => k_is)
    (case ci1 => first | k_is | rfl)
    (case ci2 => first | k_is | rfl)
    (case ci3 => first | k_is | rfl)
    (case ci4 => first | k_is | rfl)
    (case ci5 => first | k_is | rfl)
    (case l_Desk___init__ => k_is)
    (case c_Desk___init__ => k_is)
    (case k_Desk___init__ => k_is)
    (case z_isinstance => k_is)
    (case z_int => k_is)
    (case z_bool => k_is)
    (case z_tuple => k_is)
    (case z_len => k_is)
    (case z_enumerate => k_is)
    (case z_range => k_is)
    (case z_sorted => k_is)
    (case aM => k_is)
    (case aW => k_is)
    (case lW => k_is)
    (case aCb => k_is)
    (case xCb => k_exc)
    (case kCb => k_is)
    (case bCb => k_is)
    (case tCb => k_is)
    (case iCb => k_is)
    (case sCb => first | rfl | k_is)
    (case kcN => first | k_is | rfl)
    (case kcI => first | k_is | rfl)
    (case kcB => first | k_is | rfl)
    (case kcT => first | k_is | rfl)
    (case kcS => first | k_is | rfl)
    (case kcD => first | k_is | rfl)
    (case mkDk => k_is)
    (case kcDk => k_is)
    (case i_Deskinit => k_is)
