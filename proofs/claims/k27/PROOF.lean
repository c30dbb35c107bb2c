import PyProof.Rows.All
import Wide.All
import OpenK.AllK
import Wide.FinOn
import HandS.ForMost
import HandS.ForExc
import HandS.TupLe
import HandS.TupAny
import HandS.SortOrd
import HandS.SortRule
import HandS.IsInst
import HandS.Conv
import HandS.Wide
import HandS.Property
import HandS.Deep
import HandS.Walk
import HandS.Zip
import HandS.Flow
import KE.GoesEnum
import PySem.Challenge.RW_drawerlocks_k27_what_holds
import HandS.Replace
import HandS.More
import HandS.TryOnly
import KE.GoesZip
import KE.KSuper
import KE.KExcSuper
import HandS.ClsMeth
import HandS.ExcInit
import HandS.WordsExc
import HandS.FStr
import HandS.Star
import PyProof.Rows.SortShellAny
import KE.DataMinMax
import PyProof.Rows.StrMeet
import HandS.SlotsOwn
import HandS.ExcOwn
import HandS.TryMany
import HandS.ExcField
import HandS.DictComp
import HandS.DictSubView
import HandS.Small
import HandS.SetKeys
import HandS.SetBool
import HandS.Strs
import HandS.Style
import HandS.Comp
import HandS.Iter
import PyProof.ZipIter
import PyProof.Rows.Range3
import HandS.RepeatKit
import HandS.ForDict
import HandS.TupSets
import HandS.SetFor
import HandS.Codes
import PyProof.DictMoreH
import KE.KIntText
import HandS.Text
import PyProof.Rows.RegReprOcc
import HandS.Head0
import HandS.Head1
import HandS.Head2
import HandS.HeadEnd
import HandS.HeadHook1
import HandS.HeadHook2
import KE.KExcInit
import HandS.Head3
set_option Elab.async false
set_option maxRecDepth 100000
namespace DL
open PySem PySem.Spec PyProof.Rows L2
/-! ### bars: four parts; the words as truth values (true: shut) -/
structure Bar where
  d : Int
  w : Bool
  o : Int
  t : Bool
deriving DecidableEq
def wd (b : Bool) : Str := if b = true then "shut" else "open"
theorem wd_inj : ∀ {a b : Bool}, wd a = wd b → a = b := by decide +kernel
theorem wd_lt : ∀ a b : Bool, decide ((wd a).cps.toList < (wd b).cps.toList) = (!a && b) := by decide +kernel
theorem wd_dec : ∀ a : Bool, decide (wd a = "shut") = a := by decide +kernel
def Bar.key (b : Bar) : List Key := [.inl b.d, .inr (wd b.w), .inl b.o, .inr (wd b.t)]
def Bar.vs (b : Bar) : List V := [.int b.d, .str (wd b.w), .int b.o, .str (wd b.t)]
theorem Bar.key_vs (b : Bar) : b.key.map kV = b.vs := rfl
def b2n (b : Bool) : Int := if b = true then 1 else 0
theorem b2n_le (b : Bool) : 0 ≤ b2n b ∧ b2n b ≤ 1 := by cases b <;> decide
theorem b2n_inj {a b : Bool} (h : b2n a = b2n b) : a = b := by revert h; revert a b; decide
def Bar.code (b : Bar) : Int := ((b.d * 2 + b2n b.w) * 8 + b.o) * 2 + b2n b.t
/-- the parts lie where a bar of at most eight drawers has them -/
def Bar.low (b : Bar) : Prop := 0 ≤ b.d ∧ b.d < 8 ∧ 0 ≤ b.o ∧ b.o < 8
theorem Bar.ext4 {a b : Bar} (h1 : a.d = b.d) (h2 : a.w = b.w) (h3 : a.o = b.o) (h4 : a.t = b.t) : a = b := by
  cases a; cases b; simp only at h1 h2 h3 h4; subst h1 h2 h3 h4; rfl
theorem Bar.code_inj {a b : Bar} (ha : a.low) (hb : b.low) (h : a.code = b.code) : a = b := by
  unfold Bar.low at ha hb
  unfold Bar.code at h
  have w1 := b2n_le a.w; have w2 := b2n_le b.w; have t1 := b2n_le a.t; have t2 := b2n_le b.t
  exact Bar.ext4 (by omega) (b2n_inj (by omega)) (by omega) (b2n_inj (by omega))
theorem Bar.key_inj {a b : Bar} (h : a.key = b.key) : a = b := by
  unfold Bar.key at h
  injection h with h1 h; injection h with h2 h; injection h with h3 h; injection h with h4 _
  injection h1 with h1; injection h2 with h2; injection h3 with h3; injection h4 with h4
  exact Bar.ext4 h1 (wd_inj h2) h3 (wd_inj h4)
/-- what a < b of two such tuples comes to -/
def Bar.ltb (a b : Bar) : Bool := if a.d = b.d then (if a.w = b.w then (if a.o = b.o then (!a.t && b.t) else decide (a.o < b.o)) else (!a.w && b.w)) else decide (a.d < b.d)
theorem Bar.ltb_code {a b : Bar} (ha : a.low) (hb : b.low) : a.ltb b = decide (a.code < b.code) := by
  obtain ⟨ad, aw, ao, at'⟩ := a
  obtain ⟨bd, bw, bo, bt⟩ := b
  unfold Bar.low at ha hb
  unfold Bar.ltb Bar.code b2n
  simp only at ha hb ⊢
  by_cases h1 : ad = bd
  · rw [if_pos h1]
    by_cases h2 : aw = bw
    · rw [if_pos h2]
      by_cases h3 : ao = bo
      · rw [if_pos h3]
        subst h1 h2 h3
        cases at' <;> cases bt <;> simp <;> omega
      · rw [if_neg h3]
        subst h1 h2
        cases at' <;> cases bt <;> simp <;> omega
    · rw [if_neg h2]
      subst h1
      cases aw <;> cases bw <;> cases at' <;> cases bt <;> simp at h2 ⊢ <;> omega
  · rw [if_neg h1]
    cases aw <;> cases bw <;> cases at' <;> cases bt <;> simp <;> omega
/-- a bar read back -/
def barOf : List V → Bar
  | [.int d, .str w, .int o, .str t] => ⟨d, decide (w = "shut"), o, decide (t = "shut")⟩
  | _ => ⟨0, false, 0, false⟩
theorem barOf_vs (b : Bar) : barOf b.vs = b := by
  show (⟨b.d, decide (wd b.w = "shut"), b.o, decide (wd b.t = "shut")⟩ : Bar) = b
  rw [wd_dec, wd_dec]
/-- the bar that stands at an address of the heap -/
def barAt (H : Hp) : V → Bar
  | .ref a => (match H a with | some (.tup xs) => barOf xs | _ => ⟨0, false, 0, false⟩)
  | _ => ⟨0, false, 0, false⟩
theorem barAt_of {H : Hp} {a : Addr} {b : Bar} (h : H a = some (.tup b.vs)) : barAt H (.ref a) = b := by
  show (match H a with | some (.tup xs) => barOf xs | _ => ⟨0, false, 0, false⟩) = b
  rw [h]; exact barOf_vs b
/-! ### sorted(d), d a dict whose keys are such tuples -/
def IsBarV (h : Heap) (v : Value) (b : Bar) : Prop := ∃ a o t1 t2 t3 t4 n, v = .ref a ∧ h.get? a = some o ∧ o.cls = .type "tuple" ∧ o.data = .seq #[.int b.d t1, .str (wd b.w) t2, .int b.o t3, .str (wd b.t) t4] n
theorem IsBarV.keeps {h h' : Heap} {v : Value} {b : Bar} (p : IsBarV h v b) (k : ∀ c o, h.get? c = some o → o.cls = .type "tuple" → h'.get? c = some o) : IsBarV h' v b := by
  obtain ⟨a, o, t1, t2, t3, t4, n, e, ho, hc, hd⟩ := p
  exact ⟨a, o, t1, t2, t3, t4, n, e, k _ _ ho hc, hc, hd⟩
section
variable {prog : Program} {w : World} {A : Around} {E : Value → Shared → Prop} {s : Shared}
theorem oneLt_words (c : Bool) {p q : Str} {t u : Tok} {Q : Bool → Shared → Prop} (h : c = false) (hq : Q (decide (p.cps.toList < q.cps.toList)) s) : wpAny (model prog w) A (oneLt' c (.str p t) (.str q u)) Q E s := by
  subst h
  exact PySem.W.kat_one _ _ (PyProof.Rows.lt_str hq)
theorem bar_cmp {vs : List Value} {kb : Value → Bar} (hp : ∀ v ∈ vs, IsBarV s.heap v (kb v) ∧ (kb v).low) : SrtO.Cmp prog w A s (tuples' true) (fun p => p.1 ∈ vs) (SrtO.lt2 fun v u => decide ((kb v).code < (kb u).code)) := by
  intro p q hm hm'
  obtain ⟨h1, l1⟩ := hp _ hm
  obtain ⟨h2, l2⟩ := hp _ hm'
  show wpAny (model prog w) A (keyLt' (tuples' true) p.1 q.1) (fun r s' => s' = s ∧ r = decide ((kb p.1).code < (kb q.1).code)) (fun _ _ => False) s
  generalize kb p.1 = x at h1 l1 ⊢
  generalize kb q.1 = y at h2 l2 ⊢
  rw [← Bar.ltb_code l1 l2]
  obtain ⟨a, o, t1, t2, t3, t4, n, e, ho, hc, hd⟩ := h1
  obtain ⟨a', o', t1', t2', t3', t4', n', e', ho', hc', hd'⟩ := h2
  rw [e, e']
  refine PySem.W.kat_lt ho hd ho' hd' ?_
  show PySem.W.KatLex prog w A true (decide (4 < 4)) _ [(.int x.d t1, .int y.d t1'), (.str (wd x.w) t2, .str (wd y.w) t2'), (.int x.o t3, .int y.o t3'), (.str (wd x.t) t4, .str (wd y.t) t4')] 0 s
  refine PySem.W.kat_cons (SeqAt.EqAt.int_int x.d t1 y.d t1' prog w _ _ ?_)
  refine PySem.W.kat_go (fun e1 => ?_) (fun e1 => ?_)
  · have e1' : x.d = y.d := by simpa using e1
    refine PySem.W.kat_yes (PySem.W.kat_cons (wpAny_eqBool_str ?_))
    refine PySem.W.kat_go (fun e2 => ?_) (fun e2 => ?_)
    · have e2' : x.w = y.w := wd_inj (by simpa using e2)
      refine PySem.W.kat_yes (PySem.W.kat_cons (SeqAt.EqAt.int_int x.o t3 y.o t3' prog w _ _ ?_))
      refine PySem.W.kat_go (fun e3 => ?_) (fun e3 => ?_)
      · have e3' : x.o = y.o := by simpa using e3
        refine PySem.W.kat_yes (PySem.W.kat_cons (wpAny_eqBool_str ?_))
        refine PySem.W.kat_go (fun e4 => ?_) (fun e4 => ?_)
        · have e4' : x.t = y.t := wd_inj (by simpa using e4)
          refine PySem.W.kat_yes (PySem.W.kat_nil ⟨rfl, ?_⟩)
          unfold Bar.ltb
          rw [if_pos e1', if_pos e2', if_pos e3', e4']
          cases y.t <;> rfl
        · refine PySem.W.kat_no (oneLt_words _ rfl ⟨rfl, ?_⟩)
          unfold Bar.ltb
          rw [if_pos e1', if_pos e2', if_pos e3', wd_lt]
      · have e3' : ¬ x.o = y.o := by simpa using e3
        refine PySem.W.kat_no (PySem.W.kat_one _ _ (PyProof.Rows.lt_int ?_))
        refine (show s = s ∧ decide (x.o < y.o) = x.ltb y from ⟨rfl, ?_⟩)
        unfold Bar.ltb
        rw [if_pos e1', if_pos e2', if_neg e3']
    · have e2' : ¬ x.w = y.w := fun z => by rw [z] at e2; simp at e2
      refine PySem.W.kat_no (oneLt_words _ rfl ⟨rfl, ?_⟩)
      unfold Bar.ltb
      rw [if_pos e1', if_neg e2', wd_lt]
  · have e1' : ¬ x.d = y.d := by simpa using e1
    refine PySem.W.kat_no (oneLt_int ⟨rfl, ?_⟩)
    unfold Bar.ltb
    rw [if_neg e1']
theorem bar_firsts {h : Heap} : ∀ {vs : List Value}, (∀ v ∈ vs, ∃ b, IsBarV h v b) → ∃ fs : List Value, PySem.W.KatTups h vs fs ∧ fs.length = vs.length ∧ ∀ f ∈ fs, ∃ x t, f = Value.int x t
  | [], _ => ⟨[], PySem.W.KatTups.nil, rfl, fun _ hm => by simp at hm⟩
  | v :: vs, hp => by
    obtain ⟨fs, h1, h2, h3⟩ := bar_firsts (vs := vs) fun v' hm => hp v' (List.mem_cons_of_mem _ hm)
    obtain ⟨b, a, o, t1, t2, t3, t4, n, e, ho, hc, hd⟩ := hp v (List.mem_cons_self ..)
    subst e
    refine ⟨.int b.d t1 :: fs, PySem.W.KatTups.cons ho hc hd rfl h1, by rw [List.length_cons, List.length_cons, h2], fun f hm => ?_⟩
    rcases List.mem_cons.mp hm with rfl | hm
    · exact ⟨b.d, t1, rfl⟩
    · exact h3 f hm
theorem swo_code (kb : Value → Bar) : SrtO.Swo fun v u => decide ((kb v).code < (kb u).code) := by
  refine ⟨fun x y h => ?_, fun x y z h1 h2 => ?_⟩
  · have a := of_decide_eq_true h
    exact decide_eq_false (by omega)
  · have a := of_decide_eq_false h1
    have b := of_decide_eq_false h2
    exact decide_eq_false (by omega)
theorem bars_sortableO {a : Addr} {vs : List Value} {kb : Value → Bar} (h0 : 0 < vs.length) (hp : ∀ v ∈ vs, IsBarV s.heap v (kb v) ∧ (kb v).low) (ha : ∀ o, s.heap.get? a = some o → o.cls ≠ .type "tuple") :
    SrtO.SortableO prog w A s a vs fun v u => decide ((kb v).code < (kb u).code) := by
  intro h' keep
  have hp' : ∀ v ∈ vs, IsBarV h' v (kb v) ∧ (kb v).low := fun v hm => ⟨(hp v hm).1.keeps fun b o e c => keep b o (fun z => by subst z; exact ha o e c) e, (hp v hm).2⟩
  obtain ⟨fs, h1, h2, h3⟩ := bar_firsts fun v hm => ⟨_, (hp' v hm).1⟩
  refine ⟨tuples' true, fun Q E hq => ?_, bar_cmp hp'⟩
  refine PySem.W.kat_kind (T := .type "int") h1 (by omega) (fun f hm => ?_) (by rfl) ?_
  · obtain ⟨x, t, rfl⟩ := h3 f hm
    exact PySem.W.Looks.now
  · have e : (Value.type "int" != Value.type "tuple") = true := by first | decide +kernel | rfl | decide
    rw [e]
    exact hq
end
/-- sorted(d): the keys' own tuples, by their codes -/
def rSortB : List V → Hp → VK → Prop := fun xs H Q => ∃ (d : Addr) (kvs : List (List Key × V)) (bs : List Bar), xs = [V.ref d] ∧ Rd H d (.dT kvs) ∧ kvs.map (·.1) = bs.map Bar.key ∧ (∀ b ∈ bs, b.low) ∧
  ∀ (ks : List (Addr × Bar)) (p : Addr), (∀ k ∈ ks, H k.1 = some (.tup k.2.vs)) → (ks.map (·.2)).Perm bs → (ks.map (·.2)).Pairwise (fun x y => x.code ≤ y.code) → H p = none → Q (.ref p) (upd H p (.lst (ks.map fun k => V.ref k.1)))
theorem keys_bars : ∀ {H : Hp} {kvs : List (List Key × V)} {as : List Addr} {bs : List Bar}, IsKeys H kvs as → kvs.map (·.1) = bs.map Bar.key → (∀ a ∈ as, ∃ b ∈ bs, H a = some (.tup b.vs)) ∧ (as.map V.ref).map (barAt H) = bs := by
  intro H kvs as bs ik
  unfold IsKeys at ik
  induction ik generalizing bs with
  | nil =>
    intro e
    cases bs with
    | nil => exact ⟨fun a ha => by simp at ha, rfl⟩
    | cons b bs => simp at e
  | @cons kv a kvs' as' h t ih =>
    intro e
    cases bs with
    | nil => simp at e
    | cons b bs =>
      rw [List.map_cons, List.map_cons] at e
      injection e with e1 e2
      obtain ⟨i1, i2⟩ := ih e2
      have hb : H a = some (.tup b.vs) := by rw [h, e1]; rfl
      refine ⟨fun c hc => ?_, ?_⟩
      · rcases List.mem_cons.mp hc with rfl | hc
        · exact ⟨b, List.mem_cons_self, hb⟩
        · obtain ⟨b', m, q⟩ := i1 c hc
          exact ⟨b', List.mem_cons_of_mem _ m, q⟩
      · rw [List.map_cons, List.map_cons, i2, barAt_of hb]
section
variable {X : Cx}
theorem cr_sortB (hcalm : X.calm = true) : CallR X (.builtin "sorted") rSortB := by
  intro pins s σ H xs us Q I r h
  obtain ⟨d, kvs, bs, rfl, hd, hks, hlow, q⟩ := h
  obtain ⟨u, rfl, rx⟩ := r.one
  obtain rfl : u = Value.ref d := rx
  obtain ⟨z, hs, ks, pr, o, es, ep, ho, hx, hdt, he, hn⟩ := (show ObjOk X.prog X.w H s.heap d (.dT kvs) from hd.ok I.hok)
  have l1 : es.size = ks.length := size_of_entries he
  have l2 : kvs.length = ks.length := Paired.length pr
  refine Calls.call_function_entry PyProof.Rows.kind_sorted PyProof.Rows.plain_sorted PyProof.Rows.entry_sorted (PyProof.Rows.args_sorted1 _) ?_
  unfold Builtin.«sorted»
  refine wpAny_bind (m := checkCount "sorted" 1 1 _) (wpAny_pure ?_)
  refine wpAny_bind (PySem.W.kdu_collect (A := X.A.in1) (kdl_raw hs hx hdt) (I.ok.hd hcalm) ho (by omega) fun h' tk acc hk it => ?_)
  have ea : acc.toList = ks.map fun x => Value.ref x.2.1 := by
    have hl : acc.toList.length = ks.length := by rw [Array.length_toList, it.1]; exact l1
    apply List.ext_getElem?
    intro j
    rw [List.getElem?_map]
    cases hj : acc.toList[j]? with
    | none =>
      have h1 := List.getElem?_eq_none_iff.mp hj
      rw [List.getElem?_eq_none (by omega)]
      all_goals rfl
    | some v =>
      obtain ⟨en, hen, hv⟩ := it.2 j v (by rw [← Array.getElem?_toList]; exact hj)
      have qe := entry_at he j
      rw [hen] at qe
      cases hb : ks[j]? with
      | none =>
        rw [hb] at qe
        exact nomatch (show some en = none from qe)
      | some b =>
        rw [hb] at qe
        have e2 : en = entryOfKey (tupleKind (mixKind X.prog X.w)) b := Option.some.inj qe
        rw [hv, e2]
        all_goals rfl
  have ik : IsKeys H kvs (ks.map fun x => x.2.1) := isKeys_of pr
  obtain ⟨kb1, kb2⟩ := keys_bars ik hks
  generalize has : (ks.map fun x => x.2.1) = as at ik kb1 kb2
  have ea' : acc.toList = as.map Value.ref := by rw [ea, ← has, List.map_map]; rfl
  have hal : acc.toList.length = as.length := by rw [ea', List.length_map]
  have hasz : as.length ≤ sizeLine := by rw [← has, List.length_map]; omega
  have I1 : Inv X pins σ H { s with heap := h', toks := tk } := I.kept hk
  refine wpAny_bind (wpAny_newList ?_ (by rw [hal]; exact hasz))
  have hoL : (h'.push (seqObj "list" acc.toList.toArray 0)).get? h'.objs.size = some (seqObj "list" acc.toList.toArray 0) := Heap.get?_push_size _ rfl
  show wpAny _ _ _ _ _ { s with heap := h'.push (seqObj "list" acc.toList.toArray 0), toks := tk }
  have hbar : ∀ v ∈ acc.toList, IsBarV h' v (barAt H (backV v)) ∧ (barAt H (backV v)).low := fun v hv => by
    rw [ea'] at hv
    obtain ⟨a, ham, rfl⟩ := List.mem_map.mp hv
    obtain ⟨b, hbm, hHa⟩ := kb1 a ham
    have e1 : barAt H (backV (Value.ref a)) = b := barAt_of hHa
    rw [e1]
    refine ⟨?_, hlow b hbm⟩
    obtain ⟨_, its, rv, oo, h1, h2, n, h3⟩ := (show ObjOk X.prog X.w H h' a (.tup b.vs) from I1.hok a _ hHa)
    cases rv with
    | cons r1 rv =>
      cases rv with
      | cons r2 rv =>
        cases rv with
        | cons r3 rv =>
          cases rv with
          | cons r4 rv =>
            cases rv
            obtain ⟨t1, rfl⟩ := r1
            obtain ⟨t2, rfl⟩ := r2
            obtain ⟨t3, rfl⟩ := r3
            obtain ⟨t4, rfl⟩ := r4
            exact ⟨a, oo, t1, t2, t3, t4, n, rfl, h1, h2, h3⟩
  refine wpAny_bind (wpAny_holding (wpAny_call_entry PyProof.Rows.slot_list_sort ⟨_, hoL, rfl⟩ PyProof.Rows.entry_list_sort
    (SrtO.list_sort_ord (s := { s with heap := h'.push (seqObj "list" acc.toList.toArray 0), toks := tk }) (swo_code fun v => barAt H (backV v)) hoL (by rw [hal]; exact hasz) (fun h2 => ?_) fun out hs hb => ⟨_, rfl, ?_⟩)
    (PyProof.Rows.args_list_sort _)))
  · refine bars_sortableO (by omega) (fun v hv => ⟨(hbar v hv).1.keeps fun c oo e _ => Heap.get?_push_of_some _ e, (hbar v hv).2⟩) fun oo e => ?_
    have e' : some oo = some (seqObj "list" acc.toList.toArray 0) := e.symm.trans hoL
    cases e'
    intro c
    exact absurd (Value.type.inj c) (by decide)
  · obtain ⟨e', he'⟩ := PyProof.Rows.sortedHeap_at (vs := acc.toList) (out := out.toArray) hoL
    have pm : out.Perm (as.map Value.ref) := by rw [← ea']; exact hb.perm
    have href : ∀ v ∈ out, ∃ a, v = Value.ref a ∧ a ∈ as := fun v hv => by
      obtain ⟨a, ha, rfl⟩ := List.mem_map.mp (pm.mem_iff.mp hv)
      exact ⟨a, rfl, ha⟩
    have e1 : out.map backV = (out.map fun v => ((match v with | .ref a => a | _ => 0 : Addr), barAt H (backV v))).map fun k => V.ref k.1 := by
      rw [List.map_map]
      refine List.map_congr_left fun v hv => ?_
      obtain ⟨a, rfl, _⟩ := href v hv
      rfl
    have e2 : (out.map fun v => ((match v with | .ref a => a | _ => 0 : Addr), barAt H (backV v))).map (·.2) = out.map fun v => barAt H (backV v) := by
      rw [List.map_map]; rfl
    have pm2 : (out.map fun v => barAt H (backV v)).Perm bs := by
      have q1 := pm.map fun v => barAt H (backV v)
      have q2 : (as.map Value.ref).map (fun v => barAt H (backV v)) = bs := by
        rw [← kb2, List.map_map, List.map_map]; rfl
      rw [q2] at q1
      exact q1
    have qq := q (out.map fun v => ((match v with | .ref a => a | _ => 0 : Addr), barAt H (backV v))) h'.objs.size (fun k hk2 => by
        obtain ⟨v, hv, rfl⟩ := List.mem_map.mp hk2
        obtain ⟨a, rfl, ha⟩ := href v hv
        obtain ⟨b, _, hH⟩ := kb1 a ha
        show H a = some (.tup (barAt H (.ref a)).vs)
        rw [barAt_of hH]
        exact hH) (by rw [e2]; exact pm2) (by
        rw [e2, List.pairwise_map]
        exact hs.imp fun {x y} q => by
          have := of_decide_eq_false q
          omega) (I1.hok.fresh (Nat.le_refl _))
    rw [← e1] at qq
    refine wpAny_pure ⟨_, rfl, .ref h'.objs.size, upd H h'.objs.size (.lst (out.map backV)), I1.laid (t' := tk) (fun b u e => ?_) (Nat.le_refl _)
      (show ObjOk X.prog X.w _ _ _ (.lst (out.map backV)) from ⟨?_, out, e', vals_back fun v hv => ?_, he'⟩), rfl, qq⟩
    · have hb : b < h'.objs.size := Heap.lt_size e
      rw [PyProof.Rows.sortedHeap_old (Nat.ne_of_lt hb) (by rw [size_push']; exact Nat.lt_succ_of_lt hb)]
      exact Heap.get?_push_of_some _ e
    · rw [List.length_map, pm.length_eq, List.length_map]
      exact hasz
    · obtain ⟨a, e, _⟩ := href v hv
      exact ⟨a, e⟩
end
end DL

set_option Elab.async false
set_option maxRecDepth 100000
namespace DL
open PySem PySem.Spec PyProof.Rows L2
/-! ### bar <= bar -/
def Bar.leb (a b : Bar) : Bool := decide (a.code ≤ b.code)
def Bar.leq (a b : Bar) : Bool := if a.d = b.d then (if a.w = b.w then (if a.o = b.o then (if a.t = b.t then true else !(!b.t && a.t)) else decide (a.o ≤ b.o)) else !(!b.w && a.w)) else decide (a.d ≤ b.d)
theorem Bar.leq_code {a b : Bar} (ha : a.low) (hb : b.low) : a.leq b = a.leb b := by
  obtain ⟨ad, aw, ao, at'⟩ := a
  obtain ⟨bd, bw, bo, bt⟩ := b
  unfold Bar.low at ha hb
  unfold Bar.leq Bar.leb Bar.code b2n
  simp only at ha hb ⊢
  by_cases h1 : ad = bd
  · rw [if_pos h1]
    by_cases h2 : aw = bw
    · rw [if_pos h2]
      by_cases h3 : ao = bo
      · rw [if_pos h3]
        subst h1 h2 h3
        cases at' <;> cases bt <;> simp <;> omega
      · rw [if_neg h3]
        subst h1 h2
        cases at' <;> cases bt <;> simp <;> omega
    · rw [if_neg h2]
      subst h1
      cases aw <;> cases bw <;> cases at' <;> cases bt <;> simp at h2 ⊢ <;> omega
  · rw [if_neg h1]
    cases aw <;> cases bw <;> cases at' <;> cases bt <;> simp <;> omega
def rLeB (K : PySem.W.Frag) : R2 := fun x y H Q => ∃ (a b : Addr) (p q : Bar), x = .ref a ∧ y = .ref b ∧ SqT K H a p.vs ∧ SqT K H b q.vs ∧ Q (.bl (p.leq q)) H
theorem four_of {p : Bar} {its : List Value} (r : Vals p.vs its) : ∃ t1 t2 t3 t4, its = [.int p.d t1, .str (wd p.w) t2, .int p.o t3, .str (wd p.t) t4] := by
  cases r with
  | cons r1 rv =>
    cases rv with
    | cons r2 rv =>
      cases rv with
      | cons r3 rv =>
        cases rv with
        | cons r4 rv =>
          cases rv
          obtain ⟨t1, rfl⟩ := r1
          obtain ⟨t2, rfl⟩ := r2
          obtain ⟨t3, rfl⟩ := r3
          obtain ⟨t4, rfl⟩ := r4
          exact ⟨t1, t2, t3, t4, rfl⟩
theorem beq_dec {α : Type} [BEq α] [LawfulBEq α] [DecidableEq α] (a b : α) : (a == b) = decide (a = b) := by
  by_cases q : a = b
  · rw [decide_eq_true q]; exact beq_iff_eq.mpr q
  · rw [decide_eq_false q]; exact beq_eq_false_iff_ne.mpr q
theorem wd_beq (a b : Bool) : ((wd a) == (wd b)) = decide (a = b) := by revert a b; decide +kernel
theorem op_leB {X : Cx} (hu : X.A.units < cLine) : OpR X (compareOp .LtE) (rLeB X.K) := by
  intro pins s σ H x y v u Q I rx ry h
  obtain ⟨a, b, p, q, rfl, rfl, ha, hb, hq⟩ := h
  cases rx
  cases ry
  obtain ⟨its, r1, p1, _⟩ := I.tuple ha
  obtain ⟨its2, r2, p2, _⟩ := I.tuple hb
  obtain ⟨t1, t2, t3, t4, rfl⟩ := four_of r1
  obtain ⟨u1, u2, u3, u4, rfl⟩ := four_of r2
  have R := Ob.RcOp.tuples_le (A := X.A) (s := s) (e := fun j => match j with | 0 => decide (p.d = q.d) | 1 => decide (p.w = q.w) | 2 => decide (p.o = q.o) | _ => decide (p.t = q.t))
    (r := fun j => match j with | 0 => decide (p.d ≤ q.d) | 1 => !(!q.w && p.w) | 2 => decide (p.o ≤ q.o) | _ => !(!q.t && p.t)) p1 p2 hu (fun j h1 h2 => by
      match j, h1, h2 with
      | 0, _, _ => show SeqAt.EqAt _ _ (.int p.d t1) (.int q.d u1) (decide (p.d = q.d)); rw [← beq_dec]; exact SeqAt.EqAt.int_int _ _ _ _
      | 1, _, _ => show SeqAt.EqAt _ _ (.str (wd p.w) t2) (.str (wd q.w) u2) (decide (p.w = q.w)); rw [← wd_beq]; exact SeqAt.EqAt.str_str _ _ _ _
      | 2, _, _ => show SeqAt.EqAt _ _ (.int p.o t3) (.int q.o u3) (decide (p.o = q.o)); rw [← beq_dec]; exact SeqAt.EqAt.int_int _ _ _ _
      | 3, _, _ => show SeqAt.EqAt _ _ (.str (wd p.t) t4) (.str (wd q.t) u4) (decide (p.t = q.t)); rw [← wd_beq]; exact SeqAt.EqAt.str_str _ _ _ _
      | n + 4, h1, _ => exact absurd (show n + 4 < 4 from h1) (by omega)) (fun j h1 h2 _ => by
      match j, h1, h2 with
      | 0, _, _ => exact Ob.RcOp.le_int _ _ _ _
      | 1, _, _ =>
        show Ob.RcOp .LtE _ _ (.str (wd p.w) t2) (.str (wd q.w) u2) (!(!q.w && p.w))
        rw [← wd_lt]
        exact fun _ _ _ _ h => PySem.P.le_str h
      | 2, _, _ => exact Ob.RcOp.le_int _ _ _ _
      | 3, _, _ =>
        show Ob.RcOp .LtE _ _ (.str (wd p.t) t4) (.str (wd q.t) u4) (!(!q.t && p.t))
        rw [← wd_lt]
        exact fun _ _ _ _ h => PySem.P.le_str h
      | n + 4, h1, _ => exact absurd (show n + 4 < 4 from h1) (by omega))
  have z : wpAny (model X.prog X.w) X.A (compareOp .LtE (.ref a) (.ref b)) (EP X pins σ Q) X.xe s := R X.prog X.w X.xe (EP X pins σ Q) (by
    refine ⟨.bl (p.leq q), H, I, ?_, hq⟩
    show Value.bool _ = Value.bool (p.leq q)
    have e : (Ob.lexAt (fun j => match j with | 0 => decide (p.d = q.d) | 1 => decide (p.w = q.w) | 2 => decide (p.o = q.o) | _ => decide (p.t = q.t))
      (fun j => match j with | 0 => decide (p.d ≤ q.d) | 1 => !(!q.w && p.w) | 2 => decide (p.o ≤ q.o) | _ => !(!q.t && p.t)) true 0 4) = p.leq q := by
      unfold Bar.leq
      simp only [Ob.lexAt, decide_eq_true_eq]
    exact congrArg Value.bool e)
  exact z
/-! ### for i, x in enumerate(t), t a tuple -/
def IteT (K : PySem.W.Frag) (a : Addr) : It :=
  ⟨fun i H => ∃ (xs : List V) (x : V), SqT K H a xs ∧ xs[i]? = some x, fun i H v H' => ∃ T x, v = .ref T ∧ H T = none ∧ H' = upd H T (.tup [.int (i : Nat), x]) ∧ ∀ xs, SqT K H a xs → xs[i]? = some x, fun i H => ∃ xs : List V, SqT K H a xs ∧ xs.length ≤ i⟩
theorem turn_enumT {P : Program} {w : World} {K : PySem.W.Frag} {elts : List Expr} {kk : Nat} {tpos : Pos} (a e it : Addr) (hai : a ≠ it) (hae : e ≠ a) :
    Turn P w K (.Tuple elts kk tpos) (IteT K a) [e, it] e (fun i h => (∃ old, IsEnum h e it ((i : Nat) : Int) old) ∧ h.IsTupleIter it a i ∧ e ≠ it) where
  mem := by simp
  obj := fun i h st b hb => by
    obtain ⟨⟨old, he⟩, ⟨o, ho, hc, hd⟩, _⟩ := st
    have e' : b = e ∨ b = it := by simpa using hb
    rcases e' with z | z
    · rw [z]; exact ⟨_, he, fun v q => nomatch q⟩
    · rw [z]; exact ⟨o, ho, fun v q => by rw [hd] at q; cases q⟩
  keep := fun i h h' st k => let ⟨⟨old, he⟩, hi, hne⟩ := st; ⟨⟨old, k e (by simp) _ he⟩, hi.at fun o q => k it (by simp) o q, hne⟩
  item := by
    intro X hP hw hK hc i pins s σ H E I hf st hg
    subst hP hw hK
    obtain ⟨⟨old, he⟩, hit, hne⟩ := st
    obtain ⟨xs, x, hq, hx⟩ := hg
    obtain ⟨its, rv, p, hz⟩ := I.tuple hq
    obtain ⟨u, hu, ru⟩ := rv.get hx
    have hel : e < s.heap.objs.size := Heap.lt_size he
    have hil : it < s.heap.objs.size := by obtain ⟨_, q, _⟩ := hit; exact Heap.lt_size q
    have hlt : i < its.toArray.size := by
      have := (List.getElem?_eq_some_iff.mp hu).1
      simpa using this
    refine wpAny_pyNext_enum_itemD (Draws.tuple (A := X.A.in1) (I.ok.hd hc) it a hai its.toArray) he ⟨hit, p⟩ hlt hne (by simp; exact ⟨hne, hae⟩) fun x1 h' tk hp ho hst' hT hsz hk => ?_
    have hx1 : x1 = u := by
      have q : its.toArray[i]? = some u := by simpa using hu
      rw [q] at hp
      exact (Option.some.inj hp).symm
    subst hx1
    refine ⟨_, rfl, wpAny_letOwnedTupleGo_enum (s := { s with heap := h', toks := tk + 1 }) ho fun h'' he' sb => ?_⟩
    have hT2 : h''.get? s.heap.objs.size = some { cls := .type "tuple", data := .seq #[.int i tk, x1] } := (sb.2 _ (Nat.ne_of_gt hel)).trans hT
    have new : ObjOk X.prog X.w (upd H s.heap.objs.size (.tup [.int (i : Nat), x])) h'' s.heap.objs.size (.tup [.int (i : Nat), x]) :=
      ⟨by show 2 ≤ sizeLine; decide, [.int i tk, x1], .cons ⟨_, rfl⟩ (.cons ru .nil), ⟨_, hT2, rfl, _, rfl⟩⟩
    have I1 : Inv X pins σ (upd H s.heap.objs.size (.tup [.int (i : Nat), x])) { s with heap := h'', toks := tk + 1 } :=
      I.turnedNew (ch := [e, it]) (fun b ob hb q => (sb.2 b (fun z => hb (by simp [z]))).trans (hk b ob (fun z => hb (by simp [z])) (fun z => hb (by simp [z])) q)) hf (Nat.le_refl _) new
    refine ⟨.ref s.heap.objs.size, _, I1, rfl, ⟨_, x, rfl, I.hok.fresh (Nat.le_refl _), rfl, fun ys hy => by rw [I.tuple_inj hy hq]; exact hx⟩, ⟨⟨x1, ?_⟩, hst'.1.at fun o q => (sb.2 it (Ne.symm hne)).trans q, hne⟩, fun b hb => ?_⟩
    · have e1 : ((i + 1 : Nat) : Int) = (i : Int) + 1 := by omega
      rw [e1]; exact he'
    · have hb' : b < s.heap.objs.size := by
        have e' : b = e ∨ b = it := by simpa using hb
        rcases e' with z | z
        · rw [z]; exact hel
        · rw [z]; exact hil
      rw [upd_ne (Nat.ne_of_lt hb')]
      exact (hf b hb).1
  done := by
    intro X hP hw hK hc i pins s σ H E I hf st hg
    subst hP hw hK
    obtain ⟨⟨old, he⟩, hit, hne⟩ := st
    obtain ⟨xs, hq, hx⟩ := hg
    obtain ⟨its, rv, p, hz⟩ := I.tuple hq
    obtain ⟨f0, f1, f2, f3, f4, f5⟩ := hf it (by simp)
    have hl := rv.length
    have D := Draws.tuple (prog := X.prog) (w := X.w) (A := X.A.in1) (I.ok.hd hc) it a hai its.toArray
    have go : ∀ {Q : Option Value → Shared → Prop}, (∀ h', Heap.ExtBut it s.heap h' → Q none { s with heap := h' }) → wpAny (model X.prog X.w) X.A (pyNext (.ref e)) Q E s := by
      intro Q hQ
      unfold pyNext
      have hT : s.TypeIs (.ref e) "enumerate" := ⟨_, he, rfl⟩
      refine wpAny_bind (wpAny_attempt (wpAny_callSpecial?_slot (name := Str.ofString "__next__") hT F.slot_enumerate_next
        (wpAny_call_entry F.slot_enumerate_next hT F.entry_enumerate_next ?_ (F.args_enumerate_next_1 _))))
      show wpAny _ _ (field (.ref e) 2 >>= _) _ _ _
      refine wpAny_bind (wpAny_field he rfl (x := .ref it) rfl ?_)
      refine wpAny_bind (wpAny_nextOf_tuple_end (I.ok.hd hc) hit p (by simp; omega) fun h' x he' hx' => ?_)
      obtain ⟨o, ho, hc⟩ := hx'
      refine wpAny_bind (wpAny_isInstance (T := "StopIteration") (b := true) ⟨o, ho, hc⟩ isSubtype_stop ?_)
      exact wpAny_pure (hQ _ he')
    exact go fun h' eb => ⟨rfl, I.turned (t' := s.toks) (fun b o hb q => eb b o hb q) f0 f1 f3 f4 f5⟩
  self := fun A i s Q E st h => let ⟨⟨_, he⟩, _⟩ := st; wpAny_pyIter_enum he h
def iEnumT (K : PySem.W.Frag) (ta : TA) : TI := fun σ H R => ta σ H fun vs H1 => ∃ a xs, vs = [.ref a] ∧ SqT K H1 a xs ∧ R (IteT K a) H1
end DL

set_option Elab.async false
set_option maxRecDepth 100000
namespace DL
open PySem PySem.Spec PyProof.Rows L2
open Sem (wp)
set_option maxHeartbeats 1000000 in
theorem meets_enumerate_newB1 {v : Value} {o : Obj} {H : Heap → Prop} (B : Begins v o H) :
    Meets (Builtin.«enumerate.__new__» ⟨[.type "enumerate", v], []⟩) (fun _ R s => H s.heap ∧
      R (.ok (.ret (.ref (s.heap.push o).objs.size))) { s with heap := (s.heap.push o).push { cls := .type "enumerate", data := .fields #[.none, .bool false, .ref s.heap.objs.size, rawInt 0, .none, .none] } }) :=
  .of_wp fun prog w A R s h => by
    obtain ⟨hp, g, d, tk, os⟩ := s; obtain ⟨h1, h⟩ := h
    have hsub := sub_enumerate
    have q1 : ∀ {A' : Around} {E : Value → Shared → Prop} {Q : Value → Shared → Prop}, Q (.ref hp.objs.size) ⟨hp.push o, g, d, tk, os⟩ → wpAny (model prog w) A' (pyIter v) Q E ⟨hp, g, d, tk, os⟩ :=
      fun q => B.iter prog w _ _ ⟨hp, g, d, tk, os⟩ _ h1 q
    wp_walk using q1
    refine wpAny_stack_any fun st => wpAny_pure ?_
    split
    · rename_i c _ _ _ _ _
      cases (c == Value.type "enumerate")
      · wp_walk using q1
        exact ⟨_, rfl, h⟩
      · wp_walk using q1
        exact ⟨_, rfl, h⟩
    · wp_walk using q1
      exact ⟨_, rfl, h⟩
section
variable {prog : Program} {w : World} {A : Around} {E : Value → Shared → Prop} {s : Shared}
theorem enum_begins1 {v : Value} {o : Obj} {H : Heap → Prop} {Q : Value → Shared → Prop} (B : Begins v o H) (h1 : H s.heap)
    (h : ∀ h', IsEnum h' (s.heap.objs.size + 1) s.heap.objs.size 0 .none → h'.get? s.heap.objs.size = some o → h'.objs.size = s.heap.objs.size + 2 →
      (∀ b o, s.heap.get? b = some o → h'.get? b = some o) → Q (.ref (s.heap.objs.size + 1)) { s with heap := h' }) :
    wpAny (model prog w) A (call (.type "enumerate") [v]) Q E s := by
  refine callType_new F.called_enumerate (by decide) (F.typeCall_enumerate_1 _) (F.newCall_enumerate_1 _) (fun obj => F.args_object_init_2 obj _) F.entry_enumerate_new
    (meets_enumerate_newB1 B) ⟨h1, ?_⟩
  have hz : (s.heap.push o).objs.size = s.heap.objs.size + 1 := Heap.size_push ..
  show _ ∧ _
  rw [hz]
  have he : IsEnum ((s.heap.push o).push { cls := .type "enumerate", data := .fields #[.none, .bool false, .ref s.heap.objs.size, rawInt 0, .none, .none] }) (s.heap.objs.size + 1) s.heap.objs.size 0 .none := by
    have := Heap.get?_push_size (s.heap.push o) (o := { cls := .type "enumerate", data := .fields #[.none, .bool false, .ref s.heap.objs.size, rawInt 0, .none, .none] }) rfl
    rw [hz] at this; exact this
  refine ⟨⟨_, he, rfl⟩, h _ he (Heap.get?_push_of_some _ (Heap.get?_push_size _ B.free)) (by rw [Heap.size_push, hz]) fun b o x => Heap.get?_push_of_some _ (Heap.get?_push_of_some _ x)⟩
end
theorem pi_enumT {X : Cx} {e : Expr} {ta : TA} {p pos tpos : Pos} {elts : List Expr} {kk : Nat} (hg : Gl X "enumerate") (hm : X.mg "enumerate" = none) (ha : PA X [e] ta) (hs : starEach [e] X.env = [(false, eval e X.env)] := by rfl) :
    PI X (.Tuple elts kk tpos) (.Call (.Name "enumerate" p) [e] [] pos) (iEnumT X.K ta) := by
  refine ⟨fun pins s σ H R I h => ?_⟩
  refine Call_ (ld_blt I hg hm boot_enumerate (PyProof.Rows.callWith_type1 (thn (ha.run pos pins s σ H _ I h) fun us s1 ⟨vs, H1, I1, r1, q1⟩ => ?_) hs rfl))
  obtain ⟨a, xs, ex, hq, q⟩ := q1
  subst ex
  cases r1 with
  | cons r rr =>
    cases rr
    cases r
    obtain ⟨its, rv, p', hz⟩ := I1.tuple hq
    have hal : a < s1.heap.objs.size := by obtain ⟨o, ho, _⟩ := id p'; exact Heap.lt_size ho
    refine enum_begins1 (begins_tuple a its.toArray) (show s1.heap.IsTuple a its.toArray from p') fun h' he hit hsz hk => wpAny_pyIter_enum he ?_
    have I2 : Inv X pins σ H1 { s1 with heap := h' } := I1.kept (t' := s1.toks) hk
    refine ⟨s1.heap.objs.size + 1, [s1.heap.objs.size + 1, s1.heap.objs.size], _, _, H1, rfl, I2, turn_enumT a (s1.heap.objs.size + 1) s1.heap.objs.size (Nat.ne_of_lt hal) (Nat.ne_of_gt (Nat.lt_succ_of_lt hal)),
      ⟨⟨.none, he⟩, ⟨_, hit, rfl, rfl⟩, Nat.succ_ne_self _⟩, fun b hb => ?_, q⟩
    have e' : b = s1.heap.objs.size + 1 ∨ b = s1.heap.objs.size := by simpa using hb
    have hle : s1.heap.objs.size ≤ b := by
      rcases e' with z | z
      · rw [z]; exact Nat.le_add_right _ _
      · rw [z]; exact Nat.le_refl _
    exact I1.fpOk hle (I1.hok.fresh hle)
theorem walk_enumT {K : PySem.W.Frag} {a : Addr} {xs : List V} : Walk (IteT K a) xs.length (fun H => SqT K H a xs) (YPair (fun i => some (.int (i : Nat))) (fun i => xs[i]?)) := by
  refine ⟨fun i _ hi q => ⟨xs, xs[i], q, by simp [hi]⟩, fun _ q => ⟨xs, q, Nat.le_refl _⟩, fun i H v H' _ q y => ?_⟩
  obtain ⟨T, x, h1, h2, h3, h4⟩ := y
  exact ⟨T, .int (i : Nat), x, h1, h2, h3, rfl, h4 xs q⟩
end DL

set_option Elab.async false
set_option maxRecDepth 100000
namespace DL
open PySem L2
def top (i : Nat) : Stmt := PySem.Challenge.pw_drawerlocks_k27_what_holds.main.body.getD i (.Pass ⟨0, 0, 0, 0⟩)
abbrev sIsInt : Stmt := top 14
abbrev sIsCount : Stmt := top 15
abbrev sIsDrawer : Stmt := top 16
abbrev s_is_set : Stmt := top 17
abbrev sIsBar : Stmt := top 18
abbrev s_is_pattern : Stmt := top 19
abbrev s_has_signs : Stmt := top 20
abbrev s_first_standing : Stmt := top 21
abbrev s_fits : Stmt := top 22
abbrev s_hinders : Stmt := top 23
abbrev s_moved : Stmt := top 24
abbrev sInit : Stmt := inClass (top 26) 0
abbrev sDrawers : Stmt := inClass (top 26) 1
abbrev sBars : Stmt := inClass (top 26) 2
abbrev s_free_drawers : Stmt := top 27
abbrev s_goes : Stmt := top 28
abbrev s_bars_against : Stmt := top 29
abbrev sCheckDrawers : Stmt := top 30
abbrev sCheckBars : Stmt := top 31
abbrev s_check_cabinet : Stmt := top 32
abbrev s_check_pattern : Stmt := top 33
abbrev s_check_number : Stmt := top 34
abbrev s_reached : Stmt := top 36
abbrev s_row_to : Stmt := top 37
abbrev s_right_row : Stmt := top 38
abbrev s_first_rows : Stmt := top 39
abbrev s_reached_pulls : Stmt := top 40
abbrev s_rows_from : Stmt := top 41
abbrev s_first_row_to : Stmt := top 42
abbrev s_end_of_row : Stmt := top 43
abbrev s_count_rows : Stmt := top 46
abbrev s_count_to : Stmt := top 47
abbrev s_counts_by_end : Stmt := top 48
abbrev s_counts_behind : Stmt := top 49
abbrev s_needless : Stmt := top 51
abbrev s_fewest_bars : Stmt := top 52
abbrev s_barred_pulls : Stmt := top 53
abbrev s_fewest_of_each : Stmt := top 54
abbrev s_fewest_of_group : Stmt := top 55
abbrev s_meets_all : Stmt := top 56
abbrev s_dead_end : Stmt := top 58
abbrev s_no_return : Stmt := top 59
abbrev s_first_row_beside : Stmt := top 60
abbrev s_leading_to : Stmt := top 61
abbrev s_open_together : Stmt := top 63
abbrev s_most_open : Stmt := top 64
abbrev s_paper : Stmt := top 65
abbrev s_open_count : Stmt := top 66
abbrev s_any_fits : Stmt := top 67
abbrev s_open_pattern : Stmt := top 68
abbrev s_check_set : Stmt := top 69
abbrev sTaken : Stmt := top 71
abbrev sParts : Stmt := top 72
abbrev sMade : Stmt := top 73
abbrev s__law_hold : Stmt := top 74
abbrev s__law_all : Stmt := top 75
abbrev s__law_pattern : Stmt := top 76
abbrev s_law : Stmt := top 77
end DL

set_option Elab.async false
set_option maxRecDepth 100000
namespace DL
open PySem L2
/-! ### the facts of the top -/
structure Bt (mg : Str → Option Value) : Prop where
  isinstance : mg "isinstance" = none
  int : mg "int" = none
  bool : mg "bool" = none
  tuple : mg "tuple" = none
  len : mg "len" = none
  enumerate : mg "enumerate" = none
  range : mg "range" = none
  sorted : mg "sorted" = none
/-! ### is_integer -/
structure spIsInt (K : PySem.W.Frag) (vs : List V) (H : Hp) (Q : VK) (_ : XK) : Prop where
  h : ∃ (v : V) (t : Value) (b1 b2 : Bool), vs = [v] ∧ TyX K H v t ∧ PySem.W.kitOne K t (.type "int") = some b1 ∧ PySem.W.kitOne K t (.type "bool") = some b2 ∧ Q (.bl (b1 && !b2)) H
section
variable {P : Program} {w : World} {K : PySem.W.Frag} {mg : Str → Option Value} {base : Heap}
theorem scIsInt : FnScope ["value"] ["value"] (defScope sIsInt) := ⟨rfl, rfl, rfl, by decide +kernel, rfl, by decide +kernel, by decide +kernel⟩
theorem ok_isInt {f : Addr} {fd : FuncData} (F : Fun K "is_integer" "is_integer" sIsInt f fd) (T : Bt mg) : FnOk P w K mg base CX0 1 f fd ["value"] (spIsInt K) := by
  refine F.ok scIsInt (fun vs H Q E h => ?_) (fun cdv A outer s H vs Q E hr h => ?_)
  · obtain ⟨v, t, b1, b2, rfl, _⟩ := h.h
    rfl
  · obtain ⟨v, t, b1, b2, rfl, ty, k1, k2, k⟩ := h.h
    refine ⟨_, pss_one (ps_ret (pe_and (pe_callB call_isi (by rfl) T.isinstance (by decide +kernel) (pa_cons (pv 0) (pa_cons (pe_bltn (v := .ty "int") (by rfl) T.int (by decide +kernel) rfl) pa_nil)))
      (pe_one (pe_not (pe_callB call_isi (by rfl) T.isinstance (by decide +kernel) (pa_cons (pv 0) (pa_cons (pe_bltn (v := .ty "bool") (by rfl) T.bool (by decide +kernel) rfl) pa_nil))))))), ?_⟩
    refine ⟨_, rfl, _, _, t, _, b1, rfl, .ty "int", ty, k1, b1, rfl, ?_⟩
    cases b1 with
    | false => exact iteF k
    | true => exact iteT ⟨_, rfl, _, _, t, _, b2, rfl, .ty "bool", ty, k2, b2, rfl, k⟩
/-! ### is_drawer_count(value), is_drawer(drawers, value) -/
/-- an int as value: whether it is one; any other known thing: False -/
structure spIsCount (K : PySem.W.Frag) (vs : List V) (H : Hp) (Q : VK) (_ : XK) : Prop where
  h : (∃ n : Int, vs = [.int n] ∧ Q (.bl (decide (1 ≤ n) && decide (n ≤ 7))) H) ∨
  ∃ (v : V) (t : Value) (b1 b2 : Bool), vs = [v] ∧ TyX K H v t ∧ PySem.W.kitOne K t (.type "int") = some b1 ∧ PySem.W.kitOne K t (.type "bool") = some b2 ∧ (b1 && !b2) = false ∧ Q (.bl false) H
theorem scIsCount : FnScope ["value"] ["value"] (defScope sIsCount) := ⟨rfl, rfl, rfl, by decide +kernel, rfl, by decide +kernel, by decide +kernel⟩
theorem ok_isCount {f f1 : Addr} {fd fd1 : FuncData} (F : Fun K "is_drawer_count" "is_drawer_count" sIsCount f fd) (_T : Bt mg) (G : FnOk P w K mg base CX0 1 f1 fd1 ["value"] (spIsInt K)) (g1 : mg "is_integer" = some (.ref f1)) (k1 : PySem.W.keepIn K (.ref f1) = true) (b1 : Binds K fd1 ["value"] [])
    (gM : ∃ t, mg "MOST_DRAWERS" = some (.int 7 t)) : FnOk P w K mg base CX0 2 f fd ["value"] (spIsCount K) := by
  refine F.ok scIsCount (fun vs H Q E h => ?_) (fun cdv A outer s H vs Q E hr h => ?_)
  · rcases h.h with ⟨n, rfl, _⟩ | ⟨v, t, b1, b2, rfl, _⟩ <;> rfl
  · obtain ⟨tM, gM⟩ := gM
    refine ⟨_, pss_one (ps_ret (pe_and (pe_call G (hr.mono (by decide)) rfl g1 k1 b1 .nil pass0 (pa_cons (pv 0) pa_nil)) (pe_one (pe_chain op_le op_le pe_int (pv 0) (pe_glob (v := .int 7) rfl gM ⟨_, rfl⟩))))), ?_⟩
    rcases h.h with ⟨n, rfl, k⟩ | ⟨v, t, c1, c2, rfl, ty, e1, e2, e3, k⟩
    · refine ⟨_, rfl, ⟨.int n, .type "int", true, false, rfl, .base (.int n), kit_ty (by decide +kernel), kit_ty (by decide +kernel), true, rfl, iteT ?_⟩⟩
      refine ⟨_, rfl, _, _, rfl, rfl, _, rfl, ?_⟩
      by_cases h1 : 1 ≤ n
      · rw [decide_eq_true h1] at k ⊢
        exact iteT ⟨_, _, rfl, rfl, k⟩
      · rw [decide_eq_false h1] at k ⊢
        exact iteF k
    · refine ⟨_, rfl, ⟨v, t, c1, c2, rfl, ty, e1, e2, _, rfl, ?_⟩⟩
      rw [e3]
      exact iteF k
structure spIsDrawer (K : PySem.W.Frag) (vs : List V) (H : Hp) (Q : VK) (_ : XK) : Prop where
  h : ∃ n : Int, (∃ i : Int, vs = [.int n, .int i] ∧ Q (.bl (decide (0 ≤ i) && decide (i < n))) H) ∨
  ∃ (v : V) (t : Value) (b1 b2 : Bool), vs = [.int n, v] ∧ TyX K H v t ∧ PySem.W.kitOne K t (.type "int") = some b1 ∧ PySem.W.kitOne K t (.type "bool") = some b2 ∧ (b1 && !b2) = false ∧ Q (.bl false) H
theorem scIsDrawer : FnScope ["drawers", "value"] ["drawers", "value"] (defScope sIsDrawer) := ⟨rfl, rfl, rfl, by decide +kernel, rfl, by decide +kernel, by decide +kernel⟩
theorem ok_isDrawer {f f1 : Addr} {fd fd1 : FuncData} (F : Fun K "is_drawer" "is_drawer" sIsDrawer f fd) (_T : Bt mg) (G : FnOk P w K mg base CX0 1 f1 fd1 ["value"] (spIsInt K)) (g1 : mg "is_integer" = some (.ref f1)) (k1 : PySem.W.keepIn K (.ref f1) = true) (b1 : Binds K fd1 ["value"] []) :
    FnOk P w K mg base CX0 2 f fd ["drawers", "value"] (spIsDrawer K) := by
  refine F.ok scIsDrawer (fun vs H Q E h => ?_) (fun cdv A outer s H vs Q E hr h => ?_)
  · rcases h.h with ⟨n, ⟨i, rfl, _⟩ | ⟨v, t, b1, b2, rfl, _⟩⟩ <;> rfl
  · refine ⟨_, pss_one (ps_ret (pe_and (pe_call G (hr.mono (by decide)) rfl g1 k1 b1 .nil pass0 (pa_cons (pv 1) pa_nil)) (pe_one (pe_chain op_le op_lt pe_int (pv 1) (pv 0))))), ?_⟩
    rcases h.h with ⟨n, ⟨i, rfl, k⟩ | ⟨v, t, c1, c2, rfl, ty, e1, e2, e3, k⟩⟩
    · refine ⟨_, rfl, ⟨.int i, .type "int", true, false, rfl, .base (.int i), kit_ty (by decide +kernel), kit_ty (by decide +kernel), true, rfl, iteT ?_⟩⟩
      refine ⟨_, rfl, _, _, rfl, rfl, _, rfl, ?_⟩
      by_cases h1 : 0 ≤ i
      · rw [decide_eq_true h1] at k ⊢
        exact iteT ⟨_, rfl, _, _, rfl, rfl, k⟩
      · rw [decide_eq_false h1] at k ⊢
        exact iteF k
    · refine ⟨_, rfl, ⟨v, t, c1, c2, rfl, ty, e1, e2, _, rfl, ?_⟩⟩
      rw [e3]
      exact iteF k
end
end DL

set_option Elab.async false
set_option maxRecDepth 100000
namespace DL
open PySem L2
/-! ### is_bar -/
def scV : V → Bool
  | .non => true | .bl _ => true | .int _ => true | .str _ => true | _ => false
def isD (n : Int) : V → Bool
  | .int i => decide (0 ≤ i) && decide (i < n)
  | _ => false
def inW : V → Bool
  | .str z => decide (z = "open") || decide (z = "shut")
  | _ => false
def barB (n : Int) (x0 x1 x2 x3 : V) : Bool := isD n x0 && (isD n x2 && (!decide (x0 = x2) && (inW x1 && inW x3)))
theorem inW_in (x : V) (h : scV x = true) : inV x [.str "open", .str "shut"] = inW x ∧ flatV x = true := by
  have z1 : ∀ z : Str, ((("open" : Str) == z) || ((("shut" : Str) == z) || false)) = (decide (z = "open") || decide (z = "shut")) := fun z => by
    rw [beq_dec, beq_dec, Bool.or_false]
    congr 1
    · exact decide_eq_decide.mpr ⟨Eq.symm, Eq.symm⟩
    · exact decide_eq_decide.mpr ⟨Eq.symm, Eq.symm⟩
  cases x with
  | str z => exact ⟨z1 z, rfl⟩
  | non => exact ⟨rfl, rfl⟩
  | bl b => exact ⟨rfl, rfl⟩
  | int i => exact ⟨rfl, rfl⟩
  | _ => cases h
theorem spIsDrawer_sc {K : PySem.W.Frag} {n : Int} {x : V} {H : Hp} {Q : VK} {E : XK} (hx : scV x = true) (k : Q (.bl (isD n x)) H) : spIsDrawer K [.int n, x] H Q E := by
  cases x with
  | int i => exact ⟨⟨n, .inl ⟨i, rfl, k⟩⟩⟩
  | non => exact ⟨⟨n, .inr ⟨.non, .type "NoneType", false, false, rfl, .base .non, kit_ty (by decide +kernel), kit_ty (by decide +kernel), rfl, k⟩⟩⟩
  | bl b => exact ⟨⟨n, .inr ⟨.bl b, .type "bool", true, true, rfl, .base (.bl b), kit_ty (by decide +kernel), kit_ty (by decide +kernel), rfl, k⟩⟩⟩
  | str z => exact ⟨⟨n, .inr ⟨.str z, .type "str", false, false, rfl, .base (.str z), kit_ty (by decide +kernel), kit_ty (by decide +kernel), rfl, k⟩⟩⟩
  | _ => cases hx
theorem tyT {K : PySem.W.Frag} {H : Hp} {a : Addr} {xs : List V} (h : SqT K H a xs) : TyX K H (.ref a) (.type "tuple") := by
  rcases h with (h | ⟨o, h⟩) | ⟨o, its, n, h1, h2, _⟩
  · exact .base (.tup h)
  · exact .fTuple h
  · exact .kTuple h1 h2
structure spIsBar (K : PySem.W.Frag) (vs : List V) (H : Hp) (Q : VK) (_ : XK) : Prop where
  h : ∃ n : Int, (∃ (v : V) (t : Value), vs = [.int n, v] ∧ TyX K H v t ∧ PySem.W.kitOne K t (.type "tuple") = some false ∧ Q (.bl false) H) ∨
  (∃ (a : Addr) (xs : List V), vs = [.int n, .ref a] ∧ SqT K H a xs ∧ xs.length ≠ 4 ∧ Q (.bl false) H) ∨
  ∃ (a : Addr) (x0 x1 x2 x3 : V), vs = [.int n, .ref a] ∧ SqT K H a [x0, x1, x2, x3] ∧ scV x0 = true ∧ scV x1 = true ∧ scV x2 = true ∧ scV x3 = true ∧ Q (.bl (barB n x0 x1 x2 x3)) H
section
variable {P : Program} {w : World} {K : PySem.W.Frag} {mg : Str → Option Value} {base : Heap}
theorem scIsBar : FnScope ["drawers", "value", "drawer", "way", "other", "stand"] ["drawers", "value"] (defScope sIsBar) := ⟨rfl, rfl, rfl, by decide +kernel, rfl, by decide +kernel, by decide +kernel⟩
theorem ok_isBar {f f1 : Addr} {fd fd1 : FuncData} (F : Fun K "is_bar" "is_bar" sIsBar f fd) (T : Bt mg) (G : FnOk P w K mg base CX0 2 f1 fd1 ["drawers", "value"] (spIsDrawer K)) (g1 : mg "is_drawer" = some (.ref f1)) (k1 : PySem.W.keepIn K (.ref f1) = true) (b1 : Binds K fd1 ["drawers", "value"] [])
    (gW : ∃ aW, mg "WORDS" = some (.ref aW) ∧ ∀ H, SqT K H aW [.str "open", .str "shut"]) : FnOk P w K mg base CX0 3 f fd ["drawers", "value"] (spIsBar K) := by
  refine F.ok scIsBar (fun vs H Q E h => ?_) (fun cdv A outer s H vs Q E hr h => ?_)
  · rcases h.h with ⟨n, ⟨v, t, rfl, _⟩ | ⟨a, xs, rfl, _⟩ | ⟨a, x0, x1, x2, x3, rfl, _⟩⟩ <;> rfl
  · obtain ⟨aW, gW, hW⟩ := gW
    refine ⟨_, pss_cons (ps_if (PW.pt (pw_or (pt_not (pt_val (pe_callB call_isi (by rfl) T.isinstance (by decide +kernel) (pa_cons (pv 1) (pa_cons (pe_bltn (v := .ty "tuple") (by rfl) T.tuple (by decide +kernel) rfl) pa_nil)))))
        (pw_or1 (pt_cmpR op_ne (pe_callB call_len_seq (by rfl) T.len PySem.boot_len (pa_cons (pv 1) pa_nil)) pe_int (nomark _))))) (pss_one (ps_ret pe_bl)) pss_nil)
      (pss_cons (ps_asg (pv 1) (pg_tup (by rfl) (pgs_cons (pg_name (i := 2) scIsBar.nd rfl (.inl rfl)) (pgs_cons (pg_name (i := 3) scIsBar.nd rfl (.inl rfl)) (pgs_cons (pg_name (i := 4) scIsBar.nd rfl (.inl rfl)) (pgs_cons (pg_name (i := 5) scIsBar.nd rfl (.inl rfl)) pgs_nil))))))
      (pss_cons (ps_if (PW.pt (pw_or (pt_not (pt_val (pe_call G (hr.mono (by decide)) rfl g1 k1 b1 .nil pass0 (pa_cons (pv 0) (pa_cons (pv 2) pa_nil))))) (pw_or1 (pt_not (pt_val (pe_call G (hr.mono (by decide)) rfl g1 k1 b1 .nil pass0 (pa_cons (pv 0) (pa_cons (pv 4) pa_nil)))))))) (pss_one (ps_ret pe_bl)) pss_nil)
      (pss_one (ps_ret (pe_and (pe_cmpR op_ne (pv 2) (pv 4) (nomark _)) (pe_and (pe_cmpR op_in_seq (pv 3) (pe_glob (v := .ref aW) rfl gW rfl) (by rfl)) (pe_one (pe_cmpR op_in_seq (pv 5) (pe_glob (v := .ref aW) rfl gW rfl) (by rfl))))))))), ?_⟩
    rcases h.h with ⟨n, ⟨v, t, rfl, ty, e, k⟩ | ⟨a, xs, rfl, hq, hl, k⟩ | ⟨a, x0, x1, x2, x3, rfl, hq, c0, c1, c2, c3, k⟩⟩
    · exact ⟨_, rfl, _, _, t, _, false, rfl, .ty "tuple", ty, e, _, rfl, iteT (iteT k)⟩
    · refine ⟨_, rfl, _, _, _, _, true, rfl, .ty "tuple", tyT hq, kit_ty (by decide +kernel), _, rfl, iteF ?_⟩
      refine ⟨_, rfl, a, xs, rfl, .inr hq, rfl, _, rfl, ?_⟩
      refine ite2 (fun _ => k) (fun z => ?_)
      exact absurd (show (.int (xs.length : Int) : V) = .int 4 by simpa using z) (fun q => hl (by injection q with q; omega))
    · refine ⟨_, rfl, _, _, _, _, true, rfl, .ty "tuple", tyT hq, kit_ty (by decide +kernel), _, rfl, iteF ?_⟩
      refine ⟨_, rfl, a, _, rfl, .inr hq, rfl, _, rfl, iteF ?_⟩
      refine ⟨_, rfl, a, _, rfl, hq, rfl, x0, _, rfl, x1, _, rfl, x2, _, rfl, x3, _, rfl, rfl, ?_⟩
      refine ⟨_, rfl, _, rfl, ?_⟩
      refine spIsDrawer_sc c0 ⟨_, rfl, ?_⟩
      unfold barB at k
      cases d0 : isD n x0 with
      | false => rw [d0] at k; exact iteT (iteT k)
      | true =>
        rw [d0] at k
        refine iteF ⟨_, rfl, _, rfl, ?_⟩
        refine spIsDrawer_sc c2 ⟨_, rfl, ?_⟩
        cases d2 : isD n x2 with
        | false => rw [d2] at k; exact iteT k
        | true =>
          rw [d2] at k
          refine iteF ?_
          obtain ⟨i0, rfl⟩ : ∃ i, x0 = .int i := by cases x0 <;> first | exact ⟨_, rfl⟩ | cases d0
          obtain ⟨i2, rfl⟩ : ∃ i, x2 = .int i := by cases x2 <;> first | exact ⟨_, rfl⟩ | cases d2
          refine ⟨_, rfl, _, rfl, rfl, _, rfl, ?_⟩
          have k' : Q (.bl (!decide ((.int i0 : V) = .int i2) && (inW x1 && inW x3))) H := k
          cases e : decide ((.int i0 : V) = .int i2) with
          | true => rw [e] at k'; exact iteF k'
          | false =>
            rw [e] at k'
            refine iteT ⟨_, rfl, aW, _, rfl, .inr (hW H), (inW_in x1 c1).2, rfl, _, rfl, ?_⟩
            show if inV x1 _ = true then _ else _
            rw [(inW_in x1 c1).1]
            have k'' : Q (.bl (inW x1 && inW x3)) H := k'
            cases e1 : inW x1 with
            | false => rw [e1] at k''; exact iteF k''
            | true =>
              rw [e1] at k''
              refine iteT ⟨_, rfl, aW, _, rfl, .inr (hW H), (inW_in x3 c3).2, rfl, ?_⟩
              show Q (.bl (inV x3 _)) H
              rw [(inW_in x3 c3).1]
              exact k''
end
end DL

set_option Elab.async false
set_option maxRecDepth 100000
namespace DL
open PySem L2
/-! ### bars of the heap -/
structure BarsAt (H : Hp) (t : Addr) (ks : List (Addr × Bar)) : Prop where
  tu : H t = some (.tup (ks.map fun k => V.ref k.1))
  el : ∀ k ∈ ks, H k.1 = some (.tup k.2.vs)
theorem BarsAt.same {H H' : Hp} {t : Addr} {ks : List (Addr × Bar)} (B : BarsAt H t ks) (s : Same H H') : BarsAt H' t ks := ⟨s _ _ B.tu, fun k hk => s _ _ (B.el k hk)⟩
def Bar.ok (n : Int) (b : Bar) : Prop := 0 ≤ b.d ∧ b.d < n ∧ 0 ≤ b.o ∧ b.o < n ∧ b.d ≠ b.o
theorem Bar.ok.low {n : Int} {b : Bar} (h : b.ok n) (hn : n ≤ 7) : b.low := by
  obtain ⟨h1, h2, h3, h4, _⟩ := h
  exact ⟨h1, by omega, h3, by omega⟩
structure OkBars (n : Int) (bs : List Bar) : Prop where
  ok : ∀ b ∈ bs, b.ok n
  asc : bs.Pairwise fun x y => x.code < y.code
theorem inW_wd (b : Bool) : inW (.str (wd b)) = true := by revert b; decide +kernel
theorem barB_ok {n : Int} {b : Bar} (h : b.ok n) : barB n (.int b.d) (.str (wd b.w)) (.int b.o) (.str (wd b.t)) = true := by
  obtain ⟨h1, h2, h3, h4, h5⟩ := h
  unfold barB
  rw [inW_wd, inW_wd]
  show ((decide (0 ≤ b.d) && decide (b.d < n)) && ((decide (0 ≤ b.o) && decide (b.o < n)) && (!decide ((.int b.d : V) = .int b.o) && true))) = true
  have e : decide ((.int b.d : V) = .int b.o) = false := decide_eq_false fun q => h5 (by injection q)
  rw [decide_eq_true h1, decide_eq_true h2, decide_eq_true h3, decide_eq_true h4, e]
  rfl
theorem spIsBar_ok {K : PySem.W.Frag} {n : Int} {a : Addr} {b : Bar} {H : Hp} {Q : VK} {E : XK} (h : b.ok n) (ha : SqT K H a b.vs) (k : Q (.bl true) H) : spIsBar K [.int n, .ref a] H Q E :=
  ⟨⟨n, .inr (.inr ⟨a, _, _, _, _, rfl, ha, rfl, rfl, rfl, rfl, by rw [barB_ok h]; exact k⟩)⟩⟩
theorem SqT.of' {K : PySem.W.Frag} {H : Hp} {a : Addr} {xs : List V} (h : H a = some (.tup xs)) : SqT K H a xs := .inl (.inl h)
theorem same_upd {H : Hp} {p : Addr} {o : HO} (h : H p = none) : Same H (upd H p o) := fun b u e => by rw [upd_ne (ne_of_none e h)]; exact e
theorem at_prev {α : Type} {xs : List α} {i : Nat} {v : α} (h0 : 0 < i) (h : xs[i - 1]? = some v) : atI xs ((i : Int) - 1) = some v := by
  have e : (i : Int) - 1 = ((i - 1 : Nat) : Int) := by omega
  rw [e]
  exact atI_nat h
theorem pw_prev {bs : List Bar} (h : bs.Pairwise fun x y => x.code < y.code) {i : Nat} (h0 : 0 < i) {x y : Bar} (hx : bs[i - 1]? = some x) (hy : bs[i]? = some y) : x.code < y.code := by
  obtain ⟨l1, e1⟩ := List.getElem?_eq_some_iff.mp hx
  obtain ⟨l2, e2⟩ := List.getElem?_eq_some_iff.mp hy
  have := List.pairwise_iff_getElem.mp h (i - 1) i l1 l2 (by omega)
  rw [e1, e2] at this
  exact this
theorem not_leq {n : Int} {x y : Bar} (hn : n ≤ 7) (hx : x.ok n) (hy : y.ok n) (h : x.code < y.code) : y.leq x = false := by
  rw [Bar.leq_code (hy.low hn) (hx.low hn)]
  exact decide_eq_false (by omega)
/-! ### check_drawers, check_bars, __init__ of what is right -/
structure spCheckDrawers (vs : List V) (H : Hp) (Q : VK) (_ : XK) : Prop where
  h : ∃ n : Int, vs = [.int n] ∧ 1 ≤ n ∧ n ≤ 7 ∧ Q .non H
structure spCheckBars (vs : List V) (H : Hp) (Q : VK) (_ : XK) : Prop where
  h : ∃ (n : Int) (t : Addr) (ks : List (Addr × Bar)), vs = [.int n, .ref t] ∧ n ≤ 7 ∧ BarsAt H t ks ∧ OkBars n (ks.map (·.2)) ∧ ∀ H', Same H H' → Q .non H'
theorem kd_ : ¬ (("_drawers" : Str) = "_bars") := by decide +kernel
def cfl (n : Int) (t : Addr) : List (Str × V) := putF "_bars" (.ref t) (putF "_drawers" (.int n) [])
theorem cfl_d (n : Int) (t : Addr) : (cfl n t).lookup ("_drawers" : Str) = some (.int n) := by
  unfold cfl
  rw [lookup_putF, if_neg kd_, lookup_putF, if_pos rfl]
theorem cfl_b (n : Int) (t : Addr) : (cfl n t).lookup ("_bars" : Str) = some (.ref t) := by
  unfold cfl
  rw [lookup_putF, if_pos rfl]
/-- a Cabinet stands at c -/
def CabAt (C : Addr) (H : Hp) (c : Addr) (n : Int) (t : Addr) : Prop := ∃ dx, H c = some (.ins C dx (cfl n t))
structure spInit (C : Addr) (vs : List V) (H : Hp) (Q : VK) (_ : XK) : Prop where
  h : ∃ (p dx : Addr) (n : Int) (t : Addr) (ks : List (Addr × Bar)), vs = [.ref p, .int n, .ref t] ∧ H p = some (.ins C dx []) ∧ 1 ≤ n ∧ n ≤ 7 ∧ BarsAt H t ks ∧ OkBars n (ks.map (·.2)) ∧
    ∀ H', H' p = some (.ins C dx (cfl n t)) → (∀ b o, b ≠ p → H b = some o → H' b = some o) → Q .non H'
/-- the class -/
structure CabT (K : PySem.W.Frag) (mg : Str → Option Value) (C : Addr) : Prop where
  cl : Cls K C
  nD : NoAttr K C "_drawers"
  nB : NoAttr K C "_bars"
  mgC : mg "Cabinet" = some (.ref C)
section
variable {P : Program} {w : World} {K : PySem.W.Frag} {mg : Str → Option Value} {base : Heap}
theorem scCheckDrawers : FnScope ["drawers"] ["drawers"] (defScope sCheckDrawers) := ⟨rfl, rfl, rfl, by decide +kernel, rfl, by decide +kernel, by decide +kernel⟩
theorem ok_checkDrawers {f f1 : Addr} {fd fd1 : FuncData} (F : Fun K "check_drawers" "check_drawers" sCheckDrawers f fd) (G : FnOk P w K mg base CX0 2 f1 fd1 ["value"] (spIsCount K)) (g1 : mg "is_drawer_count" = some (.ref f1)) (k1 : PySem.W.keepIn K (.ref f1) = true) (b1 : Binds K fd1 ["value"] []) :
    FnOk P w K mg base CX0 3 f fd ["drawers"] spCheckDrawers := by
  refine F.ok scCheckDrawers (fun vs H Q E h => ?_) (fun cdv A outer s H vs Q E hr h => ?_)
  · obtain ⟨n, rfl, _⟩ := h.h
    rfl
  · obtain ⟨n, rfl, h1, h2, k⟩ := h.h
    refine ⟨_, pss_one (ps_if (pt_not (pt_val (pe_call G (hr.mono (by decide)) rfl g1 k1 b1 .nil pass0 (pa_cons (pv 0) pa_nil)))) (pss_one ps_never) pss_nil), ?_⟩
    refine ⟨_, rfl, ⟨.inl ⟨n, rfl, _, rfl, ?_⟩⟩⟩
    rw [decide_eq_true h1, decide_eq_true h2]
    exact iteF k
theorem scCheckBars : FnScope ["drawers", "bars", "index", "bar"] ["drawers", "bars"] (defScope sCheckBars) := ⟨rfl, rfl, rfl, by decide +kernel, rfl, by decide +kernel, by decide +kernel⟩
theorem ok_checkBars {f f1 : Addr} {fd fd1 : FuncData} (F : Fun K "check_bars" "check_bars" sCheckBars f fd) (T : Bt mg) (G : FnOk P w K mg base CX0 3 f1 fd1 ["drawers", "value"] (spIsBar K)) (g1 : mg "is_bar" = some (.ref f1)) (k1 : PySem.W.keepIn K (.ref f1) = true) (b1 : Binds K fd1 ["drawers", "value"] []) :
    FnOk P w K mg base CX0 4 f fd ["drawers", "bars"] spCheckBars := by
  refine F.ok scCheckBars (fun vs H Q E h => ?_) (fun cdv A outer s H vs Q E hr h => ?_)
  · obtain ⟨n, t, ks, rfl, _⟩ := h.h
    rfl
  · obtain ⟨n, t, ks, rfl, hn, B, O, k⟩ := h.h
    have hu : _ < cLine := hr.units0
    refine ⟨_, pss_cons (ps_if (pt_not (pt_val (pe_callB call_isi (by rfl) T.isinstance (by decide +kernel) (pa_cons (pv 1) (pa_cons (pe_bltn (v := .ty "tuple") (by rfl) T.tuple (by decide +kernel) rfl) pa_nil))))) (pss_one ps_never) pss_nil)
      (pss_one (ps_for PassesOwn.never rfl (pi_enumT (by rfl) T.enumerate (pa_cons (pv 1) pa_nil)) (pg_tup (by rfl) (pgs_cons (pg_name (i := 2) scCheckBars.nd rfl (.inl rfl)) (pgs_cons (pg_name (i := 3) scCheckBars.nd rfl (.inl rfl)) pgs_nil)))
        (pss_cons (ps_if (pt_not (pt_val (pe_call G (hr.mono (by decide)) rfl g1 k1 b1 .nil pass0 (pa_cons (pv 0) (pa_cons (pv 3) pa_nil))))) (pss_one ps_never) pss_nil)
        (pss_one (ps_if (PW.pt (pw_and (pt_cmpR op_gt (pv 2) pe_int (nomark _)) (pw_and1 (pt_cmpR (op_leB hu) (pv 3) (pe_ix ix_tup (pv 1) (pe_op op_sub (pv 2) pe_int) (fun _ _ => rfl)) (nomark _))))) (pss_one ps_never) pss_nil))))), ?_⟩
    refine ⟨_, rfl, _, _, _, _, true, rfl, .ty "tuple", tyT (SqT.of' B.tu), kit_ty (by decide +kernel), _, rfl, iteF ?_⟩
    refine ⟨_, rfl, t, _, rfl, SqT.of' B.tu, ?_⟩
    refine for_it walk_enumT (fun i σ H' => ∃ v2 v3, σ = [some (.int n), some (.ref t), v2, v3] ∧ Same H H') ⟨_, _, rfl, Same.refl H⟩ (fun i σ H' _ ⟨_, _, _, s1⟩ => SqT.of' (s1 _ _ B.tu)) ?_ ?_
    · rintro i x σ H1 H2 hi ⟨v2, v3, rfl, s1⟩ ⟨T, x1, x2, rfl, hT, rfl, e1, e2⟩
      have e1' : V.int (i : Nat) = x1 := Option.some.inj e1
      subst e1'
      have e2 : (ks.map fun k => V.ref k.1)[i]? = some x2 := e2
      rw [List.getElem?_map] at e2
      cases ek : ks[i]? with
      | none => rw [ek] at e2; cases e2
      | some kk =>
        rw [ek] at e2
        have e2' : V.ref kk.1 = x2 := Option.some.inj e2
        subst e2'
        have s2 : Same H (upd H1 T (.tup [.int (i : Nat), .ref kk.1])) := s1.trans (same_upd hT)
        have hm : kk ∈ ks := List.mem_of_getElem? ek
        have hok : kk.2.ok n := O.ok _ (List.mem_map.mpr ⟨kk, hm, rfl⟩)
        refine ⟨T, _, rfl, SqT.of' upd_same, rfl, _, _, rfl, _, _, rfl, rfl, ?_⟩
        refine ⟨_, rfl, _, rfl, spIsBar_ok hok (SqT.of' (s2 _ _ (B.el kk hm))) ⟨_, rfl, iteF ?_⟩⟩
        refine ⟨_, rfl, _, _, rfl, rfl, _, rfl, ?_⟩
        refine ite2 (fun z => ?_) (fun z => iteF ⟨_, _, rfl, s2⟩)
        have h0 : 0 < i := by have := of_decide_eq_true z; omega
        obtain ⟨kp, ep⟩ : ∃ kp, ks[i - 1]? = some kp := by
          have := (List.getElem?_eq_some_iff.mp ek).1
          exact ⟨ks[i - 1]'(by omega), List.getElem?_eq_getElem (by omega)⟩
        have hmp : kp ∈ ks := List.mem_of_getElem? ep
        have hokp : kp.2.ok n := O.ok _ (List.mem_map.mpr ⟨kp, hmp, rfl⟩)
        refine ⟨_, rfl, _, rfl, _, rfl, _, _, rfl, rfl, t, _, _, .ref kp.1, rfl, rfl, SqT.of' (s2 _ _ B.tu), at_prev h0 (by rw [List.getElem?_map, ep]; rfl), ?_⟩
        refine ⟨kk.1, kp.1, kk.2, kp.2, rfl, rfl, SqT.of' (s2 _ _ (B.el kk hm)), SqT.of' (s2 _ _ (B.el kp hmp)), _, rfl, ?_⟩
        have hlt : kp.2.code < kk.2.code := pw_prev O.asc h0 (by rw [List.getElem?_map, ep]; rfl) (by rw [List.getElem?_map, ek]; rfl)
        rw [not_leq hn hokp hok hlt]
        exact iteF ⟨_, _, rfl, s2⟩
    · rintro σ H' ⟨v2, v3, rfl, s1⟩
      exact k H' s1
theorem scInit : FnScope ["self", "drawers", "bars"] ["self", "drawers", "bars"] (defScope sInit) := ⟨rfl, rfl, rfl, by decide +kernel, rfl, by decide +kernel, by decide +kernel⟩
theorem ok_init {f f1 f2 C : Addr} {fd fd1 fd2 : FuncData} (F : Fun K "__init__" "Cabinet.__init__" sInit f fd) (T : CabT K mg C) (G1 : FnOk P w K mg base CX0 3 f1 fd1 ["drawers"] spCheckDrawers) (g1 : mg "check_drawers" = some (.ref f1)) (k1 : PySem.W.keepIn K (.ref f1) = true) (b1 : Binds K fd1 ["drawers"] [])
    (G2 : FnOk P w K mg base CX0 4 f2 fd2 ["drawers", "bars"] spCheckBars) (g2 : mg "check_bars" = some (.ref f2)) (k2 : PySem.W.keepIn K (.ref f2) = true) (b2 : Binds K fd2 ["drawers", "bars"] []) : FnOk P w K mg base CX0 5 f fd ["self", "drawers", "bars"] (spInit C) := by
  refine F.ok scInit (fun vs H Q E h => ?_) (fun cdv A outer s H vs Q E hr h => ?_)
  · obtain ⟨p, dx, n, t, ks, rfl, _⟩ := h.h
    rfl
  · obtain ⟨p, dx, n, t, ks, rfl, hp, h1, h7, B, O, k⟩ := h.h
    refine ⟨_, pss_cons (ps_expr (pe_call G1 (hr.mono (by decide)) rfl g1 k1 b1 .nil pass0 (pa_cons (pv 1) pa_nil))) (pss_cons (ps_expr (pe_call G2 (hr.mono (by decide)) rfl g2 k2 b2 .nil pass0 (pa_cons (pv 1) (pa_cons (pv 2) pa_nil))))
      (pss_cons (ps_fld (pv 0) (pv 1) rfl) (pss_one (ps_fld (pv 0) (pv 2) rfl)))), ?_⟩
    refine ⟨_, rfl, ⟨n, rfl, h1, h7, ?_⟩⟩
    refine ⟨_, rfl, _, rfl, ⟨n, t, ks, rfl, h7, B, O, fun H1 s1 => ?_⟩⟩
    refine ⟨_, rfl, _, rfl, p, C, dx, _, rfl, s1 _ _ hp, T.cl, T.nD, (by show 0 < 1000; decide), _, rfl, _, rfl, p, C, dx, _, rfl, upd_same, T.cl, T.nB, (by show 1 < 1000; decide), ?_⟩
    refine k _ upd_same fun b o hb e => ?_
    rw [upd_ne hb, upd_ne hb]
    exact s1 _ _ e
end
end DL

set_option Elab.async false
set_option maxRecDepth 100000
namespace DL
open PySem L2
/-! ### drawing: the row of draws stands at r, the script at sc -/
def But (r : Addr) (H H' : Hp) : Prop := ∀ b o, b ≠ r → H b = some o → H' b = some o
theorem But.refl (r : Addr) (H : Hp) : But r H H := fun _ _ _ h => h
theorem But.trans {r : Addr} {H H1 H2 : Hp} (a : But r H H1) (b : But r H1 H2) : But r H H2 := fun c o hc h => b c o hc (a c o hc h)
theorem sbut {r : Addr} {H H' : Hp} (s : Same H H') : But r H H' := fun c o _ h => s c o h
theorem but_upd {r : Addr} {H : Hp} {o : HO} : But r H (upd H r o) := fun c u hc h => by rw [upd_ne hc]; exact h
theorem But.seq {K : PySem.W.Frag} {r : Addr} {H H' : Hp} {a : Addr} {xs : List V} (s : But r H H') (ha : a ≠ r) (h : SqL K H a xs) : SqL K H' a xs := by
  rcases h with (h | ⟨o, h⟩) | h
  · exact .inl (.inl (s _ _ ha h))
  · exact .inl (.inr ⟨o, s _ _ ha h⟩)
  · exact .inr h
theorem But.tup {r : Addr} {H H' : Hp} {a : Addr} {xs : List V} {ys : List V} (s : But r H H') (hr : H r = some (.lst ys)) (h : H a = some (.tup xs)) : H' a = some (.tup xs) :=
  s _ _ (ne_of h hr (by intro z; cases z)) h
structure RowOk (H : Hp) (r sc : Addr) : Prop where
  h : ∃ i m e : Int, H r = some (.lst [.ref sc, .int i, .int m, .int e]) ∧ 0 ≤ i ∧ 0 ≤ m ∧ m < 2147483647 ∧ 0 ≤ e
theorem RowOk.same {H H' : Hp} {r sc : Addr} (R : RowOk H r sc) (s : Same H H') : RowOk H' r sc := by
  obtain ⟨i, m, e, h, q⟩ := R.h
  exact ⟨⟨i, m, e, s _ _ h, q⟩⟩
theorem But.seqR {K : PySem.W.Frag} {r sc : Addr} {H H' : Hp} {a : Addr} {ns : List Int} (s : But r H H') (R : RowOk H r sc) (h : SqL K H a (ns.map V.int)) : SqL K H' a (ns.map V.int) := by
  obtain ⟨i, m, e, hR, _⟩ := R.h
  have nd : ∀ u : HO, H a = some u → u ≠ .lst [.ref sc, .int i, .int m, .int e] → a ≠ r := fun u hu hn z => by
    rw [z, hR] at hu
    exact hn (Option.some.inj hu).symm
  rcases h with (h | ⟨o, h⟩) | h
  · refine .inl (.inl (s _ _ (nd _ h fun z => ?_) h))
    injection z with z
    cases ns with
    | nil => cases z
    | cons n ns => injection z with z _; cases z
  · exact .inl (.inr ⟨o, s _ _ (nd _ h fun z => by cases z) h⟩)
  · exact .inr h
structure spTaken (K : PySem.W.Frag) (vs : List V) (H : Hp) (Q : VK) (_ : XK) : Prop where
  h : ∃ (r sc : Addr) (ns : List Int) (many : Int), vs = [.ref r, .int many] ∧ RowOk H r sc ∧ SqL K H sc (ns.map V.int) ∧ 1 ≤ many ∧ many ≤ 1000 ∧
    ∀ (v : Int) (H' : Hp), 0 ≤ v → v < many → RowOk H' r sc → But r H H' → Q (.int v) H'
section
variable {P : Program} {w : World} {K : PySem.W.Frag} {mg : Str → Option Value} {base : Heap}
theorem scTaken : FnScope ["_law_row", "_law_many", "_law_found", "_law_cell"] ["_law_row", "_law_many"] (defScope sTaken) := ⟨rfl, rfl, rfl, by decide +kernel, rfl, by decide +kernel, by decide +kernel⟩
theorem ok_taken {f : Addr} {fd : FuncData} (F : Fun K "_law_taken" "_law_taken" sTaken f fd) (T : Bt mg) : FnOk P w K mg base CX0 1 f fd ["_law_row", "_law_many"] (spTaken K) := by
  refine F.ok scTaken (fun vs H Q E h => ?_) (fun cdv A outer s H vs Q E hr h => ?_)
  · obtain ⟨r, sc, ns, many, rfl, _⟩ := h.h
    rfl
  · obtain ⟨r, sc, ns, many, rfl, R, S, h1, h2, k⟩ := h.h
    obtain ⟨i, m, e, hR, hi, hm0, hm, he⟩ := R.h
    have dv : CDivW e many := wide_div (b := 10) (by omega) (by omega) (by decide) (by decide)
    refine ⟨_, pss_cons (ps_if (pt_cmpR op_gt (pe_ix ix_list (pv 0) pe_int (fun _ _ => rfl)) pe_int (nomark _))
        (pss_cons (ps_set (i := 2) scTaken.nd rfl (.inl rfl) (pe_op op_mod (pe_callTy call_int1 (by rfl) T.int (by decide +kernel) (pa_cons (pe_ix ix_list (pv 0) pe_int (fun _ _ => rfl)) pa_nil)) (pv 1)))
        (pss_cons (ps_asg (pe_op op_fdivW (pe_ix ix_list (pv 0) pe_int (fun _ _ => rfl)) (pv 1)) (pg_sub (pv 0) pe_int set_list))
        (pss_one (ps_ret (pv 2))))) pss_nil)
      (pss_cons (ps_asg (pe_op op_add (pe_ix ix_list (pv 0) pe_int (fun _ _ => rfl)) pe_int) (pg_sub (pv 0) pe_int set_list))
      (pss_cons (ps_if (pt_cmpR op_gt (pe_ix ix_list (pv 0) pe_int (fun _ _ => rfl)) (pe_callB call_len_seq (by rfl) T.len PySem.boot_len (pa_cons (pe_ix ix_list (pv 0) pe_int (fun _ _ => rfl)) pa_nil)) (nomark _))
        (pss_cons (ps_asg (pe_op op_mod (pe_callTy call_int1 (by rfl) T.int (by decide +kernel) (pa_cons (pe_op op_add (pe_op op_mul (pe_ix ix_list (pv 0) pe_int (fun _ _ => rfl)) pe_int) pe_int) pa_nil)) pe_int) (pg_sub (pv 0) pe_int set_list))
        (pss_one (ps_ret (pe_op op_mod (pe_callTy call_int1 (by rfl) T.int (by decide +kernel) (pa_cons (pe_op op_fdiv (pe_ix ix_list (pv 0) pe_int (fun _ _ => rfl)) pe_int) pa_nil)) (pv 1))))) pss_nil)
      (pss_cons (ps_set (i := 3) scTaken.nd rfl (.inl rfl) (pe_ix ix_list (pe_ix ix_list (pv 0) pe_int (fun _ _ => rfl)) (pe_op op_sub (pe_ix ix_list (pv 0) pe_int (fun _ _ => rfl)) pe_int) (fun _ _ => rfl)))
      (pss_cons (ps_asg (pe_op op_mod (pe_callTy call_int1 (by rfl) T.int (by decide +kernel) (pa_cons (pe_op op_add (pe_op op_add (pe_op op_mul (pe_ix ix_list (pv 0) pe_int (fun _ _ => rfl)) pe_int) (pv 3)) pe_int) pa_nil)) pe_int) (pg_sub (pv 0) pe_int set_list))
      (pss_cons (ps_if (pt_cmpR op_ge (pv 3) (pe_op op_pow pe_int pe_int) (nomark _)) (pss_one (ps_asg (pe_op op_fdivW (pv 3) (pv 1)) (pg_sub (pv 0) pe_int set_list))) pss_nil)
      (pss_one (ps_ret (pe_op op_mod (pe_callTy call_int1 (by rfl) T.int (by decide +kernel) (pa_cons (pv 3) pa_nil)) (pv 1))))))))), ?_⟩
    refine ⟨_, rfl, r, _, _, .int e, rfl, rfl, SqL.of hR, rfl, _, _, rfl, rfl, _, rfl, ?_⟩
    refine ite2 (fun z => ?_) (fun _ => ?_)
    · refine ⟨_, rfl, r, _, _, .int e, rfl, rfl, SqL.of hR, rfl, .inl ⟨_, rfl, _, rfl, _, _, rfl, rfl, (by omega), ?_⟩⟩
      refine ⟨_, rfl, r, _, _, .int e, rfl, rfl, SqL.of hR, rfl, _, rfl, _, _, rfl, rfl, dv, ?_⟩
      refine ⟨_, rfl, r, _, _, 3, rfl, rfl, hR, rfl, _, rfl, ?_⟩
      exact k _ _ (Int.emod_nonneg _ (by omega)) (Int.emod_lt_of_pos _ (by omega)) ⟨⟨i, m, e / many, upd_same, hi, hm0, hm, Int.ediv_nonneg he (by omega)⟩⟩ but_upd
    · refine ⟨_, rfl, r, _, _, .int i, rfl, rfl, SqL.of hR, rfl, _, _, rfl, rfl, ?_⟩
      refine ⟨_, rfl, r, _, _, 1, rfl, rfl, hR, rfl, ?_⟩
      have S1 : SqL K (upd H r (.lst [.ref sc, .int (i + 1), .int m, .int e])) sc (ns.map V.int) := but_upd.seqR R S
      refine ⟨_, rfl, r, _, _, .int (i + 1), rfl, rfl, SqL.of upd_same, rfl, ?_⟩
      refine ⟨_, rfl, r, _, _, .ref sc, rfl, rfl, SqL.of upd_same, rfl, sc, _, rfl, .inl S1, _, _, rfl, rfl, _, rfl, ?_⟩
      refine ite2 (fun z => ?_) (fun z => ?_)
      · refine ⟨_, rfl, r, _, _, .int m, rfl, rfl, SqL.of upd_same, rfl, _, _, rfl, rfl, .inl ⟨by omega, by omega⟩, _, _, rfl, rfl, .inl ⟨_, rfl, _, _, rfl, rfl, (by show (0 : Int) < 2147483647; decide), ?_⟩⟩
        refine ⟨_, rfl, r, _, _, 2, rfl, rfl, upd_same, rfl, ?_⟩
        refine ⟨_, rfl, r, _, _, .int ((m * 48271 + 11) % 2147483647), rfl, rfl, SqL.of upd_same, rfl, _, _, rfl, rfl, ⟨by decide, by decide⟩, .inl ⟨_, rfl, _, rfl, _, _, rfl, rfl, (by omega), ?_⟩⟩
        refine k _ _ (Int.emod_nonneg _ (by omega)) (Int.emod_lt_of_pos _ (by omega)) ⟨⟨i + 1, (m * 48271 + 11) % 2147483647, e, upd_same, by omega, Int.emod_nonneg _ (by decide), Int.emod_lt_of_pos _ (by decide), he⟩⟩ (but_upd.trans but_upd)
      · have hlt : i < ns.length := by
          have := of_decide_eq_false (by simpa using z : decide ((ns.map V.int).length < i + 1) = false)
          rw [List.length_map] at this
          omega
        have hc : ∃ c, ns[i.toNat]? = some c := ⟨ns[i.toNat]'(by omega), List.getElem?_eq_getElem (by omega)⟩
        obtain ⟨c, hc⟩ := hc
        have hat : atI (ns.map V.int) ((i + 1) - 1) = some (.int c) := by
          have e1 : (i + 1) - 1 = ((i.toNat : Nat) : Int) := by omega
          rw [e1]
          exact atI_nat (by rw [List.getElem?_map, hc]; rfl)
        refine ⟨_, rfl, r, _, _, .ref sc, rfl, rfl, SqL.of upd_same, rfl, _, rfl, r, _, _, .int (i + 1), rfl, rfl, SqL.of upd_same, rfl, _, _, rfl, rfl, sc, _, _, .int c, rfl, rfl, S1, hat, ?_⟩
        refine ⟨_, rfl, r, _, _, .int m, rfl, rfl, SqL.of upd_same, rfl, _, _, rfl, rfl, .inl ⟨by omega, by omega⟩, _, rfl, _, _, rfl, rfl, _, _, rfl, rfl, .inl ⟨_, rfl, _, _, rfl, rfl, (by show (0 : Int) < 2147483647; decide), ?_⟩⟩
        refine ⟨_, rfl, r, _, _, 2, rfl, rfl, upd_same, rfl, ?_⟩
        refine ⟨_, rfl, _, _, rfl, rfl, ⟨by decide, by decide, by decide⟩, _, _, rfl, rfl, _, rfl, ?_⟩
        have m1 := Int.emod_nonneg (m * 48271 + c + 11) (show (2147483647 : Int) ≠ 0 by decide)
        have m2 := Int.emod_lt_of_pos (m * 48271 + c + 11) (show (0 : Int) < 2147483647 by decide)
        have v1 := Int.emod_nonneg c (show many ≠ 0 by omega)
        have v2 := Int.emod_lt_of_pos c (show 0 < many by omega)
        refine ite2 (fun z => ?_) (fun _ => ?_)
        · have hc0 : (10 : Int) ^ (18 : Int).toNat ≤ c := of_decide_eq_true z
          have hc1 : 0 ≤ c := by
            have : (0 : Int) ≤ (10 : Int) ^ (18 : Int).toNat := by decide
            omega
          refine ⟨_, rfl, _, rfl, _, _, rfl, rfl, wide_div (b := 10) (by omega) (by omega) (by decide) (by decide), ?_⟩
          refine ⟨_, rfl, r, _, _, 3, rfl, rfl, upd_same, rfl, ?_⟩
          refine ⟨_, rfl, .inl ⟨_, rfl, _, rfl, _, _, rfl, rfl, (by omega), ?_⟩⟩
          exact k _ _ v1 v2 ⟨⟨i + 1, _, c / many, upd_same, by omega, m1, m2, Int.ediv_nonneg hc1 (by omega)⟩⟩ ((but_upd.trans but_upd).trans but_upd)
        · refine ⟨_, rfl, .inl ⟨_, rfl, _, rfl, _, _, rfl, rfl, (by omega), ?_⟩⟩
          exact k _ _ v1 v2 ⟨⟨i + 1, _, e, upd_same, by omega, m1, m2, he⟩⟩ (but_upd.trans but_upd)
end
end DL

set_option Elab.async false
set_option maxRecDepth 100000
namespace DL
open PySem L2
theorem keys_put {kvs : List (List Key × V)} {bs : List Bar} {b : Bar} (v : V) (h : kvs.map (·.1) = bs.map Bar.key) (hn : bs.Nodup) :
    ∃ bs' : List Bar, (putK kvs b.key v).map (·.1) = bs'.map Bar.key ∧ bs'.Nodup ∧ (∀ x ∈ bs', x = b ∨ x ∈ bs) ∧ bs'.length ≤ bs.length + 1 := by
  unfold putK
  by_cases e : (kvs.any fun kv => decide (kv.1 = b.key)) = true
  · rw [if_pos e]
    refine ⟨bs, ?_, hn, fun x hx => .inr hx, Nat.le_succ _⟩
    rw [← h, List.map_map]
    refine List.map_congr_left fun kv _ => ?_
    show (if kv.1 = b.key then (kv.1, v) else kv).1 = kv.1
    by_cases q : kv.1 = b.key
    · rw [if_pos q]
    · rw [if_neg q]
  · rw [if_neg e]
    have hnot : b ∉ bs := fun hm => e (by
      rw [List.any_eq_true]
      have : b.key ∈ kvs.map (·.1) := by rw [h]; exact List.mem_map.mpr ⟨b, hm, rfl⟩
      obtain ⟨kv, hkv, q⟩ := List.mem_map.mp this
      exact ⟨kv, hkv, decide_eq_true q⟩)
    refine ⟨bs ++ [b], by rw [List.map_append, List.map_append, h]; rfl, ?_, fun x hx => ?_, by simp⟩
    · rw [List.nodup_append]
      refine ⟨hn, List.nodup_cons.mpr ⟨by simp, List.nodup_nil⟩, fun x hx y hy => ?_⟩
      rw [List.mem_singleton.mp hy]
      exact fun q => hnot (q ▸ hx)
    · rcases List.mem_append.mp hx with hx | hx
      · exact .inr hx
      · exact .inl (List.mem_singleton.mp hx)
theorem asc_of {n : Int} (hn : n ≤ 7) {xs bs : List Bar} (hp : xs.Perm bs) (hs : xs.Pairwise fun x y => x.code ≤ y.code) (hd : bs.Nodup) (ho : ∀ b ∈ bs, b.ok n) : OkBars n xs := by
  have hx : ∀ b ∈ xs, b.ok n := fun b hb => ho b (hp.mem_iff.mp hb)
  refine ⟨hx, ?_⟩
  have hd' : xs.Nodup := hp.nodup_iff.mpr hd
  have := hs.and hd'
  refine List.Pairwise.imp_of_mem (fun {a b} ha hb q => ?_) this
  obtain ⟨q1, q2⟩ := q
  rcases Int.lt_or_eq_of_le q1 with z | z
  · exact z
  · exact absurd (Bar.code_inj ((hx a ha).low hn) ((hx b hb).low hn) z) q2
structure spParts (K : PySem.W.Frag) (vs : List V) (H : Hp) (Q : VK) (_ : XK) : Prop where
  h : ∃ (r sc : Addr) (ns : List Int) (most : Int), vs = [.ref r, .int most] ∧ RowOk H r sc ∧ SqL K H sc (ns.map V.int) ∧ 1 ≤ most ∧ most ≤ 7 ∧
    ∀ (p t : Addr) (n : Int) (ks : List (Addr × Bar)) (H' : Hp), H p = none → H t = none → 1 ≤ n → n ≤ most → H' p = some (.lst [.int n, .ref t]) → BarsAt H' t ks → OkBars n (ks.map (·.2)) → ks.length ≤ 13 → RowOk H' r sc → But r H H' → Q (.ref p) H'
theorem three_at {v : Int} (h0 : 0 ≤ v) (h3 : v < 3) : ∃ c : Int, atI [V.int 3, V.int 6, V.int 14] v = some (.int c) ∧ 1 ≤ c ∧ c ≤ 14 := by
  have : v = 0 ∨ v = 1 ∨ v = 2 := by omega
  rcases this with rfl | rfl | rfl
  · exact ⟨3, rfl, by decide, by decide⟩
  · exact ⟨6, rfl, by decide, by decide⟩
  · exact ⟨14, rfl, by decide, by decide⟩
theorem two_at {v : Int} (h0 : 0 ≤ v) (h3 : v < 2) : ∃ c : Bool, atI [V.str "open", V.str "shut"] v = some (.str (wd c)) := by
  have : v = 0 ∨ v = 1 := by omega
  rcases this with rfl | rfl
  · exact ⟨false, rfl⟩
  · exact ⟨true, rfl⟩
section
variable {P : Program} {w : World} {K : PySem.W.Frag} {mg : Str → Option Value} {base : Heap}
theorem scParts : FnScope ["_law_row", "_law_most", "_law_many", "_law_found", "_law_k", "_law_drawer", "_law_other", "_law_way", "_law_stand"] ["_law_row", "_law_most"] (defScope sParts) := ⟨rfl, rfl, rfl, by decide +kernel, rfl, by decide +kernel, by decide +kernel⟩
theorem ok_parts {f f1 : Addr} {fd fd1 : FuncData} (F : Fun K "_law_parts" "_law_parts" sParts f fd) (T : Bt mg) (G : FnOk P w K mg base CX0 1 f1 fd1 ["_law_row", "_law_many"] (spTaken K)) (g1 : mg "_law_taken" = some (.ref f1)) (k1 : PySem.W.keepIn K (.ref f1) = true) (b1 : Binds K fd1 ["_law_row", "_law_many"] []) :
    FnOk P w K mg base CX0 2 f fd ["_law_row", "_law_most"] (spParts K) := by
  refine F.ok scParts (fun vs H Q E h => ?_) (fun cdv A outer s H vs Q E hr h => ?_)
  · obtain ⟨r, sc, ns, most, rfl, _⟩ := h.h
    rfl
  · obtain ⟨r, sc, ns, most, rfl, R, S, h1, h7, k⟩ := h.h
    have hu := hu_of hr
    obtain ⟨i0, m0, e0, hR0, _⟩ := id R.h
    refine ⟨_, pss_cons (ps_par (i := 2) (j := 3) (by rfl) scParts.nd rfl rfl (by decide) rfl rfl (pa_cons (pe_op op_add pe_int (pe_call G (hr.mono (by decide)) rfl g1 k1 b1 .nil pass0 (pa_cons (pv 0) (pa_cons (pv 1) pa_nil)))) (pa_cons pe_dnewT pa_nil)) (by rfl))
      (pss_cons (ps_for PassesOwn.never rfl (pi_range1 (by rfl) T.range (pa_cons (pe_call G (hr.mono (by decide)) rfl g1 k1 b1 .nil pass0 (pa_cons (pv 0) (pa_cons (pe_ix ix_list (pe_lst (pa_cons pe_int (pa_cons pe_int (pa_cons pe_int pa_nil)))) (pe_call G (hr.mono (by decide)) rfl g1 k1 b1 .nil pass0 (pa_cons (pv 0) (pa_cons pe_int pa_nil))) (fun _ _ => rfl)) pa_nil))) pa_nil)) (pg_name (i := 4) scParts.nd rfl (.inl rfl))
        (pss_cons (ps_par (i := 5) (j := 6) (by rfl) scParts.nd rfl rfl (by decide) rfl rfl (pa_cons (pe_call G (hr.mono (by decide)) rfl g1 k1 b1 .nil pass0 (pa_cons (pv 0) (pa_cons (pv 2) pa_nil))) (pa_cons (pe_call G (hr.mono (by decide)) rfl g1 k1 b1 .nil pass0 (pa_cons (pv 0) (pa_cons (pv 2) pa_nil))) pa_nil)) (by rfl))
        (pss_one (ps_if (pt_cmpR op_ne (pv 5) (pv 6) (nomark _))
          (pss_cons (ps_par (i := 7) (j := 8) (by rfl) scParts.nd rfl rfl (by decide) rfl rfl (pa_cons (pe_ix ix_list (pe_lst (pa_cons pe_str (pa_cons pe_str pa_nil))) (pe_op op_fdiv (pe_call G (hr.mono (by decide)) rfl g1 k1 b1 .nil pass0 (pa_cons (pv 0) (pa_cons pe_int pa_nil))) pe_int) (fun _ _ => rfl))
            (pa_cons (pe_ix ix_list (pe_lst (pa_cons pe_str (pa_cons pe_str pa_nil))) (pe_call G (hr.mono (by decide)) rfl g1 k1 b1 .nil pass0 (pa_cons (pv 0) (pa_cons pe_int pa_nil))) (fun _ _ => rfl)) pa_nil)) (by rfl))
          (pss_one (ps_dput hu (pv 3) (pe_tup (pa_cons (pv 5) (pa_cons (pv 7) (pa_cons (pv 6) (pa_cons (pv 8) pa_nil))))) pe_bl rfl))) pss_nil))))
      (pss_one (ps_ret (pe_lst (pa_cons (pv 2) (pa_cons (pe_callTy call_tuple_of (by rfl) T.tuple (by decide +kernel) (pa_cons (pe_callB (cr_sortB (by rfl)) (by rfl) T.sorted (by decide +kernel) (pa_cons (pv 3) pa_nil)) pa_nil)) pa_nil)))))), ?_⟩
    -- many, found
    refine ⟨_, rfl, _, rfl, ⟨⟨r, sc, ns, most, rfl, R, S, h1, by omega, fun v H1 v0 v1 R1 B1 => ?_⟩⟩⟩
    refine ⟨_, _, rfl, rfl, fun d hd => ⟨_, _, rfl, ?_⟩⟩
    obtain ⟨i1, m1, e1, hR1, _⟩ := id R1.h
    have ndr : d ≠ r := (ne_of_none hR1 hd).symm
    have hd0 : H d = none := by
      cases q : H d with
      | none => rfl
      | some o =>
        rw [B1 d o ndr q] at hd
        cases hd
    have R2 : RowOk (upd H1 d (.dT [])) r sc := R1.same (same_upd hd)
    have B2 : But r H (upd H1 d (.dT [])) := B1.trans (sbut (same_upd hd))
    -- range(..)
    refine ⟨_, rfl, (by show 3 ≤ sizeLine; decide), fun l hl => ?_⟩
    have nlr : l ≠ r := by
      obtain ⟨_, _, _, q, _⟩ := id R2.h
      exact (ne_of_none q hl).symm
    have R3 := R2.same (same_upd (o := .lst [V.int 3, V.int 6, V.int 14]) hl)
    have B3 : But r H _ := B2.trans (sbut (same_upd (o := .lst [V.int 3, V.int 6, V.int 14]) hl))
    refine ⟨_, rfl, ⟨⟨r, sc, ns, 3, rfl, R3, B3.seqR R S, by decide, by decide, fun v2 H3 w0 w1 R4 B4 => ?_⟩⟩⟩
    obtain ⟨c, hc, c1, c14⟩ := three_at w0 w1
    refine ⟨l, _, v2, .int c, rfl, rfl, SqL.of (B4 _ _ nlr upd_same), hc, ?_⟩
    have B5 : But r H H3 := B3.trans B4
    refine ⟨⟨r, sc, ns, c, rfl, R4, B5.seqR R S, c1, by omega, fun v3 H4 x0 x1 R5 B6 => ?_⟩⟩
    refine ⟨v3, rfl, by omega, by omega, ?_⟩
    have B7 : But r H H4 := B5.trans B6
    have hd4 : H4 d = some (.dT []) := B6 _ _ ndr (B4 _ _ ndr (by rw [upd_ne (ne_of_none (upd_same (H := H1) (a := d)) hl)]; exact upd_same))
    refine for_range (lo := 0) (n := v3.toNat) (fun i σ H5 => ∃ (kvs : List (List Key × V)) (bs : List Bar) (u4 u5 u6 u7 u8 : Option V), σ = [some (.ref r), some (.int most), some (.int (1 + v)), some (.ref d), u4, u5, u6, u7, u8] ∧ H5 d = some (.dT kvs) ∧ kvs.map (·.1) = bs.map Bar.key ∧ bs.Nodup ∧ (∀ b ∈ bs, b.ok (1 + v)) ∧ bs.length ≤ i ∧ RowOk H5 r sc ∧ But r H H5)
      ⟨[], [], _, _, _, _, _, rfl, hd4, rfl, List.nodup_nil, fun b hb => by simp at hb, Nat.le_refl _, R5, B7⟩ ?_ ?_
    · rintro i σ H5 hi ⟨kvs, bs, u4, u5, u6, u7, u8, rfl, hD, hk, hnd, hok, hlen, R6, B8⟩
      refine ⟨_, rfl, _, rfl, ⟨⟨r, sc, ns, 1 + v, rfl, R6, B8.seqR R S, by omega, by omega, fun a H6 a0 a1 R7 B9 => ?_⟩⟩⟩
      refine ⟨_, rfl, _, rfl, ⟨⟨r, sc, ns, 1 + v, rfl, R7, (B8.trans B9).seqR R S, by omega, by omega, fun o H7 o0 o1 R8 B10 => ?_⟩⟩⟩
      have hD7 : H7 d = some (.dT kvs) := B10 _ _ ndr (B9 _ _ ndr hD)
      have B11 : But r H H7 := (B8.trans B9).trans B10
      refine ⟨_, _, rfl, _, rfl, _, rfl, rfl, _, rfl, ?_⟩
      refine ite2 (fun z => ?_) (fun _ => ?_)
      · have hao : a ≠ o := fun q => by subst q; simp at z
        refine ⟨(by show 2 ≤ sizeLine; decide), fun l1 hl1 => ?_⟩
        have R9 := R8.same (same_upd (o := .lst [V.str "open", V.str "shut"]) hl1)
        have nl1 : l1 ≠ r := by
          obtain ⟨_, _, _, q, _⟩ := id R8.h
          exact (ne_of_none q hl1).symm
        refine ⟨_, rfl, ⟨⟨r, sc, ns, 3, rfl, R9, (B11.trans (sbut (same_upd hl1))).seqR R S, by decide, by decide, fun y H8 y0 y1 R10 B12 => ?_⟩⟩⟩
        obtain ⟨cw, hcw⟩ := two_at (v := y / 2) (by omega) (by omega)
        refine ⟨_, _, rfl, rfl, ⟨by decide, by decide⟩, l1, _, _, _, rfl, rfl, SqL.of (B12 _ _ nl1 upd_same), hcw, ?_⟩
        refine ⟨(by show 2 ≤ sizeLine; decide), fun l2 hl2 => ?_⟩
        have R11 := R10.same (same_upd (o := .lst [V.str "open", V.str "shut"]) hl2)
        have nl2 : l2 ≠ r := by
          obtain ⟨_, _, _, q, _⟩ := id R10.h
          exact (ne_of_none q hl2).symm
        have B13 : But r H7 (upd H8 l2 (.lst [V.str "open", V.str "shut"])) := ((sbut (same_upd hl1)).trans B12).trans (sbut (same_upd hl2))
        refine ⟨_, rfl, ⟨⟨r, sc, ns, 2, rfl, R11, (B11.trans B13).seqR R S, by decide, by decide, fun y2 H9 z0 z1 R12 B14 => ?_⟩⟩⟩
        obtain ⟨ct, hct⟩ := two_at z0 z1
        refine ⟨l2, _, _, _, rfl, rfl, SqL.of (B14 _ _ nl2 upd_same), hct, ?_⟩
        have B15 : But r H7 H9 := B13.trans B14
        have hD9 : H9 d = some (.dT kvs) := B15 _ _ ndr hD7
        refine ⟨_, _, rfl, _, rfl, _, rfl, _, rfl, _, rfl, _, rfl, (by show 4 ≤ sizeLine; decide), fun q hq => ?_⟩
        have hlen2 : kvs.length = bs.length := by
          have := congrArg List.length hk
          rw [List.length_map, List.length_map] at this
          exact this
        refine ⟨d, _, rfl, DPut.t (k := (⟨a, cw, o, ct⟩ : Bar).key) (by rw [upd_ne (ne_of_none hD9 hq)]; exact hD9) upd_same (by rw [hlen2]; exact small1000 (by omega)), ?_⟩
        obtain ⟨bs', g1', g2', g3', g4'⟩ := keys_put (b := ⟨a, cw, o, ct⟩) (.bl true) hk hnd
        have nqr : q ≠ r := by
          obtain ⟨_, _, _, q', _⟩ := id R12.h
          exact (ne_of_none q' hq).symm
        refine ⟨_, bs', _, _, _, _, _, rfl, upd_same, g1', g2', fun b hb => ?_, by omega, ?_, ?_⟩
        · rcases g3' b hb with rfl | hb
          · exact ⟨a0, a1, o0, o1, hao⟩
          · exact hok b hb
        · obtain ⟨i', m', e', q1, q2⟩ := (R12.same (same_upd (o := .tup (⟨a, cw, o, ct⟩ : Bar).vs) hq)).h
          exact ⟨⟨i', m', e', by rw [upd_ne (Ne.symm ndr)]; exact q1, q2⟩⟩
        · refine fun c u hc hH => ?_
          have hcd : c ≠ d := fun z' => by rw [z', hd0] at hH; cases hH
          rw [upd_ne hcd]
          exact same_upd hq _ _ (B15 _ _ hc (B11 _ _ hc hH))
      · exact ⟨kvs, bs, _, _, _, _, _, rfl, hD7, hk, hnd, hok, by omega, R8, B11⟩
    · rintro σ H5 ⟨kvs, bs, u4, u5, u6, u7, u8, rfl, hD, hk, hnd, hok, hlen, R6, B8⟩
      refine ⟨_, rfl, _, rfl, d, kvs, bs, rfl, .inl hD, hk, fun b hb => (hok b hb).low (by omega), fun ks p g1' g2' g3' hp => ?_⟩
      refine ⟨p, _, rfl, .inl ⟨SqL.of upd_same, fun t ht => ?_⟩⟩
      refine ⟨(by show 2 ≤ sizeLine; decide), fun q hq => ?_⟩
      have sp : Same H5 (upd H5 p (.lst (ks.map fun k => V.ref k.1))) := same_upd hp
      have st : Same H5 (upd (upd H5 p (.lst (ks.map fun k => V.ref k.1))) t (.tup (ks.map fun k => V.ref k.1))) := sp.trans (same_upd ht)
      have sq : Same H5 _ := st.trans (same_upd (o := .lst [.int (1 + v), .ref t]) hq)
      obtain ⟨i', m', e', qR, _⟩ := id R6.h
      have nfree : ∀ {c : Addr}, H5 c = none → H c = none := fun {c} hc => by
        cases q' : H c with
        | none => rfl
        | some o =>
          have ncr : c ≠ r := fun z => by rw [z, qR] at hc; cases hc
          rw [B8 c o ncr q'] at hc
          cases hc
      refine k q t (1 + v) ks _ (nfree (st.free hq)) (nfree (sp.free ht)) (by omega) (by omega) upd_same ⟨by rw [upd_ne (ne_of_none upd_same hq)]; exact upd_same, fun kk hkk => sq _ _ (g1' kk hkk)⟩
        (asc_of (by omega) g2' g3' hnd hok) ?_ (R6.same sq) (B8.trans (sbut sq))
      have := g2'.length_eq
      rw [List.length_map] at this
      omega
/-! ### the cabinet of a draw -/
structure spMade (C : Addr) (vs : List V) (H : Hp) (Q : VK) (_ : XK) : Prop where
  h : ∃ (p t : Addr) (n : Int) (ks : List (Addr × Bar)) (zs : List V), vs = [.ref p] ∧ H p = some (.lst (.int n :: .ref t :: zs)) ∧ 1 ≤ n ∧ n ≤ 7 ∧ BarsAt H t ks ∧ OkBars n (ks.map (·.2)) ∧
    ∀ (c : Addr) (H' : Hp), H c = none → CabAt C H' c n t → Same H H' → Q (.ref c) H'
theorem scMade : FnScope ["_law_d"] ["_law_d"] (defScope sMade) := ⟨rfl, rfl, rfl, by decide +kernel, rfl, by decide +kernel, by decide +kernel⟩
theorem ok_made {f fI C : Addr} {fd fdI : FuncData} (F : Fun K "_law_made" "_law_made" sMade f fd) (T : CabT K mg C) (M : Mk K C fI) (G : FnOk P w K mg base CX0 5 fI fdI ["self", "drawers", "bars"] (spInit C)) (bI : Binds K fdI ["self", "drawers", "bars"] []) :
    FnOk P w K mg base CX0 7 f fd ["_law_d"] (spMade C) := by
  refine F.ok scMade (fun vs H Q E h => ?_) (fun cdv A outer s H vs Q E hr h => ?_)
  · obtain ⟨p, t, n, ks, zs, rfl, _⟩ := h.h
    rfl
  · obtain ⟨p, t, n, ks, zs, rfl, hp, h1, h7, B, O, k⟩ := h.h
    refine ⟨_, pss_one (ps_ret (pe_make M G hr rfl T.mgC bI .nil pass0 (pa_cons (pe_ix ix_list (pv 0) pe_int (fun _ _ => rfl)) (pa_cons (pe_ix ix_list (pv 0) pe_int (fun _ _ => rfl)) pa_nil)))), ?_⟩
    refine ⟨_, rfl, p, _, 0, .int n, rfl, rfl, SqL.of hp, atI_nat (j := 0) rfl, _, rfl, p, _, 1, .ref t, rfl, rfl, SqL.of hp, atI_nat (j := 1) rfl, ?_⟩
    intro x dx nx ndx nex
    have s0 : Same H (upd (upd H dx (.own x)) x (.ins C dx [])) := fun b o e => by
      rw [upd_ne (ne_of_none e nx), upd_ne (ne_of_none e ndx)]
      exact e
    refine ⟨⟨x, dx, n, t, ks, rfl, upd_same, h1, h7, B.same s0, O, fun H' hx kp => ⟨rfl, ?_⟩⟩⟩
    exact k x H' nx ⟨dx, hx⟩ fun b o e => kp b o (ne_of_none e nx) (s0 b o e)
end
end DL

set_option Elab.async false
set_option maxRecDepth 100000
namespace DL
open PySem L2
/-! ### rules with the written part named, for blocks within blocks -/
theorem pi_listK {X : Cx} {K : PySem.W.Frag} {tg l : Expr} {tl : TE} (hK : X.K = K) (hl : PE X l tl) : PI X tg l (iList K tl) := by subst hK; exact pi_list hl
theorem ix_listK {X : Cx} {K : PySem.W.Frag} (hK : X.K = K) : IxR X (rIxL K) := by subst hK; exact ix_list
theorem op_in_seqK {X : Cx} {K : PySem.W.Frag} (hK : X.K = K) : OpR X (compareOp .In) (rIn K false) := by subst hK; exact op_in_seq
theorem pe_bmK {X : Cx} {K : PySem.W.Frag} {T : String} {name : Str} {id : String} {r : V → List V → Hp → VK → Prop} {o e : Expr} {es : List Expr} {to : TE} {t : TA} {apos cpos : Pos} (hK : X.K = K) (pa : PlainAttrs T) (slot : Slot T name id) (hty : typeOf (.builtin id) = pure (.type "method_descriptor")) (hm : MtR X id r) (ho : PE X o to) (ha : PA X (e :: es) t)
    (hbase : attributeBase o name X.env (eval o X.env) = eval o X.env := by rfl)
    (hfew : ((backTo cpos (starEach (e :: es) X.env)).all (fun x => !x.1) && (backToKw cpos (keywordEach [] X.env)).all (fun x => x.1.isSome)
      && decide ((e :: es).length + ([] : List Keyword).length + (if ([] : List Keyword).isEmpty then 0 else 1) < 30)) = true := by rfl)
    (hline : (apos.endLine == cpos.line) = true := by rfl) (hs : starEach (e :: es) X.env = (false, eval e X.env) :: starEach es X.env := by rfl) (hplain : (backTo cpos (starEach es X.env)).any (·.1) = false := by rfl) :
    PE X (.Call (.Attribute o name apos) (e :: es) [] cpos) (tBM K T r to t) := by subst hK; exact pe_bm pa slot hty hm ho ha hbase hfew hline hs hplain
theorem boot_any_ : bootBuiltins ("any" : Str) = some (.builtin "any") := by decide +kernel
theorem boot_all_ : bootBuiltins ("all" : Str) = some (.builtin "all") := by decide +kernel
end DL

set_option Elab.async false
set_option maxRecDepth 100000
namespace DL
open PySem L2 HT TL
/-! ### standings: a truth value a drawer (true: open) -/
def sg (b : Bool) : Nat := if b = true then 111 else 115
def sstr (st : List Bool) : Str := ⟨(st.map sg).toArray⟩
theorem sstr_tl (st : List Bool) : (sstr st).cps.toList = st.map sg := by simp [sstr]
theorem sstr_len (st : List Bool) : (sstr st).length = st.length := by
  show (sstr st).cps.size = st.length
  rw [← Array.length_toList, sstr_tl, List.length_map]
theorem sg_inj : ∀ {a b : Bool}, sg a = sg b → a = b := by decide
theorem sstr_inj {a b : List Bool} (h : sstr a = sstr b) : a = b := by
  have h1 : a.map sg = b.map sg := by rw [← sstr_tl, ← sstr_tl, h]
  have : ∀ {a b : List Bool}, a.map sg = b.map sg → a = b := by
    intro a
    induction a with
    | nil => intro b h; cases b with | nil => rfl | cons y b => simp at h
    | cons x a ih =>
      intro b h
      cases b with
      | nil => simp at h
      | cons y b =>
        rw [List.map_cons, List.map_cons] at h
        injection h with h1 h2
        rw [sg_inj h1, ih h2]
  exact this h1
def sat (st : List Bool) (i : Int) : Bool := st.getD i.toNat false
theorem sstr_at {st : List Bool} {i : Int} (h0 : 0 ≤ i) (h1 : i < st.length) : atI (sstr st).cps.toList i = some (sg (sat st i)) := by
  have e : i = ((i.toNat : Nat) : Int) := by omega
  have hl : i.toNat < st.length := by omega
  rw [e]
  refine atI_nat ?_
  rw [sstr_tl, List.getElem?_map]
  unfold sat
  rw [Int.toNat_natCast, List.getD_eq_getElem?_getD, List.getElem?_eq_getElem hl]
  rfl
def sgn (b : Bool) : Str := if b = true then "s" else "o"
theorem sgs_sgn (x b : Bool) : decide ((V.str ⟨#[sg x]⟩) = V.str (sgn b)) = (x != b) := by revert x b; decide +kernel
theorem sgs_o (x : Bool) : decide ((V.str ⟨#[sg x]⟩) = V.str "o") = x := by revert x; decide +kernel
theorem sgs_s (x : Bool) : decide ((V.str ⟨#[sg x]⟩) = V.str "s") = !x := by revert x; decide +kernel
theorem wd_ne (a b : Bool) : decide ((V.str (wd a)) = V.str (wd b)) = (a == b) := by revert a b; decide +kernel
/-- whether the bar stands against the pull -/
def hind (b : Bar) (st : List Bool) (d : Int) : Bool := decide (b.d = d) && ((sat st d == b.w) && (sat st b.o == b.t))
def goesB (bs : List Bar) (st : List Bool) (d : Int) : Bool := !(bs.any fun b => hind b st d)
def flip (st : List Bool) (d : Int) : List Bool := st.set d.toNat (!sat st d)
theorem flip_len (st : List Bool) (d : Int) : (flip st d).length = st.length := by unfold flip; rw [List.length_set]
def drs (n : Nat) : List Int := (List.range n).map fun (i : Nat) => (i : Int)
def freeL (bs : List Bar) (st : List Bool) : List Int := (drs st.length).filter fun d => goesB bs st d
/-- the table of signs -/
structure SgT (K : PySem.W.Frag) (w : World) (mg : Str → Option Value) (aS : Addr) : Prop where
  g : mg "SIGNS" = some (.ref aS)
  o : KDct K w aS "open" (.str "o")
  s : KDct K w aS "shut" (.str "s")
theorem SgT.at {K : PySem.W.Frag} {w : World} {mg : Str → Option Value} {aS : Addr} (T : SgT K w mg aS) (b : Bool) : KDct K w aS (wd b) (.str (sgn b)) := by
  cases b
  · exact T.o
  · exact T.s
structure spHold (K : PySem.W.Frag) (vs : List V) (H : Hp) (Q : VK) (_ : XK) : Prop where
  h : ∃ (a : Addr) (b : Bar) (st : List Bool) (d : Int), vs = [.ref a, .str (sstr st), .int d] ∧ SqT K H a b.vs ∧ b.ok st.length ∧ st.length ≤ 7 ∧ 0 ≤ d ∧ d < st.length ∧ Q (.bl (hind b st d)) H
structure spMoved (vs : List V) (H : Hp) (Q : VK) (_ : XK) : Prop where
  h : ∃ (st : List Bool) (d : Int), vs = [.str (sstr st), .int d] ∧ st.length ≤ 7 ∧ 0 ≤ d ∧ d < st.length ∧ ∀ H', Same H H' → Q (.str (sstr (flip st d))) H'
theorem str_small {st : List Bool} (h : st.length ≤ 7) : (sstr st).length ≤ sizeLine := by rw [sstr_len]; exact Nat.le_of_lt (small1000 (by omega))
theorem cut_flip (st : List Bool) (d : Int) (h0 : 0 ≤ d) (h1 : d < st.length) (x : Str) (hx : x.cps.toList = [sg (!sat st d)]) : (cutS (sstr st) none (some d) ++ x) ++ cutS (sstr st) (some (d + 1)) none = sstr (flip st d) := by
  refine PyProof.Rows.ext_toList ?_
  obtain ⟨k, rfl⟩ : ∃ k : Nat, d = (k : Int) := ⟨d.toNat, by omega⟩
  have hk : k < st.length := by omega
  have e1 : ((k : Int) + 1) = ((k + 1 : Nat) : Int) := by omega
  have t1 : tl (cutS (sstr st) none (some (k : Int))) = (st.map sg).take k := by
    unfold tl cutS
    rw [HT.sIx_none, HT.sIx_nat, sstr_len, sstr_tl]
    simp [Nat.min_eq_left (Nat.le_of_lt hk)]
  have t2 : tl (cutS (sstr st) (some ((k : Int) + 1)) none) = (st.map sg).drop (k + 1) := by
    unfold tl cutS
    rw [e1, HT.sIx_none, HT.sIx_nat, sstr_len, sstr_tl]
    simp only [Nat.min_eq_left (show k + 1 ≤ st.length by omega)]
    rw [List.take_of_length_le (by rw [List.length_drop, List.length_map]; omega)]
  show tl _ = tl _
  rw [tl_append, tl_append, t1, t2, show tl x = _ from hx, show tl (sstr (flip st (k : Int))) = _ from sstr_tl _]
  unfold flip
  rw [Int.toNat_natCast, List.map_set, List.set_eq_take_append_cons_drop, if_pos (by rw [List.length_map]; exact hk)]
  simp
section
variable {P : Program} {w : World} {K : PySem.W.Frag} {mg : Str → Option Value} {base : Heap}
theorem scHinders : FnScope ["bar", "standing", "drawer", "barred", "way", "other", "stand"] ["bar", "standing", "drawer"] (defScope s_hinders) := ⟨rfl, rfl, rfl, by decide +kernel, rfl, by decide +kernel, by decide +kernel⟩
theorem ok_hinders {f aS : Addr} {fd : FuncData} (F : Fun K "hinders" "hinders" s_hinders f fd) (T : SgT K w mg aS) : FnOk P w K mg base CX0 1 f fd ["bar", "standing", "drawer"] (spHold K) := by
  refine F.ok scHinders (fun vs H Q E h => ?_) (fun cdv A outer s H vs Q E hr h => ?_)
  · obtain ⟨a, b, st, d, rfl, _⟩ := h.h
    rfl
  · obtain ⟨a, b, st, d, rfl, hq, hb, h7, d0, d1, k⟩ := h.h
    obtain ⟨b1, b2, b3, b4, b5⟩ := hb
    refine ⟨_, pss_cons (ps_asg (pv 0) (pg_tup (by rfl) (pgs_cons (pg_name (i := 3) scHinders.nd rfl (.inl rfl)) (pgs_cons (pg_name (i := 4) scHinders.nd rfl (.inl rfl)) (pgs_cons (pg_name (i := 5) scHinders.nd rfl (.inl rfl)) (pgs_cons (pg_name (i := 6) scHinders.nd rfl (.inl rfl)) pgs_nil))))))
      (pss_cons (ps_if (PW.pt (pw_or (pt_cmpR op_ne (pv 3) (pv 2) (nomark _)) (pw_or1 (pt_cmpR op_eq (pe_ix ix_str (pv 1) (pv 2) (fun _ _ => rfl)) (pe_ix ix_kdict (pe_glob (v := .ref aS) rfl T.g rfl) (pv 4) (fun _ _ => rfl)) (nomark _))))) (pss_one (ps_ret pe_bl)) pss_nil)
      (pss_one (ps_ret (pe_cmpR op_ne (pe_ix ix_str (pv 1) (pv 5) (fun _ _ => rfl)) (pe_ix ix_kdict (pe_glob (v := .ref aS) rfl T.g rfl) (pv 6) (fun _ _ => rfl)) (nomark _))))), ?_⟩
    refine ⟨_, rfl, a, _, rfl, hq, rfl, _, _, rfl, _, _, rfl, _, _, rfl, _, _, rfl, rfl, ?_⟩
    refine ⟨_, rfl, _, rfl, rfl, _, rfl, ?_⟩
    have e0 : decide ((V.int b.d) = V.int d) = decide (b.d = d) := decide_eq_decide.mpr ⟨fun z => by injection z, fun z => by rw [z]⟩
    show if (!decide ((V.int b.d) = V.int d)) = true then _ else _
    rw [e0]
    by_cases q : b.d = d
    · rw [decide_eq_true q]
      refine iteF ?_
      refine ⟨_, rfl, _, rfl, _, d, _, rfl, rfl, str_small h7, sstr_at d0 d1, _, rfl, aS, wd b.w, _, rfl, rfl, T.at b.w, rfl, _, rfl, ?_⟩
      show if decide ((V.str ⟨#[sg (sat st d)]⟩) = V.str (sgn b.w)) = true then _ else _
      rw [sgs_sgn]
      unfold hind at k
      rw [decide_eq_true q] at k
      cases e : (sat st d != b.w) with
      | true =>
        have e' : (sat st d == b.w) = false := by rw [bne, Bool.not_eq_true'] at e; exact e
        rw [e'] at k
        exact iteT k
      | false =>
        have e' : (sat st d == b.w) = true := by rw [bne, Bool.not_eq_false'] at e; exact e
        rw [e'] at k
        refine iteF ?_
        refine ⟨_, rfl, _, rfl, _, b.o, _, rfl, rfl, str_small h7, sstr_at b3 b4, _, rfl, aS, wd b.t, _, rfl, rfl, T.at b.t, rfl, ?_⟩
        show Q (.bl (!decide ((V.str ⟨#[sg (sat st b.o)]⟩) = V.str (sgn b.t)))) H
        rw [sgs_sgn, bne, Bool.not_not]
        exact k
    · rw [decide_eq_false q]
      unfold hind at k
      rw [decide_eq_false q] at k
      exact iteT k
theorem scMoved : FnScope ["standing", "drawer", "word"] ["standing", "drawer"] (defScope s_moved) := ⟨rfl, rfl, rfl, by decide +kernel, rfl, by decide +kernel, by decide +kernel⟩
theorem ok_moved {f aS : Addr} {fd : FuncData} (F : Fun K "moved" "moved" s_moved f fd) (T : SgT K w mg aS) : FnOk P w K mg base CX0 1 f fd ["standing", "drawer"] spMoved := by
  refine F.ok scMoved (fun vs H Q E h => ?_) (fun cdv A outer s H vs Q E hr h => ?_)
  · obtain ⟨st, d, rfl, _⟩ := h.h
    rfl
  · obtain ⟨st, d, rfl, h7, d0, d1, k⟩ := h.h
    refine ⟨_, pss_cons (ps_set (i := 2) scMoved.nd rfl (.inl rfl) (pe_ifExp (pt_cmpR op_eq (pe_ix ix_str (pv 0) (pv 1) (fun _ _ => rfl)) (pe_ix ix_kdict (pe_glob (v := .ref aS) rfl T.g rfl) pe_str (fun _ _ => rfl)) (nomark _)) pe_str pe_str))
      (pss_one (ps_ret (pe_op op_add_str (pe_op op_add_str (pe_slice sl_str (pv 0) po_none (po_some (pv 1))) (pe_ix ix_kdict (pe_glob (v := .ref aS) rfl T.g rfl) (pv 2) (fun _ _ => rfl))) (pe_slice sl_str (pv 0) (po_some (pe_op op_add (pv 1) pe_int)) po_none)))), ?_⟩
    refine ⟨_, rfl, _, rfl, _, d, _, rfl, rfl, str_small h7, sstr_at d0 d1, aS, _, _, rfl, rfl, T.s, rfl, _, rfl, ?_⟩
    show if decide ((V.str ⟨#[sg (sat st d)]⟩) = V.str "s") = true then _ else _
    rw [sgs_s]
    have fin : ∀ x : Bool, x = sat st d → (∃ v, ((L2.start ["standing", "drawer", "word"] [.str (sstr st), .int d]).set 2 (some (.str (wd x))))[0]? = some (some v) ∧ (∃ z, v = .str z ∧ ∃ i, i = d ∧ True)) → True := fun _ _ _ => trivial
    have small : ∀ a b : Str, a.length ≤ 7 → b.length ≤ 7 → a.length + b.length ≤ sizeLine := fun a b ha hb => Nat.le_of_lt (small1000 (by omega))
    have c7 : ∀ lo hi, (cutS (sstr st) lo hi).length ≤ 7 := fun lo hi => by
      show (cutS (sstr st) lo hi).cps.size ≤ 7
      unfold cutS
      rw [List.size_toArray, List.length_take, List.length_drop, sstr_tl, List.length_map]
      omega
    have one : ∀ b : Bool, (sgn b).length ≤ 7 ∧ (sgn b).cps.toList = [sg (!b)] := by decide +kernel
    have app : ∀ a b : Str, (a ++ b).length = a.length + b.length := fun a b => by
      show (a ++ b).cps.size = a.cps.size + b.cps.size
      rw [← Array.length_toList, ← Array.length_toList, ← Array.length_toList]
      exact (congrArg List.length (tl_append a b)).trans (List.length_append ..)
    cases e : sat st d with
    | false =>
      refine iteT ?_
      refine ⟨_, rfl, _, rfl, _, rfl, _, rfl, str_small h7, _, rfl, aS, wd false, _, rfl, rfl, T.at false, _, _, rfl, rfl, small _ _ (c7 _ _) (one false).1, ?_⟩
      refine ⟨_, rfl, _, rfl, _, _, rfl, rfl, _, rfl, _, rfl, str_small h7, _, _, rfl, rfl, ?_, ?_⟩
      · have h1 := c7 none (some d)
        have h2 := (one false).1
        have h3 := c7 (some (d + 1)) none
        have h4 := app (cutS (sstr st) none (some d)) (sgn false)
        exact Nat.le_of_lt (small1000 (by omega))
      · have := k H (Same.refl H)
        rw [← cut_flip st d d0 d1 (sgn false) (by rw [(one false).2, e])] at this
        exact this
    | true =>
      refine iteF ?_
      refine ⟨_, rfl, _, rfl, _, rfl, _, rfl, str_small h7, _, rfl, aS, wd true, _, rfl, rfl, T.at true, _, _, rfl, rfl, small _ _ (c7 _ _) (one true).1, ?_⟩
      refine ⟨_, rfl, _, rfl, _, _, rfl, rfl, _, rfl, _, rfl, str_small h7, _, _, rfl, rfl, ?_, ?_⟩
      · have h1 := c7 none (some d)
        have h2 := (one true).1
        have h3 := c7 (some (d + 1)) none
        have h4 := app (cutS (sstr st) none (some d)) (sgn true)
        exact Nat.le_of_lt (small1000 (by omega))
      · have := k H (Same.refl H)
        rw [← cut_flip st d d0 d1 (sgn true) (by rw [(one true).2, e])] at this
        exact this
end
end DL

set_option Elab.async false
set_option maxRecDepth 100000
namespace DL
open PySem L2 HT TL
theorem new_at {H : Hp} {a : Addr} {o : HO} (h : H a = none) : Same H (upd H a o) ∧ (upd H a o) a = some o := ⟨same_upd h, upd_same⟩
/-! ### comprehensions that pick, in one word -/
theorem take_pick {α : Type} (p : α → Bool) (v : α → V) {l : List α} {i : Nat} {z : α} (h : l[i]? = some z) :
    ((l.take (i + 1)).filter p).map v = if p z = true then ((l.take i).filter p).map v ++ [v z] else ((l.take i).filter p).map v := by
  obtain ⟨hl, e⟩ := List.getElem?_eq_some_iff.mp h
  rw [List.take_succ_eq_append_getElem hl, List.filter_append, e]
  by_cases q : p z = true
  · rw [if_pos q, List.filter_cons_of_pos q, List.filter_nil, List.map_append]
    rfl
  · rw [if_neg q, List.filter_cons_of_neg q, List.filter_nil, List.append_nil]
/-- what a comprehension asks once its walk is told -/
def lcC (J : It) (g : TG) (tt : TT) (te : TE) (vs : List Nat) (σ : L2.St) (Q : VK) (H1 : Hp) : Prop := ∀ D, H1 D = none → ∃ W : Nat → Nat → Hp → Prop, (∃ m, W 0 m (upd H1 D (.lst []))) ∧ ∀ i m H, W i m H →
  (J.stop i H ∧ Q (.ref D) H) ∨ (J.go i H ∧ ∃ Nx : Hp → Prop, (∀ H', Nx H' → ∃ m', m' < m ∧ W (i + 1) m' H') ∧ ∀ x H', J.yld i H x H' → g x (wipe σ vs) H' fun σ2 H2 => wipe σ2 vs = wipe σ vs ∧ tt σ2 H2 fun b H3 =>
    if b = true then te σ2 H3 fun y H4 => ∃ acc, H4 D = some (.lst acc) ∧ acc.length < sizeLine ∧ Nx (upd H4 D (.lst (acc ++ [y]))) else Nx H3)
theorem lc_pick {α : Type} {J : It} {n : Nat} {G : Hp → Prop} {Y : Nat → Hp → V → Hp → Prop} (wk : Walk J n G Y) (l : List α) (hl : l.length = n) (hn : n ≤ 3000) (p : α → Bool) (v : α → V) {g : TG} {tt : TT} {te : TE} {vs : List Nat} {σ : L2.St} {H1 : Hp} {D : Addr} {Qd : Hp → Prop}
    (hD : H1 D = none) (hG : ∀ H, Same H1 H → G H)
    (hs : ∀ i x z H H' (Tk : V → Hp → Prop) (Nk : Hp → Prop), l[i]? = some z → Same H1 H → Y i H x H' → (∀ H4, p z = true → Same H H4 → Tk (v z) H4) → (∀ H4, p z = false → Same H H4 → Nk H4) →
      g x (wipe σ vs) H' fun σ2 H2 => wipe σ2 vs = wipe σ vs ∧ tt σ2 H2 fun b H3 => if b = true then te σ2 H3 Tk else Nk H3)
    (hd : ∀ H, Same H1 H → H D = some (.lst ((l.filter p).map v)) → Qd H) :
    ∃ W : Nat → Nat → Hp → Prop, (∃ m, W 0 m (upd H1 D (.lst []))) ∧ ∀ i m H, W i m H →
      (J.stop i H ∧ Qd H) ∨ (J.go i H ∧ ∃ Nx : Hp → Prop, (∀ H', Nx H' → ∃ m', m' < m ∧ W (i + 1) m' H') ∧ ∀ x H', J.yld i H x H' → g x (wipe σ vs) H' fun σ2 H2 => wipe σ2 vs = wipe σ vs ∧ tt σ2 H2 fun b H3 =>
        if b = true then te σ2 H3 fun y H4 => ∃ acc, H4 D = some (.lst acc) ∧ acc.length < sizeLine ∧ Nx (upd H4 D (.lst (acc ++ [y]))) else Nx H3) := by
  refine lc_it wk (fun i H' => Same H1 H' ∧ H' D = some (.lst (((l.take i).filter p).map v))) ⟨same_upd hD, upd_same⟩ (fun i H' _ q => hG H' q.1) ?_ ?_
  · rintro i x H H' hi ⟨s1, hD1⟩ y
    have hi' : i < l.length := by omega
    have ez : l[i]? = some l[i] := List.getElem?_eq_getElem hi'
    refine hs i x l[i] H H' _ _ ez s1 y (fun H4 hp s4 => ?_) (fun H4 hp s4 => ?_)
    · refine ⟨_, s4 _ _ hD1, ?_, fun b o e => ?_, ?_⟩
      · rw [List.length_map]
        have h1 := List.length_filter_le p (l.take i)
        rw [List.length_take] at h1
        have h2 : (3000 : Nat) < sizeLine := by decide
        omega
      · rw [upd_ne (ne_of_none e hD)]
        exact s4 _ _ (s1 b o e)
      · rw [upd_same, take_pick p v ez, if_pos hp]
    · refine ⟨s1.trans s4, ?_⟩
      rw [take_pick p v ez, if_neg (by rw [hp]; exact Bool.false_ne_true)]
      exact s4 _ _ hD1
  · rintro H ⟨s1, hD1⟩
    rw [← hl, List.take_length] at hD1
    exact hd H s1 hD1
/-! ### walks over the bars of a tuple -/
theorem walk_bars {K : PySem.W.Frag} {a : Addr} {α : Type} {l : List α} {f : α → V} : Walk (Itt K a) l.length (fun H => SqT K H a (l.map f)) (fun i H x H' => H' = H ∧ ∃ z, l[i]? = some z ∧ x = f z) := by
  have e : l.length = (l.map f).length := by rw [List.length_map]
  rw [e]
  refine (walk_tup (K := K) (a := a) (xs := l.map f)).mono (fun H h => h) fun i H x H' _ _ y => ⟨y.1, ?_⟩
  have h := y.2
  rw [List.getElem?_map] at h
  cases q : l[i]? with
  | none => rw [q] at h; cases h
  | some z => rw [q] at h; cases h; exact ⟨z, rfl, rfl⟩
theorem walk_lst {K : PySem.W.Frag} {a : Addr} {α : Type} {l : List α} {f : α → V} : Walk (Itl K a) l.length (fun H => SqL K H a (l.map f)) (fun i H x H' => H' = H ∧ ∃ z, l[i]? = some z ∧ x = f z) := by
  have e : l.length = (l.map f).length := by rw [List.length_map]
  rw [e]
  refine (walk_list (K := K) (a := a) (xs := l.map f)).mono (fun H h => h) fun i H x H' _ _ y => ⟨y.1, ?_⟩
  have h := y.2
  rw [List.getElem?_map] at h
  cases q : l[i]? with
  | none => rw [q] at h; cases h
  | some z => rw [q] at h; cases h; exact ⟨z, rfl, rfl⟩
end DL

set_option Elab.async false
set_option maxRecDepth 100000
namespace DL
open PySem L2 HT TL
structure CabOk (C : Addr) (H : Hp) (c : Addr) (n : Int) (bs : List Bar) : Prop where
  h : ∃ (t : Addr) (ks : List (Addr × Bar)), CabAt C H c n t ∧ BarsAt H t ks ∧ ks.map (·.2) = bs ∧ OkBars n bs ∧ 1 ≤ n ∧ n ≤ 7 ∧ bs.length ≤ 100
theorem tYes_of {σ : L2.St} {H : Hp} {Q : Bool → Hp → Prop} (h : Q true H) : tYes σ H Q := h
theorem CabOk.same {C : Addr} {H H' : Hp} {c : Addr} {n : Int} {bs : List Bar} (B : CabOk C H c n bs) (s : Same H H') : CabOk C H' c n bs := by
  obtain ⟨t, ks, ⟨dx, h1⟩, h2, h3⟩ := B.h
  exact ⟨⟨t, ks, ⟨dx, s _ _ h1⟩, h2.same s, h3⟩⟩
structure spGetD (C : Addr) (vs : List V) (H : Hp) (Q : VK) (_ : XK) : Prop where
  h : ∃ (c dx : Addr) (n : Int) (t : Addr), vs = [.ref c] ∧ H c = some (.ins C dx (cfl n t)) ∧ Q (.int n) H
structure spGetB (C : Addr) (vs : List V) (H : Hp) (Q : VK) (_ : XK) : Prop where
  h : ∃ (c dx : Addr) (n : Int) (t : Addr), vs = [.ref c] ∧ H c = some (.ins C dx (cfl n t)) ∧ Q (.ref t) H
/-- the two properties of the class -/
structure CabP (P : Program) (w : World) (K : PySem.W.Frag) (mg : Str → Option Value) (base : Heap) (C : Addr) : Prop where
  cl : Cls K C
  d : ∃ p g fd, PropOf K C "drawers" p g ∧ FnOk P w K mg base CX0 1 g fd ["self"] (spGetD C) ∧ Binds K fd ["self"] []
  b : ∃ p g fd, PropOf K C "bars" p g ∧ FnOk P w K mg base CX0 1 g fd ["self"] (spGetB C) ∧ Binds K fd ["self"] []
structure spGoes (C : Addr) (vs : List V) (H : Hp) (Q : VK) (_ : XK) : Prop where
  h : ∃ (c : Addr) (bs : List Bar) (st : List Bool) (d : Int), vs = [.ref c, .str (sstr st), .int d] ∧ CabOk C H c st.length bs ∧ 0 ≤ d ∧ d < st.length ∧ ∀ H', Same H H' → Q (.bl (goesB bs st d)) H'
structure spBarring (C : Addr) (vs : List V) (H : Hp) (Q : VK) (_ : XK) : Prop where
  h : ∃ (c t : Addr) (ks : List (Addr × Bar)) (st : List Bool) (d : Int), vs = [.ref c, .str (sstr st), .int d] ∧ CabAt C H c st.length t ∧ BarsAt H t ks ∧ OkBars st.length (ks.map (·.2)) ∧ st.length ≤ 7 ∧ ks.length ≤ 100 ∧ 0 ≤ d ∧ d < st.length ∧
    ∀ (p : Addr) (H' : Hp), H p = none → Same H H' → H' p = some (.lst ((ks.filter fun k => hind k.2 st d).map fun k => V.ref k.1)) → Q (.ref p) H'
structure spFreeDrawers (C : Addr) (vs : List V) (H : Hp) (Q : VK) (_ : XK) : Prop where
  h : ∃ (c : Addr) (bs : List Bar) (st : List Bool), vs = [.ref c, .str (sstr st)] ∧ CabOk C H c st.length bs ∧ ∀ (p : Addr) (H' : Hp), H p = none → Same H H' → H' p = some (.lst ((freeL bs st).map V.int)) → Q (.ref p) H'
theorem take_succ_map {α β : Type} (f : α → β) {l : List α} {i : Nat} {x : α} (h : l[i]? = some x) : (l.take i).map f ++ [f x] = (l.take (i + 1)).map f := by
  obtain ⟨hl, e⟩ := List.getElem?_eq_some_iff.mp h
  rw [List.take_succ_eq_append_getElem hl, List.map_append, ← e]
  rfl
section
variable {P : Program} {w : World} {K : PySem.W.Frag} {mg : Str → Option Value} {base : Heap}
theorem scDrawers : FnScope ["self"] ["self"] (defScope sDrawers) := ⟨rfl, rfl, rfl, by decide +kernel, rfl, by decide +kernel, by decide +kernel⟩
theorem ok_getD {f C : Addr} {fd : FuncData} (F : Fun K "drawers" "Cabinet.drawers" sDrawers f fd) (T : CabT K mg C) : FnOk P w K mg base CX0 1 f fd ["self"] (spGetD C) := by
  refine F.ok scDrawers (fun vs H Q E h => ?_) (fun cdv A outer s H vs Q E hr h => ?_)
  · obtain ⟨c, dx, n, t, rfl, _⟩ := h.h
    rfl
  · obtain ⟨c, dx, n, t, rfl, hc, k⟩ := h.h
    exact ⟨_, pss_one (ps_ret (pe_fld (pv 0) rfl)), ⟨_, rfl, c, C, dx, _, _, rfl, hc, T.cl, T.nD, cfl_d n t, k⟩⟩
theorem scBars : FnScope ["self"] ["self"] (defScope sBars) := ⟨rfl, rfl, rfl, by decide +kernel, rfl, by decide +kernel, by decide +kernel⟩
theorem ok_getB {f C : Addr} {fd : FuncData} (F : Fun K "bars" "Cabinet.bars" sBars f fd) (T : CabT K mg C) : FnOk P w K mg base CX0 1 f fd ["self"] (spGetB C) := by
  refine F.ok scBars (fun vs H Q E h => ?_) (fun cdv A outer s H vs Q E hr h => ?_)
  · obtain ⟨c, dx, n, t, rfl, _⟩ := h.h
    rfl
  · obtain ⟨c, dx, n, t, rfl, hc, k⟩ := h.h
    exact ⟨_, pss_one (ps_ret (pe_fld (pv 0) rfl)), ⟨_, rfl, c, C, dx, _, _, rfl, hc, T.cl, T.nB, cfl_b n t, k⟩⟩
abbrev nGoes : List Str := ["cabinet", "standing", "drawer", "bar"]
theorem scAg : FnScope nGoes ["cabinet", "standing", "drawer"] (defScope s_bars_against) := ⟨rfl, rfl, rfl, by decide +kernel, rfl, by decide +kernel, by decide +kernel⟩
theorem ok_against {f f1 C : Addr} {fd fd1 : FuncData} (F : Fun K "bars_against" "bars_against" s_bars_against f fd) (CP : CabP P w K mg base C) (G : FnOk P w K mg base CX0 1 f1 fd1 ["bar", "standing", "drawer"] (spHold K)) (g1 : mg "hinders" = some (.ref f1)) (k1 : PySem.W.keepIn K (.ref f1) = true) (b1 : Binds K fd1 ["bar", "standing", "drawer"] []) :
    FnOk P w K mg base CX0 4 f fd ["cabinet", "standing", "drawer"] (spBarring C) := by
  refine F.ok scAg (fun vs H Q E h => ?_) (fun cdv A outer s H vs Q E hr h => ?_)
  · obtain ⟨c, t, ks, st, d, rfl, _⟩ := h.h
    rfl
  · obtain ⟨c, t, ks, st, d, rfl, ⟨dx, hc⟩, B, O, n7, n100, d0, d1, k⟩ := h.h
    obtain ⟨pB, gB, fdB, hpB, GB, bB⟩ := CP.b
    refine ⟨_, pss_one (ps_ret (pe_lc (own := [("bar", 3)]) (g := gName 3) (by rfl) scAg.nd (pi_tup (pe_prop (pv 0) CP.cl hpB GB (hr.mono (by decide)) bB .nil pass0 rfl)) (blkOk_by (N := nGoes) (sc := defScope s_bars_against) (by decide +kernel)) (fun _ _ _ _ _ => pg_name (i := 3) scAg.nd rfl (Or.inl rfl))
        (fun _ _ _ _ _ => pts_one (pt_val (pe_call G (hr.mono (by decide)) rfl g1 k1 b1 .nil pass0 (pa_cons (pv 3) (pa_cons (pv 1) (pa_cons (pv 2) pa_nil)))))) (fun _ _ _ _ _ => pv 3))), ?_⟩
    refine ⟨_, rfl, c, dx, _, rfl, hc, ⟨⟨c, dx, _, t, rfl, hc, ?_⟩⟩⟩
    refine ⟨t, rfl, ⟨_, SqT.of' B.tu⟩, fun D hD => ?_⟩
    refine lc_pick (walk_bars (K := K) (a := t) (l := ks) (f := fun k => V.ref k.1)) ks rfl (by omega) (fun k => hind k.2 st d) (fun k => V.ref k.1) hD (fun H' s1 => SqT.of' (s1 _ _ B.tu)) ?_ (fun H' s1 hD1 => k D H' hD s1 hD1)
    rintro i x kk H1 H1' Tk Nk ek s1 ⟨rfl, z, ez, rfl⟩ kT kF
    rw [ek] at ez
    cases ez
    have hm : kk ∈ ks := List.mem_of_getElem? ek
    have hok : kk.2.ok st.length := O.ok _ (List.mem_map.mpr ⟨kk, hm, rfl⟩)
    refine ⟨rfl, ?_⟩
    refine ⟨_, rfl, _, rfl, _, rfl, ⟨⟨kk.1, kk.2, st, d, rfl, SqT.of' (s1 _ _ (B.el kk hm)), hok, by omega, d0, d1, _, rfl, ?_⟩⟩⟩
    cases e : hind kk.2 st d with
    | true => exact iteT ⟨_, rfl, kT _ e (Same.refl _)⟩
    | false => exact iteF (kF _ e (Same.refl _))
theorem goes_empty {ks : List (Addr × Bar)} {bs : List Bar} (e : ks.map (·.2) = bs) (st : List Bool) (d : Int) : ((ks.filter fun k => hind k.2 st d).map fun k => V.ref k.1).isEmpty = goesB bs st d := by
  subst e
  unfold goesB
  induction ks with
  | nil => rfl
  | cons k ks ih =>
    rw [List.map_cons, List.any_cons]
    by_cases q : hind k.2 st d = true
    · rw [List.filter_cons, if_pos q, q]
      rfl
    · rw [List.filter_cons, if_neg q]
      have q' : hind k.2 st d = false := by simpa using q
      rw [q', Bool.false_or]
      exact ih
theorem scGoes : FnScope ["cabinet", "standing", "drawer"] ["cabinet", "standing", "drawer"] (defScope s_goes) := ⟨rfl, rfl, rfl, by decide +kernel, rfl, by decide +kernel, by decide +kernel⟩
theorem ok_goes {f f1 C : Addr} {fd fd1 : FuncData} (F : Fun K "goes" "goes" s_goes f fd) (G : FnOk P w K mg base CX0 4 f1 fd1 ["cabinet", "standing", "drawer"] (spBarring C)) (g1 : mg "bars_against" = some (.ref f1)) (k1 : PySem.W.keepIn K (.ref f1) = true) (b1 : Binds K fd1 ["cabinet", "standing", "drawer"] []) :
    FnOk P w K mg base CX0 6 f fd ["cabinet", "standing", "drawer"] (spGoes C) := by
  refine F.ok scGoes (fun vs H Q E h => ?_) (fun cdv A outer s H vs Q E hr h => ?_)
  · obtain ⟨c, bs, st, d, rfl, _⟩ := h.h
    rfl
  · obtain ⟨c, bs, st, d, rfl, B, d0, d1, k⟩ := h.h
    obtain ⟨t, ks, hc, hB, ebs, O, n1, n7, n100⟩ := B.h
    refine ⟨_, pss_one (ps_ret (pe_notT (pe_call G (hr.mono (by decide)) rfl g1 k1 b1 .nil pass0 (pa_cons (pv 0) (pa_cons (pv 1) (pa_cons (pv 2) pa_nil)))))), ?_⟩
    refine ⟨_, rfl, _, rfl, _, rfl, ⟨⟨c, t, ks, st, d, rfl, hc, hB, by rw [ebs]; exact O, by omega, by rw [← ebs, List.length_map] at n100; exact n100, d0, d1, fun p H' hp s1 h1 => ?_⟩⟩⟩
    refine ⟨_, .inl ⟨_, SqL.of h1, rfl⟩, ?_⟩
    rw [Bool.not_not, goes_empty ebs]
    exact k H' s1
end
end DL

set_option Elab.async false
set_option maxRecDepth 100000
namespace DL
open PySem L2 HT TL
theorem drs_get {n i : Nat} (h : i < n) : (drs n)[i]? = some (i : Int) := by
  unfold drs
  rw [List.getElem?_map, List.getElem?_range h]
  rfl
theorem take_succ_filter {α : Type} (f : α → Bool) {l : List α} {i : Nat} {x : α} (h : l[i]? = some x) : (l.take (i + 1)).filter f = if f x = true then (l.take i).filter f ++ [x] else (l.take i).filter f := by
  obtain ⟨hl, e⟩ := List.getElem?_eq_some_iff.mp h
  rw [List.take_succ_eq_append_getElem hl, List.filter_append, e]
  by_cases q : f x = true
  · rw [if_pos q, List.filter_cons_of_pos q, List.filter_nil]
  · rw [if_neg q, List.filter_cons_of_neg q, List.filter_nil, List.append_nil]
theorem drs_len (n : Nat) : (drs n).length = n := by unfold drs; rw [List.length_map, List.length_range]
/-- a drawn cabinet's parts: the list at p -/
structure DrOk (H : Hp) (p : Addr) (n : Int) (bs : List Bar) : Prop where
  h : ∃ (t : Addr) (ks : List (Addr × Bar)) (zs : List V), H p = some (.lst (.int n :: .ref t :: zs)) ∧ BarsAt H t ks ∧ ks.map (·.2) = bs ∧ OkBars n bs ∧ 1 ≤ n ∧ n ≤ 7 ∧ bs.length ≤ 100
theorem DrOk.same {H H' : Hp} {p : Addr} {n : Int} {bs : List Bar} (B : DrOk H p n bs) (s : Same H H') : DrOk H' p n bs := by
  obtain ⟨t, ks, zs, h1, h2, h3⟩ := B.h
  exact ⟨⟨t, ks, zs, s _ _ h1, h2.same s, h3⟩⟩
theorem join_codes (cs : List Nat) : Txt.join "" (cs.map fun c => (⟨#[c]⟩ : Str)) = ⟨cs.toArray⟩ := by
  rw [join_eq]
  refine PyProof.Rows.ext_toList ?_
  show tl _ = cs
  rw [tl_join]
  have z : tl ("" : Str) = [] := by decide +kernel
  rw [z]
  have : ∀ l : List Nat, joinL [] ((l.map fun c => (⟨#[c]⟩ : Str)).map tl) = l := by
    intro l
    induction l with
    | nil => rfl
    | cons a l ih =>
      cases l with
      | nil => rfl
      | cons b l =>
        show [a] ++ ([] ++ joinL [] (((b :: l).map fun c => (⟨#[c]⟩ : Str)).map tl)) = _
        rw [ih]
        rfl
  exact this cs
theorem sum_ones (cs : List Nat) : ((cs.map fun c => (⟨#[c]⟩ : Str)).map (·.length)).sum = cs.length := by
  induction cs with
  | nil => rfl
  | cons a l ih =>
    rw [List.map_cons, List.map_cons, List.sum_cons, ih, List.length_cons]
    show 1 + l.length = _
    omega
structure spPattern (K : PySem.W.Frag) (vs : List V) (H : Hp) (Q : VK) (_ : XK) : Prop where
  h : ∃ (r sc : Addr) (ns : List Int) (n : Int) (z : Str), vs = [.ref r, .int n, .str z] ∧ RowOk H r sc ∧ SqL K H sc (ns.map V.int) ∧ 1 ≤ n ∧ n ≤ 7 ∧ 1 ≤ z.length ∧ z.length ≤ 100 ∧
    ∀ (cs : List Nat) (H' : Hp), (cs.length : Int) = n → (∀ c ∈ cs, c ∈ z.cps.toList) → RowOk H' r sc → But r H H' → Q (.str ⟨cs.toArray⟩) H'
section
variable {P : Program} {w : World} {K : PySem.W.Frag} {mg : Str → Option Value} {base : Heap}
abbrev nFD : List Str := ["cabinet", "standing", "drawer"]
theorem scFD : FnScope nFD ["cabinet", "standing"] (defScope s_free_drawers) := ⟨rfl, rfl, rfl, by decide +kernel, rfl, by decide +kernel, by decide +kernel⟩
theorem ok_freeDrawers {f f1 C : Addr} {fd fd1 : FuncData} (F : Fun K "free_drawers" "free_drawers" s_free_drawers f fd) (T : Bt mg) (CP : CabP P w K mg base C) (G : FnOk P w K mg base CX0 6 f1 fd1 ["cabinet", "standing", "drawer"] (spGoes C)) (g1 : mg "goes" = some (.ref f1)) (k1 : PySem.W.keepIn K (.ref f1) = true) (b1 : Binds K fd1 ["cabinet", "standing", "drawer"] []) :
    FnOk P w K mg base CX0 8 f fd ["cabinet", "standing"] (spFreeDrawers C) := by
  refine F.ok scFD (fun vs H Q E h => ?_) (fun cdv A outer s H vs Q E hr h => ?_)
  · obtain ⟨c, bs, st, rfl, _⟩ := h.h
    rfl
  · obtain ⟨c, bs, st, rfl, B, k⟩ := h.h
    obtain ⟨t, ks, ⟨dx, hc⟩, hB, ebs, O, n1, n7, n100⟩ := id B.h
    obtain ⟨pD, gD, fdD, hpD, GD, bD⟩ := CP.d
    refine ⟨_, pss_one (ps_ret
      (pe_lc (own := [("drawer", 2)]) (g := gName 2) (by rfl) scFD.nd (pi_range1 (by rfl) T.range (pa_cons (pe_prop (pv 0) CP.cl hpD GD (hr.mono (by decide)) bD .nil pass0 rfl) pa_nil)) (blkOk_by (N := nFD) (sc := defScope s_free_drawers) (by decide +kernel)) (fun _ _ _ _ _ => pg_name (i := 2) scFD.nd rfl (by first | exact Or.inl rfl | exact Or.inr rfl))
        (fun _ _ _ _ _ => pts_one (pt_val (pe_call G (hr.mono (by decide)) rfl g1 k1 b1 .nil pass0 (pa_cons (pv 0) (pa_cons (pv 1) (pa_cons (pv 2) pa_nil)))))) (fun _ _ _ _ _ => pv 2))), ?_⟩
    refine ⟨_, rfl, c, dx, _, rfl, hc, ⟨⟨c, dx, _, t, rfl, hc, ?_⟩⟩⟩
    refine ⟨_, rfl, by omega, by omega, fun D hD => ?_⟩
    refine lc_range (lo := 0) (n := st.length) (fun i H' => Same H H' ∧ H' D = some (.lst ((((drs st.length).take i).filter fun d => goesB bs st d).map V.int))) ⟨same_upd hD, upd_same⟩ ?_ ?_
    · rintro i H' hi ⟨s1, hD1⟩
      refine ⟨rfl, ?_⟩
      have ei : (0 : Int) + (i : Nat) = (i : Int) := by omega
      refine ⟨_, rfl, _, rfl, _, rfl, ⟨⟨c, bs, st, (0 : Int) + (i : Nat), rfl, B.same s1, by omega, by omega, fun H2 s2 => ⟨_, rfl, ?_⟩⟩⟩⟩
      rw [take_succ_filter (fun d => goesB bs st d) (drs_get hi), ei]
      cases e : goesB bs st i with
      | true =>
        refine iteT ⟨_, rfl, _, s2 _ _ hD1, ?_, fun b o eb => ?_, ?_⟩
        · rw [List.length_map]
          have := List.length_filter_le (fun d => goesB bs st d) ((drs st.length).take i)
          rw [List.length_take, drs_len] at this
          exact small1000 (by omega)
        · rw [upd_ne (ne_of_none eb hD)]
          exact s2 _ _ (s1 _ _ eb)
        · rw [upd_same, if_pos rfl, List.map_append]
          rfl
      | false =>
        refine iteF ⟨fun b o eb => s2 _ _ (s1 _ _ eb), ?_⟩
        rw [if_neg Bool.false_ne_true]
        exact s2 _ _ hD1
    · rintro H' ⟨s1, hD1⟩
      refine k D H' hD s1 ?_
      rw [List.take_of_length_le (by rw [drs_len]; exact Nat.le_refl _)] at hD1
      exact hD1
theorem scLHold : FnScope ["_law_bar", "_law_standing", "_law_drawer"] ["_law_bar", "_law_standing", "_law_drawer"] (defScope s__law_hold) := ⟨rfl, rfl, rfl, by decide +kernel, rfl, by decide +kernel, by decide +kernel⟩
theorem ok_lawHold {f : Addr} {fd : FuncData} (F : Fun K "_law_hold" "_law_hold" s__law_hold f fd) : FnOk P w K mg base CX0 1 f fd ["_law_bar", "_law_standing", "_law_drawer"] (spHold K) := by
  refine F.ok scLHold (fun vs H Q E h => ?_) (fun cdv A outer s H vs Q E hr h => ?_)
  · obtain ⟨a, b, st, d, rfl, _⟩ := h.h
    rfl
  · obtain ⟨a, b, st, d, rfl, hq, hb, h7, d0, d1, k⟩ := h.h
    obtain ⟨b1, b2, b3, b4, b5⟩ := hb
    refine ⟨_, pss_cons (ps_if (PW.pt (pw_or (pt_cmpR op_ne (pe_ix ix_tup (pv 0) pe_int (fun _ _ => rfl)) (pv 2) (nomark _)) (pw_or1 (pt_cmpR op_ne (pe_ix ix_tup (pv 0) pe_int (fun _ _ => rfl)) (pe_ifExp (pt_cmpR op_eq (pe_ix ix_str (pv 1) (pv 2) (fun _ _ => rfl)) pe_str (nomark _)) pe_str pe_str) (nomark _))))) (pss_one (ps_ret pe_bl)) pss_nil)
      (pss_one (ps_ret (pe_cmpR op_ne (pe_ix ix_tup (pv 0) pe_int (fun _ _ => rfl)) (pe_ifExp (pt_cmpR op_eq (pe_ix ix_str (pv 1) (pe_ix ix_tup (pv 0) pe_int (fun _ _ => rfl)) (fun _ _ => rfl)) pe_str (nomark _)) pe_str pe_str) (nomark _)))), ?_⟩
    refine ⟨_, rfl, a, _, 0, .int b.d, rfl, rfl, hq, atI_nat (j := 0) rfl, _, rfl, rfl, _, rfl, ?_⟩
    have e0 : decide ((V.int b.d) = V.int d) = decide (b.d = d) := decide_eq_decide.mpr ⟨fun z => by injection z, fun z => by rw [z]⟩
    show if (!decide ((V.int b.d) = V.int d)) = true then _ else _
    rw [e0]
    unfold hind at k
    by_cases q : b.d = d
    · rw [decide_eq_true q] at k ⊢
      refine iteF ?_
      refine ⟨_, rfl, a, _, 1, .str (wd b.w), rfl, rfl, hq, atI_nat (j := 1) rfl, ?_⟩
      refine ⟨_, rfl, _, rfl, _, d, _, rfl, rfl, str_small h7, sstr_at d0 d1, rfl, _, rfl, ?_⟩
      show if decide ((V.str ⟨#[sg (sat st d)]⟩) = V.str "s") = true then _ else _
      rw [sgs_s]
      have second : ∀ H0 : Hp, H0 = H → (sat st d == b.w) = true → (tRet (tOp rNe (tOp (rIxT K) (tVar 0) (tC (.int 3))) (tIf (tTest (tOp rEq (tOp rIxS (tVar 1) (tOp (rIxT K) (tVar 0) (tC (.int 2)))) (tC (.str "o")))) (tC (.str "open")) (tC (.str "shut"))))
          { nx := fun _ H' => Q .non H', rt := Q } (L2.start ["_law_bar", "_law_standing", "_law_drawer"] [.ref a, .str (sstr st), .int d]) H0) := by
        intro H0 e0 e1
        subst e0
        rw [e1] at k
        refine ⟨_, rfl, a, _, 3, .str (wd b.t), rfl, rfl, hq, atI_nat (j := 3) rfl, ?_⟩
        refine ⟨_, rfl, _, rfl, a, _, 2, .int b.o, rfl, rfl, hq, atI_nat (j := 2) rfl, _, b.o, _, rfl, rfl, str_small h7, sstr_at b3 b4, rfl, _, rfl, ?_⟩
        show if decide ((V.str ⟨#[sg (sat st b.o)]⟩) = V.str "o") = true then _ else _
        rw [sgs_o]
        cases e : sat st b.o with
        | true =>
          rw [e] at k
          refine iteT ⟨rfl, ?_⟩
          show Q (.bl (!decide ((V.str (wd b.t)) = V.str (wd false)))) H0
          rw [wd_ne]
          revert k; cases b.t <;> exact id
        | false =>
          rw [e] at k
          refine iteF ⟨rfl, ?_⟩
          show Q (.bl (!decide ((V.str (wd b.t)) = V.str (wd true)))) H0
          rw [wd_ne]
          revert k; cases b.t <;> exact id
      cases e : sat st d with
      | false =>
        refine iteT ⟨rfl, _, rfl, ?_⟩
        show if (!decide ((V.str (wd b.w)) = V.str (wd false))) = true then _ else _
        rw [wd_ne]
        cases ew : b.w with
        | false => exact iteF (second H rfl (by rw [e, ew]; rfl))
        | true =>
          rw [e, ew] at k
          exact iteT k
      | true =>
        refine iteF ⟨rfl, _, rfl, ?_⟩
        show if (!decide ((V.str (wd b.w)) = V.str (wd true))) = true then _ else _
        rw [wd_ne]
        cases ew : b.w with
        | true => exact iteF (second H rfl (by rw [e, ew]; rfl))
        | false =>
          rw [e, ew] at k
          exact iteT k
    · rw [decide_eq_false q] at k ⊢
      exact iteT k
end
end DL

set_option Elab.async false
set_option maxRecDepth 100000
namespace DL
open PySem L2 HT TL
section
variable {P : Program} {w : World} {K : PySem.W.Frag} {mg : Str → Option Value} {base : Heap}
abbrev nLP : List Str := ["_law_row", "_law_many", "_law_signs", "_law_at"]
theorem scLP : FnScope nLP ["_law_row", "_law_many", "_law_signs"] (defScope s__law_pattern) := ⟨rfl, rfl, rfl, by decide +kernel, rfl, by decide +kernel, by decide +kernel⟩
theorem ok_lawPattern {f f1 : Addr} {fd fd1 : FuncData} (F : Fun K "_law_pattern" "_law_pattern" s__law_pattern f fd) (T : Bt mg) (G : FnOk P w K mg base CX0 1 f1 fd1 ["_law_row", "_law_many"] (spTaken K)) (g1 : mg "_law_taken" = some (.ref f1)) (k1 : PySem.W.keepIn K (.ref f1) = true) (b1 : Binds K fd1 ["_law_row", "_law_many"] []) :
    FnOk P w K mg base CX0 2 f fd ["_law_row", "_law_many", "_law_signs"] (spPattern K) := by
  refine F.ok scLP (fun vs H Q E h => ?_) (fun cdv A outer s H vs Q E hr h => ?_)
  · obtain ⟨r, sc, ns, n, z, rfl, _⟩ := h.h
    rfl
  · obtain ⟨r, sc, ns, n, z, rfl, R, S, n1, n7, z1, z100, k⟩ := h.h
    refine ⟨_, pss_one (ps_ret (pe_join pe_str
      (pe_lc (own := [("_law_at", 3)]) (g := gName 3) (tt := tYes) (by rfl) scLP.nd (pi_range1 (by rfl) T.range (pa_cons (pv 1) pa_nil)) (blkOk_by (N := nLP) (sc := defScope s__law_pattern) (by decide +kernel)) (fun _ _ _ _ _ => pg_name (i := 3) scLP.nd rfl (by first | exact Or.inl rfl | exact Or.inr rfl)) (fun _ _ _ _ _ => pts_nil)
        (fun _ _ _ _ _ => pe_ix ix_str (pv 2) (pe_call G (hr.mono (by decide)) rfl g1 k1 b1 .nil pass0 (pa_cons (pv 0) (pa_cons (pe_callB call_len_str (by rfl) T.len PySem.boot_len (pa_cons (pv 2) pa_nil)) pa_nil))) (fun _ _ => rfl))))), ?_⟩
    have zs : z.length ≤ sizeLine := Nat.le_of_lt (small1000 (by omega))
    refine ⟨⟨_, rfl⟩, ?_⟩
    refine ⟨_, rfl, _, rfl, by omega, by omega, fun D hD => ?_⟩
    obtain ⟨i0, m0, e0, hR0, _⟩ := id R.h
    have nDr : D ≠ r := (ne_of_none hR0 hD).symm
    refine lc_range (lo := 0) (n := n.toNat) (fun i H' => RowOk H' r sc ∧ But r H H' ∧ ∃ cs : List Nat, cs.length = i ∧ (∀ c ∈ cs, c ∈ z.cps.toList) ∧ H' D = some (.lst ((cs.map fun c => (⟨#[c]⟩ : Str)).map V.str)))
      ⟨R.same (same_upd hD), sbut (same_upd hD), [], rfl, fun c hc => by simp at hc, upd_same⟩ ?_ ?_
    · rintro i H' hi ⟨R1, B1, cs, hl, hc, hD1⟩
      refine ⟨rfl, tYes_of (iteT ?_)⟩
      refine ⟨_, rfl, _, rfl, _, rfl, _, rfl, zs, ⟨⟨r, sc, ns, _, rfl, R1, B1.seqR R S, by omega, by omega, fun v H2 v0 v1 R2 B2 => ?_⟩⟩⟩
      have hlt : v.toNat < z.cps.toList.length := by
        have : z.length = z.cps.toList.length := by simp [Str.length]
        omega
      have hat : atI z.cps.toList v = some (z.cps.toList[v.toNat]) := by
        have e := atI_nat (List.getElem?_eq_getElem hlt)
        rw [Int.toNat_of_nonneg v0] at e
        exact e
      refine ⟨_, _, _, rfl, rfl, zs, hat, _, B2 _ _ nDr hD1, ?_, ?_, ?_, cs ++ [z.cps.toList[v.toNat]], ?_, fun c hm => ?_, ?_⟩
      · rw [List.length_map, List.length_map, hl]
        exact small1000 (by omega)
      · obtain ⟨i', m', e', q1, q2⟩ := R2.h
        exact ⟨⟨i', m', e', by rw [upd_ne (Ne.symm nDr)]; exact q1, q2⟩⟩
      · intro c o hcr hH
        rw [upd_ne (ne_of_none hH hD)]
        exact B2 _ _ hcr (B1 _ _ hcr hH)
      · rw [List.length_append, hl]; rfl
      · rcases List.mem_append.mp hm with hm | hm
        · exact hc c hm
        · rw [List.mem_singleton.mp hm]; exact List.getElem_mem _
      · rw [upd_same, List.map_append, List.map_append]
        rfl
    · rintro H' ⟨R1, B1, cs, hl, hc, hD1⟩
      refine ⟨_, D, _, rfl, rfl, .inl (SqL.of hD1), ?_, ?_⟩
      · rw [sum_ones, List.length_map]
        have z : ("" : Str).length = 0 := by decide +kernel
        rw [z]
        omega
      · rw [join_codes]
        exact k cs H' (by omega) hc R1 B1
end
end DL

set_option Elab.async false
set_option maxRecDepth 100000
namespace DL
open PySem L2 HT TL
/-! ### plain data: what == sees -/
/-- data of so many levels at most, whose texts are texts -/
def dok (k : Nat) (d : PyData) : Prop := d.canLay0 = true ∧ d.depth ≤ k
theorem dok_shaped {k : Nat} {d : PyData} (h : dok k d) (hk : k ≤ 64) : SeqAt.shaped d = true := by
  unfold SeqAt.shaped
  rw [h.1, decide_eq_true (Nat.le_trans h.2 hk)]
  rfl
theorem dok_all {k : Nat} : ∀ {ds : List PyData}, (∀ d ∈ ds, dok k d) → PyData.canLayAll0 ds = true ∧ PyData.depthAll ds ≤ k
  | [], _ => ⟨by simp [PyData.canLayAll0], by simp [PyData.depthAll]⟩
  | d :: ds, h => by
    obtain ⟨h1, h2⟩ := dok_all (ds := ds) fun e he => h e (List.mem_cons_of_mem _ he)
    obtain ⟨h3, h4⟩ := h d List.mem_cons_self
    refine ⟨by simp [PyData.canLayAll0, h1, h3], ?_⟩
    simp only [PyData.depthAll]
    omega
theorem dok_list {k : Nat} {ds : List PyData} (h : ∀ d ∈ ds, dok k d) : dok (k + 1) (.list ds) := by
  obtain ⟨h1, h2⟩ := dok_all h
  exact ⟨by simpa [PyData.canLay0] using h1, by simp only [PyData.depth]; omega⟩
theorem dok_tuple {k : Nat} {ds : List PyData} (h : ∀ d ∈ ds, dok k d) : dok (k + 1) (.tuple ds) := by
  obtain ⟨h1, h2⟩ := dok_all h
  exact ⟨by simpa [PyData.canLay0] using h1, by simp only [PyData.depth]; omega⟩
theorem dok_int (i : Int) : dok 1 (.int i) := ⟨by simp [PyData.canLay0], by simp [PyData.depth]⟩
theorem dpAll_ints {K : PySem.W.Frag} {H : Hp} : ∀ l : List Int, DpAll K H (l.map V.int) (l.map PyData.int)
  | [] => .nil
  | i :: l => .cons (.int i) (dpAll_ints l)
end DL
namespace DL
open PySem L2 HT TL
theorem dok_str {z : Str} (h : PyData.strOk z = true) : dok 1 (.str z) := ⟨by simpa [PyData.canLay0] using h, by simp [PyData.depth]⟩
theorem wd_strOk (b : Bool) : PyData.strOk (wd b) = true := by revert b; decide +kernel
def barD (b : Bar) : PyData := .tuple [.int b.d, .str (wd b.w), .int b.o, .str (wd b.t)]
theorem dok_bar (b : Bar) : dok 2 (barD b) := dok_tuple fun d hd => by
  simp only [List.mem_cons, List.not_mem_nil, or_false] at hd
  rcases hd with rfl | rfl | rfl | rfl
  · exact dok_int _
  · exact dok_str (wd_strOk _)
  · exact dok_int _
  · exact dok_str (wd_strOk _)
theorem dp_bar {K : PySem.W.Frag} {H : Hp} {a : Addr} {b : Bar} (h : SqT K H a b.vs) : Dp K H (.ref a) (barD b) := .tup h (.cons (.int _) (.cons (.str _) (.cons (.int _) (.cons (.str _) .nil))))
theorem dpAll_bars {K : PySem.W.Frag} {H : Hp} : ∀ {ks : List (Addr × Bar)}, (∀ k ∈ ks, H k.1 = some (.tup k.2.vs)) → DpAll K H (ks.map fun k => V.ref k.1) (ks.map fun k => barD k.2)
  | [], _ => .nil
  | k :: ks, h => .cons (dp_bar (SqT.of' (h k List.mem_cons_self))) (dpAll_bars fun j hj => h j (List.mem_cons_of_mem _ hj))
theorem dok_bars (ks : List (Addr × Bar)) : ∀ d ∈ ks.map (fun k => barD k.2), dok 2 d := fun d hd => by
  obtain ⟨k, _, rfl⟩ := List.mem_map.mp hd
  exact dok_bar k.2
theorem dok_ints (l : List Int) : ∀ d ∈ l.map PyData.int, dok 1 d := fun d hd => by
  obtain ⟨i, _, rfl⟩ := List.mem_map.mp hd
  exact dok_int i
theorem eqv_self {k : Nat} {d : PyData} (h : dok k d) : PyData.eqv d d = true := SeqAt.eqv_refl d h.1
end DL

set_option Elab.async false
set_option maxRecDepth 100000
namespace DL
open PySem L2 HT TL
/-! ### the checks -/
structure spSigns (vs : List V) (H : Hp) (Q : VK) (_ : XK) : Prop where
  h : ∃ (n : Int) (y z : Str), vs = [.int n, .str y, .str z] ∧ (y.length : Int) = n ∧ n ≤ 7 ∧ (∀ c ∈ y.cps.toList, c ∈ z.cps.toList) ∧ ∀ H', Same H H' → Q (.bl true) H'
/-- isinstance of a cabinet -/
structure CabI (K : PySem.W.Frag) (mg : Str → Option Value) (C : Addr) : Prop where
  cl : Cls K C
  mgC : mg "Cabinet" = some (.ref C)
  ha : PySem.W.findIn K (.ref C) "__class__" = some (some (.builtin "object.__class__"))
  hn : PySem.W.specialIn K (.builtin "object.__class__") "__get__" = some (some (.builtin "getset_descriptor.__get__"))
  htk : PySem.W.takesIn K (.builtin "object.__class__") = some true
  hm : PySem.W.mroIn K C (.type "object") = some true
  kk : PySem.W.kitOne K (.ref C) (.ref C) = some true
structure spCkCab (C : Addr) (vs : List V) (H : Hp) (Q : VK) (_ : XK) : Prop where
  h : ∃ (c : Addr) (n : Int) (t : Addr), vs = [.ref c] ∧ CabAt C H c n t ∧ Q .non H
theorem all_true (n : Nat) : (List.replicate n true).all id = true := by
  rw [List.all_eq_true]
  intro x hx
  exact (List.mem_replicate.mp hx).2 ▸ rfl
theorem CabOk.cab {C : Addr} {H : Hp} {c : Addr} {n : Int} {bs : List Bar} (B : CabOk C H c n bs) : ∃ t, CabAt C H c n t ∧ n ≤ 7 := by
  obtain ⟨t, ks, h1, h2, h3, h4, h5, h6, h7⟩ := B.h
  exact ⟨t, h1, h6⟩
section
variable {P : Program} {w : World} {K : PySem.W.Frag} {mg : Str → Option Value} {base : Heap}
abbrev nHS : List Str := ["drawers", "value", "signs", "sign"]
theorem scHS : FnScope nHS ["drawers", "value", "signs"] (defScope s_has_signs) := ⟨rfl, rfl, rfl, by decide +kernel, rfl, by decide +kernel, by decide +kernel⟩
theorem ok_hasSigns {f : Addr} {fd : FuncData} (F : Fun K "has_signs" "has_signs" s_has_signs f fd) (T : Bt mg) (zS : mg "str" = none) (zA : mg "all" = none) : FnOk P w K mg base CX0 1 f fd ["drawers", "value", "signs"] spSigns := by
  refine F.ok scHS (fun vs H Q E h => ?_) (fun cdv A outer s H vs Q E hr h => ?_)
  · obtain ⟨n, y, z, rfl, _⟩ := h.h
    rfl
  · obtain ⟨n, y, z, rfl, hl, h7, hc, k⟩ := h.h
    refine ⟨_, pss_cons (ps_if (PW.pt (pw_or (pt_not (pt_val (pe_callB call_isi (by rfl) T.isinstance (by decide +kernel) (pa_cons (pv 1) (pa_cons (pe_bltn (v := .ty "str") (by rfl) zS (by decide +kernel) rfl) pa_nil)))))
        (pw_or1 (pt_cmpR op_ne (pe_callB call_len_str (by rfl) T.len PySem.boot_len (pa_cons (pv 1) pa_nil)) (pv 0) (nomark _))))) (pss_one (ps_ret pe_bl)) pss_nil)
      (pss_one (ps_ret (pe_callB (cr_all rfl) (by rfl) zA boot_all_ (pa_cons
        (pe_lc (own := [("sign", 3)]) (g := gName 3) (tt := tYes) (by rfl) scHS.nd (pi_str (pv 1)) (blkOk_by (N := nHS) (sc := defScope s_has_signs) (by decide +kernel)) (fun _ _ _ _ _ => pg_name (i := 3) scHS.nd rfl (by first | exact Or.inl rfl | exact Or.inr rfl)) (fun _ _ _ _ _ => pts_nil)
          (fun _ _ _ _ _ => pe_cmpR op_in_sign (pv 3) (pv 2) (by rfl))) pa_nil)))), ?_⟩
    have ysz : y.length ≤ sizeLine := Nat.le_of_lt (small1000 (by omega))
    refine ⟨_, rfl, _, _, _, _, true, rfl, .ty "str", .base (.str y), kit_ty (by decide +kernel), _, rfl, iteF ?_⟩
    refine ⟨_, rfl, _, rfl, ysz, _, rfl, rfl, _, rfl, ?_⟩
    have e0 : decide ((V.int (y.length : Int)) = V.int n) = true := decide_eq_true (by rw [hl])
    show if (!decide ((V.int (y.length : Int)) = V.int n)) = true then _ else _
    rw [e0]
    refine iteF ?_
    refine ⟨_, rfl, _, rfl, fun D hD => ?_⟩
    refine lc_it walk_str (fun i H' => Same H H' ∧ H' D = some (.lst ((List.replicate i true).map V.bl))) ⟨same_upd hD, upd_same⟩ (fun _ _ _ _ => trivial) ?_ ?_
    · rintro i x H1 H2 hi ⟨s1, hD1⟩ ⟨rfl, c, hcc, rfl⟩
      refine ⟨rfl, tYes_of (iteT ?_)⟩
      have hm : c ∈ z.cps.toList := hc c (List.mem_of_getElem? (by rw [Array.getElem?_toList]; exact hcc))
      refine ⟨_, rfl, _, rfl, c, z, rfl, rfl, ?_⟩
      rw [decide_eq_true hm]
      refine ⟨_, hD1, ?_, fun b o e => ?_, ?_⟩
      · rw [List.length_map, List.length_replicate]
        have : y.length = y.cps.size := rfl
        exact small1000 (by omega)
      · rw [upd_ne (ne_of_none e hD)]
        exact s1 b o e
      · rw [upd_same, List.replicate_succ', List.map_append]
        rfl
    · rintro H' ⟨s1, hD1⟩
      refine ⟨D, _, rfl, SqL.of hD1, ?_⟩
      rw [all_true]
      exact k H' s1
theorem scCkCab : FnScope ["cabinet"] ["cabinet"] (defScope s_check_cabinet) := ⟨rfl, rfl, rfl, by decide +kernel, rfl, by decide +kernel, by decide +kernel⟩
theorem ok_ckCab {f C : Addr} {fd : FuncData} (F : Fun K "check_cabinet" "check_cabinet" s_check_cabinet f fd) (T : Bt mg) (I : CabI K mg C) : FnOk P w K mg base CX0 1 f fd ["cabinet"] (spCkCab C) := by
  refine F.ok scCkCab (fun vs H Q E h => ?_) (fun cdv A outer s H vs Q E hr h => ?_)
  · obtain ⟨c, n, t, rfl, _⟩ := h.h
    rfl
  · obtain ⟨c, n, t, rfl, ⟨dx, hc⟩, k⟩ := h.h
    refine ⟨_, pss_one (ps_if (pt_not (pt_val (pe_callB call_isi (by rfl) T.isinstance (by decide +kernel) (pa_cons (pv 0) (pa_cons (pe_glob (v := .ref C) rfl I.mgC rfl) pa_nil))))) (pss_one ps_never) pss_nil), ?_⟩
    exact ⟨_, rfl, _, _, _, _, true, rfl, .own C, .base (.ins hc I.cl I.ha I.hn I.htk I.hm), I.kk, _, rfl, iteF k⟩
end
end DL

set_option Elab.async false
set_option maxRecDepth 100000
namespace DL
open PySem PySem.Spec PyProof.Rows L2
/-! ### text * number -/
theorem op_mul_str {X : Cx} : OpR X (binaryOp .Mult) (fun x y H Q => ∃ (z : Str) (n : Int), x = .str z ∧ y = .int n ∧ MulOk z n ∧ Q (.str (Txt.mul z n)) H) := by
  intro pins s σ H x y v u Q I rx ry h
  obtain ⟨z, n, rfl, rfl, ok, q⟩ := h
  obtain ⟨t, rfl⟩ := rx
  obtain ⟨t', rfl⟩ := ry
  exact SB.mul ok fun t2 k => ⟨.str _, H, I.tok k, ⟨_, rfl⟩, q⟩
theorem mulOk_one {z : Str} {n : Int} (hz : z.length = 1) (h1 : 1 ≤ n) (h7 : n ≤ 7) : MulOk z n := by
  refine ⟨?_, fun _ _ => ?_, fun _ _ => ?_⟩
  · rw [decide_eq_false (by omega), decide_eq_false (by omega)]; rfl
  · rw [hz]
    have : n = 1 ∨ n = 2 ∨ n = 3 ∨ n = 4 ∨ n = 5 ∨ n = 6 ∨ n = 7 := by omega
    rcases this with rfl | rfl | rfl | rfl | rfl | rfl | rfl <;> decide
  · rw [hz]
    have : n = 1 ∨ n = 2 ∨ n = 3 ∨ n = 4 ∨ n = 5 ∨ n = 6 ∨ n = 7 := by omega
    rcases this with rfl | rfl | rfl | rfl | rfl | rfl | rfl <;> decide +kernel
/-! ### for a, b in zip(x, y), two texts -/
def ItzS (x y : Str) : It :=
  ⟨fun i _ => i < x.cps.size ∧ i < y.cps.size, fun i H v H' => ∃ T c d, v = .ref T ∧ H T = none ∧ H' = upd H T (.tup [.str ⟨#[c]⟩, .str ⟨#[d]⟩]) ∧ x.cps[i]? = some c ∧ y.cps[i]? = some d,
    fun i _ => i ≤ x.cps.size ∧ i ≤ y.cps.size ∧ (i = x.cps.size ∨ i = y.cps.size)⟩
theorem turn_zipS {P : Program} {w : World} {K : PySem.W.Frag} {elts : List Expr} {kk : Nat} {tpos : Pos} {x y : Str} {tx ty : Tok} {z TI TO i1 i2 : Addr} (S : ZipSep2 z TI TO i1 i2 [i1] [i2]) :
    Turn P w K (.Tuple elts kk tpos) (ItzS x y) [z, TI, TO, i1, i2] z (fun i h => IsZip h z TI TO .none ∧ IsTupOf2 h TI (.ref i1) (.ref i2) ∧ (∃ a b, IsTupOf2 h TO a b) ∧ h.IsStrIter i1 (strIterType x) x tx i ∧ h.IsStrIter i2 (strIterType y) y ty i) where
  mem := by simp
  obj := fun i h st c hc => by
    obtain ⟨hz, hTI, ⟨a, b, hTO⟩, ⟨o1, e1, _, d1⟩, ⟨o2, e2, _, d2⟩⟩ := st
    have e' : c = z ∨ c = TI ∨ c = TO ∨ c = i1 ∨ c = i2 := by simpa using hc
    rcases e' with q | q | q | q | q
    · rw [q]; exact ⟨_, hz, fun v q => nomatch q⟩
    · rw [q]; exact ⟨_, hTI, fun v q => nomatch q⟩
    · rw [q]; exact ⟨_, hTO, fun v q => nomatch q⟩
    · rw [q]; exact ⟨o1, e1, fun v q => by rw [d1] at q; cases q⟩
    · rw [q]; exact ⟨o2, e2, fun v q => by rw [d2] at q; cases q⟩
  keep := fun i h h' st k => by
    obtain ⟨hz, hTI, ⟨a, b, hTO⟩, ⟨o1, e1, r1⟩, ⟨o2, e2, r2⟩⟩ := st
    exact ⟨k z (by simp) _ hz, k TI (by simp) _ hTI, ⟨a, b, k TO (by simp) _ hTO⟩, ⟨o1, k i1 (by simp) _ e1, r1⟩, ⟨o2, k i2 (by simp) _ e2, r2⟩⟩
  item := by
    intro X hP hw hK hc i pins s σ H E I hf st hg
    subst hP hw hK
    obtain ⟨hz, hTI, ⟨a0, b0, hTO⟩, h1, h2⟩ := st
    have hzl : z < s.heap.objs.size := Heap.lt_size hz
    have D1 := Draws.text (prog := X.prog) (w := X.w) (A := X.A.in1) (I.ok.hd hc) i1 x tx
    have D2 := Draws.text (prog := X.prog) (w := X.w) (A := X.A.in1) (I.ok.hd hc) i2 y ty
    refine wpAny_pyNext_zipD2_item S D1 D2 hz hTI hTO h1 h2 hg.1 hg.2 fun x1 x2 h' tk p1 p2 z' TO' h1' h2' hT hsz hk => ?_
    obtain ⟨c, t1, hc1, rfl⟩ := p1
    obtain ⟨d, t2, hd1, rfl⟩ := p2
    refine ⟨_, rfl, wpAny_letOwnedTupleGo_zip (s := { s with heap := h', toks := tk }) z' fun h'' z'' sb => ?_⟩
    have hT2 : h''.get? s.heap.objs.size = some { cls := .type "tuple", data := .seq #[.str ⟨#[c]⟩ t1, .str ⟨#[d]⟩ t2] } := (sb.2 _ (Nat.ne_of_gt hzl)).trans hT
    have new : ObjOk X.prog X.w (upd H s.heap.objs.size (.tup [.str ⟨#[c]⟩, .str ⟨#[d]⟩])) h'' s.heap.objs.size (.tup [.str ⟨#[c]⟩, .str ⟨#[d]⟩]) :=
      ⟨by show 2 ≤ sizeLine; decide, [.str ⟨#[c]⟩ t1, .str ⟨#[d]⟩ t2], .cons ⟨_, rfl⟩ (.cons ⟨_, rfl⟩ .nil), ⟨_, hT2, rfl, _, rfl⟩⟩
    have I1 : Inv X pins σ (upd H s.heap.objs.size (.tup [.str ⟨#[c]⟩, .str ⟨#[d]⟩])) { s with heap := h'', toks := tk } :=
      I.turnedNew (t' := tk) (ch := [z, TI, TO, i1, i2]) (fun c o hb q => (sb.2 c (fun q' => hb (by simp [q']))).trans (hk c o (fun q' => hb (by simp [q'])) (fun q' => hb (by simp [q'])) (fun q' => hb (by simp [q'])) (fun q' => hb (by simp [q'])) q)) hf (Nat.le_refl _) new
    have sep : ∀ b, b ≠ z → ∀ o, h'.get? b = some o → h''.get? b = some o := fun b hb o q => (sb.2 b hb).trans q
    refine ⟨.ref s.heap.objs.size, _, I1, rfl, ⟨_, c, d, rfl, I.hok.fresh (Nat.le_refl _), rfl, hc1, hd1⟩, ⟨z'', ?_, ⟨.str ⟨#[c]⟩ t1, .str ⟨#[d]⟩ t2, ?_⟩, ?_, ?_⟩, fun b hcm => ?_⟩
    · exact sep _ S.TIz _ (hk _ _ S.TIz S.TITO S.TIi1 S.TIi2 hTI)
    · exact sep _ S.TOz _ TO'
    · obtain ⟨o, q, r⟩ := h1'
      exact ⟨o, sep _ S.zi1.symm _ q, r⟩
    · obtain ⟨o, q, r⟩ := h2'
      exact ⟨o, sep _ S.zi2.symm _ q, r⟩
    · have hlt : b < s.heap.objs.size := by
        have e' : b = z ∨ b = TI ∨ b = TO ∨ b = i1 ∨ b = i2 := by simpa using hcm
        rcases e' with q | q | q | q | q
        · rw [q]; exact hzl
        · rw [q]; exact Heap.lt_size hTI
        · rw [q]; exact Heap.lt_size hTO
        · rw [q]; obtain ⟨_, e1, _⟩ := h1; exact Heap.lt_size e1
        · rw [q]; obtain ⟨_, e2, _⟩ := h2; exact Heap.lt_size e2
      rw [upd_ne (Nat.ne_of_lt hlt)]
      exact (hf b hcm).1
  done := by
    intro X hP hw hK hc i pins s σ H E I hf st hg
    subst hP hw hK
    obtain ⟨hz, hTI, ⟨a0, b0, hTO⟩, h1, h2⟩ := st
    have D1 := Draws.text (prog := X.prog) (w := X.w) (A := X.A.in1) (I.ok.hd hc) i1 x tx
    have D2 := Draws.text (prog := X.prog) (w := X.w) (A := X.A.in1) (I.ok.hd hc) i2 y ty
    exact wpAny_pyNext_zipD2_end S D1 D2 hz hTI hTO h1 h2 hg.1 hg.2.1 hg.2.2 fun h' tk hk => ⟨rfl, I.turnedL (t' := tk) (ch := [z, TI, TO, i1, i2]) (fun c o hb q =>
      hk c o (fun q' => hb (by simp [q'])) (fun q' => hb (by simp [q'])) (fun q' => hb (by simp [q'])) (fun q' => hb (by simp [q'])) q) hf⟩
  self := fun A i s Q E st h => wpAny_pyIter_zip st.1 h
def iZipS (ta : TA) : TI := fun σ H R => ta σ H fun vs H1 => ∃ x y, vs = [.str x, .str y] ∧ R (ItzS x y) H1
theorem pi_zipS {X : Cx} {e e2 : Expr} {ta : TA} {p pos tpos : Pos} {elts : List Expr} {kk : Nat} (hg : Gl X "zip") (hm : X.mg "zip" = none) (ha : PA X [e, e2] ta)
    (hs : starEach [e, e2] X.env = (false, eval e X.env) :: starEach [e2] X.env := by rfl) (hpl : (backTo pos (starEach [e2] X.env)).any (·.1) = false := by rfl) :
    PI X (.Tuple elts kk tpos) (.Call (.Name "zip" p) [e, e2] [] pos) (iZipS ta) := by
  refine ⟨fun pins s σ H R I h => ?_⟩
  refine Call_ (ld_blt I hg hm PyProof.Rows.boot_zip (PyProof.Rows.callWith_type1 (thn (ha.run pos pins s σ H _ I h) fun us s1 ⟨vs, H1, I1, r1, q1⟩ => ?_) hs hpl))
  obtain ⟨x, y, ex, q⟩ := q1
  subst ex
  cases r1 with
  | cons r rr =>
    cases rr with
    | cons r' rr =>
      cases rr
      obtain ⟨t1, rfl⟩ := r
      obtain ⟨t2, rfl⟩ := r'
      refine zip_begins2 (begins_text x t1) (begins_text y t2) trivial trivial fun h' hz hTI hTO h1 h2 hsz hk => wpAny_pyIter_zip hz ?_
      have I2 : Inv X pins σ H1 { s1 with heap := h' } := I1.kept (t' := s1.toks) hk
      have sep : ZipSep2 (s1.heap.objs.size + 4) (s1.heap.objs.size + 2) (s1.heap.objs.size + 3) s1.heap.objs.size (s1.heap.objs.size + 1) [s1.heap.objs.size] [s1.heap.objs.size + 1] := zip_sep2 (fp1 := []) (fp2 := []) (fun b hb => by simp at hb) fun b hb => by simp at hb
      refine ⟨s1.heap.objs.size + 4, [s1.heap.objs.size + 4, s1.heap.objs.size + 2, s1.heap.objs.size + 3, s1.heap.objs.size, s1.heap.objs.size + 1], _, _, H1, rfl, I2, turn_zipS sep, ⟨hz, hTI, ⟨_, _, hTO⟩, ⟨_, h1, rfl, rfl⟩, ⟨_, h2, rfl, rfl⟩⟩, fun c hcm => ?_, q⟩
      have e' : c = s1.heap.objs.size + 4 ∨ c = s1.heap.objs.size + 2 ∨ c = s1.heap.objs.size + 3 ∨ c = s1.heap.objs.size ∨ c = s1.heap.objs.size + 1 := by simpa using hcm
      have hle : s1.heap.objs.size ≤ c := by
        rcases e' with z | z | z | z | z
        · rw [z]; exact Nat.le_add_right _ _
        · rw [z]; exact Nat.le_add_right _ _
        · rw [z]; exact Nat.le_add_right _ _
        · rw [z]; exact Nat.le_refl _
        · rw [z]; exact Nat.le_add_right _ _
      exact I1.fpOk hle (I1.hok.fresh hle)
theorem walk_zipS {x y : Str} (hl : x.cps.size = y.cps.size) : Walk (ItzS x y) x.cps.size (fun _ => True) (fun i H v H' => ∃ T c d, v = .ref T ∧ H T = none ∧ H' = upd H T (.tup [.str ⟨#[c]⟩, .str ⟨#[d]⟩]) ∧ x.cps[i]? = some c ∧ y.cps[i]? = some d) :=
  ⟨fun i _ hi _ => ⟨hi, by omega⟩, fun _ _ => ⟨Nat.le_refl _, by omega, .inl rfl⟩, fun _ _ _ _ _ _ y => y⟩
end DL

set_option Elab.async false
set_option maxRecDepth 100000
namespace DL
open PySem L2 HT TL
/-! ### patterns and rows -/
theorem pg_tupK {X : Cx} {K : PySem.W.Frag} {pos : Pos} {es : List Expr} {k : Nat} {t : TGs} {n : Nat} (hK : X.K = K) (hc : X.calm = true) (h : PGs X es t) (h1 : (assignEach es X.env).length = n := by rfl) (h2 : List.findIdx? (fun x => x.1) (assignEach es X.env) = none := by rfl) :
    PG X (.Tuple es k pos) (gTup K n t) := by subst hK; exact pg_tup hc h h1 h2
theorem SqT.same {K : PySem.W.Frag} {H H' : Hp} {a : Addr} {xs : List V} (s : Same H H') (h : SqT K H a xs) : SqT K H' a xs := by
  rcases h with (h | ⟨o, h⟩) | h
  · exact .inl (.inl (s _ _ h))
  · exact .inl (.inr ⟨o, s _ _ h⟩)
  · exact .inr h
def pstr (cs : List Nat) : Str := ⟨cs.toArray⟩
theorem pstr_tl (cs : List Nat) : (pstr cs).cps.toList = cs := rfl
theorem pstr_len (cs : List Nat) : (pstr cs).length = cs.length := by
  show (pstr cs).cps.size = cs.length
  rw [← Array.length_toList, pstr_tl]
def PatOk (cs : List Nat) : Prop := ∀ c ∈ cs, c ∈ ("os?" : Str).cps.toList
def fitAt (st : List Bool) (cs : List Nat) (i : Nat) : Bool := decide (cs.getD i 0 = 63) || decide (cs.getD i 0 = sg (st.getD i false))
def fitB (st : List Bool) (cs : List Nat) : Bool := ((List.range st.length).map (fitAt st cs)).all id
theorem str1 {c d : Nat} : ((⟨#[c]⟩ : Str) == ⟨#[d]⟩) = decide (d = c) := by
  rw [beq_dec]
  refine decide_eq_decide.mpr ⟨fun h => ?_, fun h => by rw [h]⟩
  injection h with h
  injection h with h
  injection h with h
  exact h.symm
theorem in_two (c d : Nat) : inV (.str ⟨#[d]⟩) [.str "?", .str ⟨#[c]⟩] = (decide (d = 63) || decide (d = c)) := by
  have e : ("?" : Str) = ⟨#[63]⟩ := by decide +kernel
  rw [e]
  show ((⟨#[63]⟩ : Str) == ⟨#[d]⟩ || ((⟨#[c]⟩ : Str) == ⟨#[d]⟩ || false)) = _
  rw [str1, str1, Bool.or_false]
def pullV (bs : List Bar) (st : List Bool) (d : Int) : V := if goesB bs st d = true then .str (sstr (flip st d)) else .non
def runB (bs : List Bar) (st : List Bool) : List Int → Option (List Bool)
  | [] => some st
  | d :: ds => if goesB bs st d = true then runB bs (flip st d) ds else none
theorem runB_cons (bs : List Bar) (st : List Bool) (d : Int) (ds : List Int) : runB bs st (d :: ds) = if goesB bs st d = true then runB bs (flip st d) ds else none := rfl
theorem putK_le {κ : Type} [DecidableEq κ] (c : List (κ × V)) (k : κ) (x : V) : (putK c k x).length ≤ c.length + 1 := by
  unfold putK
  by_cases q : (c.any fun kv => decide (kv.1 = k)) = true
  · rw [if_pos q, List.length_map]; omega
  · rw [if_neg q, List.length_append]; exact Nat.le_refl _
theorem runB_len {bs : List Bar} : ∀ {ds : List Int} {st e : List Bool}, runB bs st ds = some e → e.length = st.length
  | [], st, e, h => by injection h with h; rw [h]
  | d :: ds, st, e, h => by
    unfold runB at h
    by_cases q : goesB bs st d = true
    · rw [if_pos q] at h
      rw [runB_len h, flip_len]
    · rw [if_neg q] at h
      cases h
def endV : Option (List Bool) → V
  | some e => .str (sstr e)
  | none => .non
def shutS (n : Nat) : List Bool := List.replicate n false
def isRowB (n : Nat) (bs : List Bar) (cs : List Nat) (ds : List Int) : Bool := match runB bs (shutS n) ds with
  | some e => fitB e cs
  | none => false
def intOf : V → Int
  | .int i => i
  | _ => 0
theorem ints_of {n : Int} : ∀ {xs : List V}, xs.all (isD n) = true → xs = (xs.map intOf).map V.int ∧ ∀ d ∈ xs.map intOf, 0 ≤ d ∧ d < n
  | [], _ => ⟨rfl, fun d hd => by simp at hd⟩
  | x :: xs, h => by
    rw [List.all_cons, Bool.and_eq_true] at h
    obtain ⟨h1, h2⟩ := ints_of h.2
    cases x with
    | int i =>
      have hi : (decide (0 ≤ i) && decide (i < n)) = true := h.1
      rw [Bool.and_eq_true] at hi
      refine ⟨?_, fun d hd => ?_⟩
      · show V.int i :: xs = V.int i :: (xs.map intOf).map V.int
        rw [← h1]
      · rcases List.mem_cons.mp hd with rfl | hd
        · exact ⟨of_decide_eq_true hi.1, of_decide_eq_true hi.2⟩
        · exact h2 d hd
    | _ => exact absurd h.1 (by intro z; cases z)
def rowB (n : Nat) (bs : List Bar) (cs : List Nat) (xs : List V) : Bool := xs.all (isD n) && isRowB n bs cs (xs.map intOf)
structure spFits (vs : List V) (H : Hp) (Q : VK) (_ : XK) : Prop where
  h : ∃ (st : List Bool) (cs : List Nat), vs = [.str (sstr st), .str (pstr cs)] ∧ st.length = cs.length ∧ st.length ≤ 7 ∧ ∀ H', Same H H' → Q (.bl (fitB st cs)) H'
structure spFirst (vs : List V) (H : Hp) (Q : VK) (_ : XK) : Prop where
  h : ∃ n : Nat, vs = [.int n] ∧ 1 ≤ n ∧ n ≤ 7 ∧ Q (.str (sstr (shutS n))) H
structure spIsPat (vs : List V) (H : Hp) (Q : VK) (_ : XK) : Prop where
  h : ∃ cs : List Nat, vs = [.int cs.length, .str (pstr cs)] ∧ cs.length ≤ 7 ∧ PatOk cs ∧ ∀ H', Same H H' → Q (.bl true) H'
structure spCkPat (C : Addr) (vs : List V) (H : Hp) (Q : VK) (_ : XK) : Prop where
  h : ∃ (c : Addr) (cs : List Nat) (t : Addr), vs = [.ref c, .str (pstr cs)] ∧ CabAt C H c cs.length t ∧ cs.length ≤ 7 ∧ PatOk cs ∧ ∀ H', Same H H' → Q .non H'
structure spEnd (K : PySem.W.Frag) (C : Addr) (vs : List V) (H : Hp) (Q : VK) (_ : XK) : Prop where
  h : ∃ (c t : Addr) (bs : List Bar) (st : List Bool) (ds : List Int), vs = [.ref c, .str (sstr st), .ref t] ∧ CabOk C H c st.length bs ∧ SqT K H t (ds.map V.int) ∧ (∀ d ∈ ds, 0 ≤ d ∧ d < st.length) ∧ ds.length ≤ 100 ∧
    ∀ H', Same H H' → Q (endV (runB bs st ds)) H'
structure spRight (K : PySem.W.Frag) (C : Addr) (vs : List V) (H : Hp) (Q : VK) (_ : XK) : Prop where
  h : ∃ (c : Addr) (bs : List Bar) (cs : List Nat) (v : V), vs = [.ref c, .str (pstr cs), v] ∧ CabOk C H c cs.length bs ∧ PatOk cs ∧
    ((∃ t, (∀ H', Same H H' → TyX K H' v t) ∧ PySem.W.kitOne K t (.type "tuple") = some false ∧ ∀ H', Same H H' → Q (.bl false) H') ∨
    ∃ (a : Addr) (xs : List V), v = .ref a ∧ SqT K H a xs ∧ xs.length ≤ 100 ∧ (∀ x ∈ xs, scV x = true) ∧ ∀ H', Same H H' → Q (.bl (rowB cs.length bs cs xs)) H')
theorem key_inj {st st' : List Bool} {d d' : Int} (h : ([.inr (sstr st), .inl d] : List Key) = [.inr (sstr st'), .inl d']) : st = st' ∧ d = d' := by
  injection h with h1 h
  injection h with h2 _
  injection h1 with h1
  injection h2 with h2
  exact ⟨sstr_inj h1, h2⟩
theorem mul_shut {n : Nat} (h1 : 1 ≤ n) (h7 : n ≤ 7) : Txt.mul "s" (n : Int) = sstr (shutS n) := by
  have : n = 1 ∨ n = 2 ∨ n = 3 ∨ n = 4 ∨ n = 5 ∨ n = 6 ∨ n = 7 := by omega
  rcases this with rfl | rfl | rfl | rfl | rfl | rfl | rfl <;> decide +kernel
section
variable {P : Program} {w : World} {K : PySem.W.Frag} {mg : Str → Option Value} {base : Heap}
theorem scIsPat : FnScope ["drawers", "value"] ["drawers", "value"] (defScope s_is_pattern) := ⟨rfl, rfl, rfl, by decide +kernel, rfl, by decide +kernel, by decide +kernel⟩
theorem ok_isPat {f f1 : Addr} {fd fd1 : FuncData} (F : Fun K "is_pattern" "is_pattern" s_is_pattern f fd) (G : FnOk P w K mg base CX0 1 f1 fd1 ["drawers", "value", "signs"] spSigns) (g1 : mg "has_signs" = some (.ref f1)) (k1 : PySem.W.keepIn K (.ref f1) = true) (b1 : Binds K fd1 ["drawers", "value", "signs"] [])
    (gS : ∃ t, mg "PATTERN_SIGNS" = some (.str "os?" t)) : FnOk P w K mg base CX0 2 f fd ["drawers", "value"] spIsPat := by
  refine F.ok scIsPat (fun vs H Q E h => ?_) (fun cdv A outer s H vs Q E hr h => ?_)
  · obtain ⟨cs, rfl, _⟩ := h.h
    rfl
  · obtain ⟨cs, rfl, h7, hp, k⟩ := h.h
    obtain ⟨tS, gS⟩ := gS
    refine ⟨_, pss_one (ps_ret (pe_call G (hr.mono (by decide)) rfl g1 k1 b1 .nil pass0 (pa_cons (pv 0) (pa_cons (pv 1) (pa_cons (pe_glob (v := .str "os?") rfl gS ⟨_, rfl⟩) pa_nil))))), ?_⟩
    exact ⟨_, rfl, _, rfl, ⟨⟨_, pstr cs, _, rfl, by rw [pstr_len], by omega, hp, k⟩⟩⟩
theorem scCkPat : FnScope ["cabinet", "pattern"] ["cabinet", "pattern"] (defScope s_check_pattern) := ⟨rfl, rfl, rfl, by decide +kernel, rfl, by decide +kernel, by decide +kernel⟩
theorem ok_ckPat {f f1 C : Addr} {fd fd1 : FuncData} (F : Fun K "check_pattern" "check_pattern" s_check_pattern f fd) (CP : CabP P w K mg base C) (G : FnOk P w K mg base CX0 2 f1 fd1 ["drawers", "value"] spIsPat) (g1 : mg "is_pattern" = some (.ref f1)) (k1 : PySem.W.keepIn K (.ref f1) = true) (b1 : Binds K fd1 ["drawers", "value"] []) :
    FnOk P w K mg base CX0 3 f fd ["cabinet", "pattern"] (spCkPat C) := by
  refine F.ok scCkPat (fun vs H Q E h => ?_) (fun cdv A outer s H vs Q E hr h => ?_)
  · obtain ⟨c, cs, t, rfl, _⟩ := h.h
    rfl
  · obtain ⟨c, cs, t, rfl, ⟨dx, hc⟩, h7, hp, k⟩ := h.h
    obtain ⟨pD, gD, fdD, hpD, GD, bD⟩ := CP.d
    refine ⟨_, pss_one (ps_if (pt_not (pt_val (pe_call G (hr.mono (by decide)) rfl g1 k1 b1 .nil pass0 (pa_cons (pe_prop (pv 0) CP.cl hpD GD (hr.mono (by decide)) bD .nil pass0 rfl) (pa_cons (pv 1) pa_nil))))) (pss_one ps_never) pss_nil), ?_⟩
    exact ⟨_, rfl, c, dx, _, rfl, hc, ⟨⟨c, dx, _, t, rfl, hc, _, rfl, ⟨⟨cs, rfl, h7, hp, fun H' s1 => ⟨_, rfl, iteF (k H' s1)⟩⟩⟩⟩⟩⟩
theorem scFirst : FnScope ["drawers"] ["drawers"] (defScope s_first_standing) := ⟨rfl, rfl, rfl, by decide +kernel, rfl, by decide +kernel, by decide +kernel⟩
theorem ok_first {f aS : Addr} {fd : FuncData} (F : Fun K "first_standing" "first_standing" s_first_standing f fd) (T : SgT K w mg aS) : FnOk P w K mg base CX0 1 f fd ["drawers"] spFirst := by
  refine F.ok scFirst (fun vs H Q E h => ?_) (fun cdv A outer s H vs Q E hr h => ?_)
  · obtain ⟨n, rfl, _⟩ := h.h
    rfl
  · obtain ⟨n, rfl, h1, h7, k⟩ := h.h
    refine ⟨_, pss_one (ps_ret (pe_op op_mul_str (pe_ix ix_kdict (pe_glob (v := .ref aS) rfl T.g rfl) pe_str (fun _ _ => rfl)) (pv 0))), ?_⟩
    refine ⟨aS, _, _, rfl, rfl, T.s, _, rfl, "s", (n : Int), rfl, rfl, mulOk_one (by decide +kernel) (by omega) (by omega), ?_⟩
    rw [mul_shut h1 h7]
    exact k
abbrev nFi : List Str := ["standing", "pattern", "sign", "wanted"]
theorem scFi : FnScope nFi ["standing", "pattern"] (defScope s_fits) := ⟨rfl, rfl, rfl, by decide +kernel, rfl, by decide +kernel, by decide +kernel⟩
theorem ok_fits {f : Addr} {fd : FuncData} (F : Fun K "fits" "fits" s_fits f fd) (zZ : mg "zip" = none) (zA : mg "all" = none) : FnOk P w K mg base CX0 1 f fd ["standing", "pattern"] spFits := by
  refine F.ok scFi (fun vs H Q E h => ?_) (fun cdv A outer s H vs Q E hr h => ?_)
  · obtain ⟨st, cs, rfl, _⟩ := h.h
    rfl
  · obtain ⟨st, cs, rfl, hl, h7, k⟩ := h.h
    refine ⟨_, pss_one (ps_ret (pe_callB (cr_all rfl) (by rfl) zA boot_all_ (pa_cons
        (pe_lc (own := [("sign", 2), ("wanted", 3)]) (g := gTup K 2 (gCons (gName 2) (gCons (gName 3) gNil))) (tt := tYes) (by rfl) scFi.nd (pi_zipS (by rfl) zZ (pa_cons (pv 0) (pa_cons (pv 1) pa_nil))) (blkOk_by (N := nFi) (sc := defScope s_fits) (by decide +kernel))
          (fun _ _ _ _ _ => pg_tupK (K := K) rfl rfl (pgs_cons (pg_name (i := 2) scFi.nd rfl (Or.inl rfl)) (pgs_cons (pg_name (i := 3) scFi.nd rfl (Or.inl rfl)) pgs_nil))) (fun _ _ _ _ _ => pts_nil)
          (fun _ _ _ _ _ => pe_cmpR (op_in_seqK (K := K) rfl) (pv 3) (pe_tup (pa_cons pe_str (pa_cons (pv 2) pa_nil))) (by rfl))) pa_nil))), ?_⟩
    refine ⟨_, rfl, _, rfl, _, _, rfl, fun D hD => ?_⟩
    have hsz : (sstr st).cps.size = (pstr cs).cps.size := by
      have e1 : (sstr st).cps.size = st.length := sstr_len st
      have e2 : (pstr cs).cps.size = cs.length := pstr_len cs
      omega
    refine lc_it (walk_zipS hsz) (fun i H' => Same H H' ∧ H' D = some (.lst ((((List.range st.length).take i).map (fitAt st cs)).map V.bl))) ⟨same_upd hD, upd_same⟩ (fun _ _ _ _ => trivial) ?_ ?_
    · rintro i x H1 H2 hi ⟨s1, hD1⟩ ⟨T, c, d, rfl, hT, rfl, ec, ed⟩
      have hi' : i < st.length := by
        have e1 : (sstr st).cps.size = st.length := sstr_len st
        omega
      refine ⟨T, _, rfl, SqT.of' upd_same, rfl, _, _, rfl, _, _, rfl, rfl, rfl, tYes_of (iteT ?_)⟩
      refine ⟨_, rfl, _, rfl, (by show 2 ≤ sizeLine; decide), fun q hq => ?_⟩
      refine ⟨q, _, rfl, .inr (SqT.of' upd_same), rfl, rfl, ?_⟩
      rw [if_neg Bool.false_ne_true, in_two]
      have s2 := (s1.trans (same_upd (o := .tup [.str ⟨#[c]⟩, .str ⟨#[d]⟩]) hT)).trans (same_upd (o := .tup [.str "?", .str ⟨#[c]⟩]) hq)
      have hDq : D ≠ q := ne_of_none (by rw [upd_ne (ne_of_none hD1 hT)]; exact hD1) hq
      refine ⟨_, by rw [upd_ne hDq, upd_ne (ne_of_none hD1 hT)]; exact hD1, ?_, fun b o e => ?_, ?_⟩
      · rw [List.length_map, List.length_map, List.length_take, List.length_range]
        exact small1000 (by omega)
      · rw [upd_ne (ne_of_none e hD)]
        exact s2 b o e
      · rw [upd_same, ← take_succ_map (fitAt st cs) (List.getElem?_range hi'), List.map_append]
        congr 3
        show [V.bl (decide (d = 63) || decide (d = c))] = [V.bl (fitAt st cs i)]
        unfold fitAt
        have e1 : c = sg (st.getD i false) := by
          rw [← Array.getElem?_toList, sstr_tl, List.getElem?_map] at ec
          rw [List.getD_eq_getElem?_getD]
          cases q : st[i]? with
          | none => rw [q] at ec; cases ec
          | some b => rw [q] at ec; exact (Option.some.inj ec).symm
        have e2 : d = cs.getD i 0 := by
          rw [← Array.getElem?_toList, pstr_tl] at ed
          rw [List.getD_eq_getElem?_getD, ed]
          rfl
        rw [e1, e2]
    · rintro H' ⟨s1, hD1⟩
      refine ⟨D, _, rfl, SqL.of hD1, ?_⟩
      have e1 : (sstr st).cps.size = st.length := sstr_len st
      rw [e1, List.take_of_length_le (by rw [List.length_range]; exact Nat.le_refl _)]
      exact k H' s1
abbrev nEn : List Str := ["cabinet", "standing", "drawers", "known", "drawer", "pull"]
theorem scEn : FnScope nEn ["cabinet", "standing", "drawers"] (defScope s_end_of_row) := ⟨rfl, rfl, rfl, by decide +kernel, rfl, by decide +kernel, by decide +kernel⟩
theorem ok_end {f f1 f2 C : Addr} {fd fd1 fd2 : FuncData} (F : Fun K "end_of_row" "end_of_row" s_end_of_row f fd) (G1 : FnOk P w K mg base CX0 6 f1 fd1 ["cabinet", "standing", "drawer"] (spGoes C)) (g1 : mg "goes" = some (.ref f1)) (k1 : PySem.W.keepIn K (.ref f1) = true) (b1 : Binds K fd1 ["cabinet", "standing", "drawer"] [])
    (G2 : FnOk P w K mg base CX0 1 f2 fd2 ["standing", "drawer"] spMoved) (g2 : mg "moved" = some (.ref f2)) (k2 : PySem.W.keepIn K (.ref f2) = true) (b2 : Binds K fd2 ["standing", "drawer"] []) : FnOk P w K mg base CX0 8 f fd ["cabinet", "standing", "drawers"] (spEnd K C) := by
  refine F.ok scEn (fun vs H Q E h => ?_) (fun cdv A outer s H vs Q E hr h => ?_)
  · obtain ⟨c, t, bs, st, ds, rfl, _⟩ := h.h
    rfl
  · obtain ⟨c, t, bs, st, ds, rfl, B, S, hd, hlen, k⟩ := h.h
    have hu := hu_of hr
    refine ⟨_, pss_cons (ps_set (i := 3) scEn.nd rfl (Or.inl rfl) pe_dnewT)
      (pss_cons (ps_for PassesOwn.never rfl (pi_tup (pv 2)) (pg_name (i := 4) scEn.nd rfl (Or.inl rfl))
        (pss_cons (ps_set (i := 5) scEn.nd rfl (Or.inl rfl) (pe_tup (pa_cons (pv 1) (pa_cons (pv 4) pa_nil))))
        (pss_cons (ps_if (pt_cmp (pc_dnotin hu (pv 5) (pv 3))) (pss_one (ps_dput hu (pv 3) (pv 5) (pe_ifExp (pt_val (pe_call G1 (hr.mono (by decide)) rfl g1 k1 b1 .nil pass0 (pa_cons (pv 0) (pa_cons (pv 1) (pa_cons (pv 4) pa_nil))))) (pe_call G2 (hr.mono (by decide)) rfl g2 k2 b2 .nil pass0 (pa_cons (pv 1) (pa_cons (pv 4) pa_nil))) pe_non) rfl)) pss_nil)
        (pss_cons (ps_set (i := 1) scEn.nd rfl (Or.inl rfl) (pe_dget hu (pv 3) (pv 5) (fun _ _ => rfl)))
        (pss_one (ps_if (pt_cmp (pc_isN (pv 1))) (pss_one (ps_ret pe_non)) pss_nil))))))
      (pss_one (ps_ret (pv 1)))), ?_⟩
    intro kd hkd
    refine ⟨_, rfl, t, rfl, ⟨_, SqT.same (same_upd hkd) S⟩, ?_⟩
    refine for_tup (K := K) (a := t) (xs := ds.map V.int) (fun i σ H' => ∃ (s' : List Bool) (u4 u5 : Option V) (kvs : List (List Key × V)), σ = [some (.ref c), some (.str (sstr s')), some (.ref t), some (.ref kd), u4, u5] ∧ s'.length = st.length ∧ runB bs s' (ds.drop i) = runB bs st ds ∧ Same H H' ∧
        H' kd = some (.dT kvs) ∧ kvs.length ≤ i ∧ ∀ (s0 : List Bool) (d0 : Int) (v : V), valV kvs ([.inr (sstr s0), .inl d0] : List Key) = some v → v = pullV bs s0 d0)
      ⟨st, _, _, [], rfl, rfl, rfl, same_upd hkd, upd_same, Nat.le_refl _, fun s0 d0 v e => by cases e⟩ ?_ ?_ ?_
    · rintro i σ H' _ ⟨s', u4, u5, kvs, _, _, _, s1, _⟩
      exact SqT.same s1 S
    · rintro i x σ H1 hi ⟨s', u4, u5, kvs, rfl, hl, hrun, s1, hk, hkl, hkv⟩
      rw [List.getElem?_map] at hi
      cases ei : ds[i]? with
      | none => rw [ei] at hi; cases hi
      | some d =>
        rw [ei] at hi
        cases hi
        obtain ⟨d0, d1⟩ := hd d (List.mem_of_getElem? ei)
        have hil : i < ds.length := (List.getElem?_eq_some_iff.mp ei).1
        have hdrop : ds.drop i = d :: ds.drop (i + 1) := by
          rw [List.drop_eq_getElem_cons hil]
          congr 1
          exact (List.getElem?_eq_some_iff.mp ei).2
        rw [hdrop] at hrun
        refine ⟨_, rfl, _, rfl, (by show 2 ≤ sizeLine; decide), fun q hq => ?_⟩
        have s2 := s1.trans (same_upd (o := .tup [.str (sstr s'), .int d]) hq)
        have hk2 : (upd H1 q (.tup [.str (sstr s'), .int d])) kd = some (.dT kvs) := by rw [upd_ne (ne_of_none hk hq)]; exact hk
        have hq2 : (upd H1 q (.tup [.str (sstr s'), .int d])) q = some (.tup (([.inr (sstr s'), .inl d] : List Key).map kV)) := upd_same
        generalize (upd H1 q (.tup [.str (sstr s'), .int d])) = H2 at s2 hk2 hq2 ⊢
        -- what follows once the pull is known
        have fin : ∀ (H3 : Hp) (kvs' : List (List Key × V)), Same H H3 → H3 kd = some (.dT kvs') → H3 q = some (.tup (([.inr (sstr s'), .inl d] : List Key).map kV)) → kvs'.length ≤ i + 1 →
            (∀ (s0 : List Bool) (d0 : Int) (v : V), valV kvs' ([.inr (sstr s0), .inl d0] : List Key) = some v → v = pullV bs s0 d0) → valV kvs' ([.inr (sstr s'), .inl d] : List Key) = some (pullV bs s' d) → True := fun _ _ _ _ _ _ _ _ => trivial
        clear fin
        have hkq : kd ≠ q := fun z => by rw [z, hq2] at hk2; cases hk2
        refine ⟨_, rfl, _, rfl, kd, _, rfl, DGet.t hk2 hq2, _, rfl, ?_⟩
        cases ev : valV kvs ([.inr (sstr s'), .inl d] : List Key) with
        | some v =>
          have evp := hkv s' d v ev
          subst evp
          refine iteF ?_
          refine ⟨_, rfl, _, rfl, kd, _, rfl, by rw [← ev]; exact DGet.t hk2 hq2, ?_⟩
          refine ⟨_, rfl, _, rfl, ?_⟩
          unfold pullV
          cases eg : goesB bs s' d with
          | true =>
            rw [if_pos rfl]
            refine iteF ⟨flip s' d, _, _, kvs, rfl, by rw [flip_len]; exact hl, ?_, s2, hk2, by omega, hkv⟩
            rw [runB_cons, if_pos eg] at hrun
            exact hrun
          | false =>
            rw [if_neg Bool.false_ne_true]
            refine iteT ?_
            rw [runB_cons, if_neg (by rw [eg]; exact Bool.false_ne_true)] at hrun
            have := k H2 s2
            rw [← hrun] at this
            exact this
        | none =>
          refine iteT ?_
          have B2 := (B.same s2)
          rw [← hl] at B2
          refine ⟨_, rfl, _, rfl, _, rfl, ⟨⟨c, bs, s', d, rfl, B2, d0, by omega, fun H3 s3 => ⟨_, rfl, ?_⟩⟩⟩⟩
          have step : ∀ H4, Same H3 H4 → ∃ v, v = pullV bs s' d ∧ (v = pullV bs s' d → True) := fun _ _ => ⟨_, rfl, fun _ => trivial⟩
          clear step
          have e1 : ∀ H4 : Hp, Same H2 H4 → H4 kd = some (.dT kvs) ∧ H4 q = some (.tup (([.inr (sstr s'), .inl d] : List Key).map kV)) := fun H4 s4 => ⟨s4 _ _ hk2, s4 _ _ hq2⟩
          have sames : ∀ H4 : Hp, Same H2 H4 → Same H (upd H4 kd (.dT (putK kvs ([.inr (sstr s'), .inl d] : List Key) (pullV bs s' d)))) := fun H4 s4 b o eb => by
            rw [upd_ne (ne_of_none eb hkd)]
            exact s4 _ _ (s2 _ _ eb)
          have hkv' : ∀ (s0 : List Bool) (d0 : Int) (v : V), valV (putK kvs ([.inr (sstr s'), .inl d] : List Key) (pullV bs s' d)) ([.inr (sstr s0), .inl d0] : List Key) = some v → v = pullV bs s0 d0 := fun s0 d0 v e => by
            rw [valV_put] at e
            by_cases z : ([.inr (sstr s0), .inl d0] : List Key) = [.inr (sstr s'), .inl d]
            · rw [if_pos z] at e
              obtain ⟨z1, z2⟩ := key_inj z
              rw [z1, z2]
              exact (Option.some.inj e).symm
            · rw [if_neg z] at e
              exact hkv s0 d0 v e
          have hget : valV (putK kvs ([.inr (sstr s'), .inl d] : List Key) (pullV bs s' d)) ([.inr (sstr s'), .inl d] : List Key) = some (pullV bs s' d) := by
            rw [valV_put, if_pos rfl]
          have hlen' := putK_le kvs ([.inr (sstr s'), .inl d] : List Key) (pullV bs s' d)
          have hsm : kvs.length < sizeLine := small1000 (by omega)
          cases eg : goesB bs s' d with
          | true =>
            have ep : pullV bs s' d = .str (sstr (flip s' d)) := by unfold pullV; rw [if_pos eg]
            refine iteT ?_
            refine ⟨_, rfl, _, rfl, ⟨⟨s', d, rfl, by have := B.cab.choose_spec.2; omega, d0, by omega, fun H4 s4 => ?_⟩⟩⟩
            have s24 := s3.trans s4
            obtain ⟨f1', f2'⟩ := e1 H4 s24
            refine ⟨_, rfl, _, rfl, kd, _, rfl, DPut.t f1' f2' hsm, ?_⟩
            rw [← ep]
            refine ⟨_, rfl, _, rfl, kd, _, rfl, by rw [← hget]; exact DGet.t upd_same (by rw [upd_ne hkq.symm]; exact f2'), ?_⟩
            refine ⟨_, rfl, _, rfl, ?_⟩
            rw [ep]
            refine iteF ⟨flip s' d, _, _, _, rfl, by rw [flip_len]; exact hl, ?_, by rw [← ep]; exact sames H4 s24, upd_same, by rw [← ep]; omega, by rw [← ep]; exact hkv'⟩
            rw [runB_cons, if_pos eg] at hrun
            exact hrun
          | false =>
            have ep : pullV bs s' d = .non := by unfold pullV; rw [if_neg (by rw [eg]; exact Bool.false_ne_true)]
            refine iteF ?_
            obtain ⟨f1', f2'⟩ := e1 H3 s3
            refine ⟨_, rfl, _, rfl, kd, _, rfl, DPut.t f1' f2' hsm, ?_⟩
            rw [← ep]
            refine ⟨_, rfl, _, rfl, kd, _, rfl, by rw [← hget]; exact DGet.t upd_same (by rw [upd_ne hkq.symm]; exact f2'), ?_⟩
            refine ⟨_, rfl, _, rfl, ?_⟩
            rw [ep]
            refine iteT ?_
            rw [runB_cons, if_neg (by rw [eg]; exact Bool.false_ne_true)] at hrun
            have := k _ (sames H3 s3)
            rw [← hrun, ep] at this
            exact this
    · rintro σ H' ⟨s', u4, u5, kvs, rfl, hl, hrun, s1, _⟩
      rw [List.length_map, List.drop_length] at hrun
      refine ⟨_, rfl, ?_⟩
      have := k H' s1
      rw [← hrun] at this
      exact this
end
end DL

set_option Elab.async false
set_option maxRecDepth 100000
namespace DL
open PySem L2 HT TL
theorem inV_ints (i : Int) (l : List Int) : inV (.int i) (l.map V.int) = decide (i ∈ l) := by
  unfold inV
  induction l with
  | nil => rfl
  | cons a l ih =>
    rw [List.map_cons, List.any_cons, ih]
    show ((a == i) || decide (i ∈ l)) = decide (i ∈ a :: l)
    by_cases q : i = a
    · subst q
      simp
    · have q' : ¬ a = i := fun z => q z.symm
      simp [q, q']
theorem flat_ints (l : List Int) : (l.map V.int).all flatV = true := by
  rw [List.all_eq_true]
  intro x hx
  obtain ⟨i, _, rfl⟩ := List.mem_map.mp hx
  rfl
end DL

set_option Elab.async false
set_option maxRecDepth 100000
namespace DL
open PySem L2 HT TL
/-! ### a drawn cabinet: its parts at p, itself at c; the row of draws at r -/
structure Lay (C r p c : Addr) (H : Hp) (n : Int) (bs : List Bar) : Prop where
  h : ∃ (t : Addr) (ks : List (Addr × Bar)) (zs : List V), H p = some (.lst (.int n :: .ref t :: zs)) ∧ CabAt C H c n t ∧ BarsAt H t ks ∧ ks.map (·.2) = bs ∧ OkBars n bs ∧ 1 ≤ n ∧ n ≤ 7 ∧ bs.length ≤ 100 ∧ p ≠ r
theorem Lay.cab {C r p c : Addr} {H : Hp} {n : Int} {bs : List Bar} (L : Lay C r p c H n bs) : CabOk C H c n bs := by
  obtain ⟨t, ks, zs, h1, h2, h3, h4, h5, h6, h7, h8, _⟩ := L.h
  exact ⟨⟨t, ks, h2, h3, h4, h5, h6, h7, h8⟩⟩
theorem Lay.but {C r sc p c : Addr} {H H' : Hp} {n : Int} {bs : List Bar} (L : Lay C r p c H n bs) (R : RowOk H r sc) (B : But r H H') : Lay C r p c H' n bs := by
  obtain ⟨t, ks, zs, h1, ⟨dx, h2⟩, h3, h4, h5, h6, h7, h8, h9⟩ := L.h
  obtain ⟨i, m, e, hR, _⟩ := R.h
  exact ⟨⟨t, ks, zs, B _ _ h9 h1, ⟨dx, B _ _ (ne_of h2 hR (by intro z; cases z)) h2⟩, ⟨B.tup hR h3.tu, fun k hk => B.tup hR (h3.el k hk)⟩, h4, h5, h6, h7, h8, h9⟩⟩
theorem Lay.same {C r p c : Addr} {H H' : Hp} {n : Int} {bs : List Bar} (L : Lay C r p c H n bs) (s : Same H H') : Lay C r p c H' n bs := by
  obtain ⟨t, ks, zs, h1, ⟨dx, h2⟩, h3, h4⟩ := L.h
  exact ⟨⟨t, ks, zs, s _ _ h1, ⟨dx, s _ _ h2⟩, h3.same s, h4⟩⟩
theorem Lay.n1 {C r p c : Addr} {H : Hp} {n : Int} {bs : List Bar} (L : Lay C r p c H n bs) : 1 ≤ n ∧ n ≤ 7 := by
  obtain ⟨t, ks, zs, h1, h2, h3, h4, h5, h6, h7, h8⟩ := L.h
  exact ⟨h6, h7⟩
theorem free_in {bs : List Bar} {st : List Bool} {d : Int} (h : d ∈ freeL bs st) : 0 ≤ d ∧ d < st.length := by
  have hm := (List.mem_filter.mp h).1
  unfold drs at hm
  obtain ⟨i, hi, rfl⟩ := List.mem_map.mp hm
  have := List.mem_range.mp hi
  omega
theorem free_len (bs : List Bar) (st : List Bool) : (freeL bs st).length ≤ st.length := by
  have := List.length_filter_le (fun d => goesB bs st d) (drs st.length)
  rw [drs_len] at this
  exact this

section
variable {P : Program} {w : World} {K : PySem.W.Frag} {mg : Str → Option Value} {base : Heap}
abbrev nRR : List Str := ["cabinet", "pattern", "value", "end", "drawer"]
theorem scRR : FnScope nRR ["cabinet", "pattern", "value"] (defScope s_right_row) := ⟨rfl, rfl, rfl, by decide +kernel, rfl, by decide +kernel, by decide +kernel⟩
theorem ok_right {f f1 f2 f3 f4 f5 f6 C : Addr} {fd fd1 fd2 fd3 fd4 fd5 fd6 : FuncData} (F : Fun K "right_row" "right_row" s_right_row f fd) (T : Bt mg) (zA : mg "all" = none) (CP : CabP P w K mg base C)
    (G1 : FnOk P w K mg base CX0 1 f1 fd1 ["cabinet"] (spCkCab C)) (g1 : mg "check_cabinet" = some (.ref f1)) (k1 : PySem.W.keepIn K (.ref f1) = true) (b1 : Binds K fd1 ["cabinet"] [])
    (G2 : FnOk P w K mg base CX0 3 f2 fd2 ["cabinet", "pattern"] (spCkPat C)) (g2 : mg "check_pattern" = some (.ref f2)) (k2 : PySem.W.keepIn K (.ref f2) = true) (b2 : Binds K fd2 ["cabinet", "pattern"] [])
    (G3 : FnOk P w K mg base CX0 2 f3 fd3 ["drawers", "value"] (spIsDrawer K)) (g3 : mg "is_drawer" = some (.ref f3)) (k3 : PySem.W.keepIn K (.ref f3) = true) (b3 : Binds K fd3 ["drawers", "value"] [])
    (G4 : FnOk P w K mg base CX0 8 f4 fd4 ["cabinet", "standing", "drawers"] (spEnd K C)) (g4 : mg "end_of_row" = some (.ref f4)) (k4 : PySem.W.keepIn K (.ref f4) = true) (b4 : Binds K fd4 ["cabinet", "standing", "drawers"] [])
    (G5 : FnOk P w K mg base CX0 1 f5 fd5 ["drawers"] spFirst) (g5 : mg "first_standing" = some (.ref f5)) (k5 : PySem.W.keepIn K (.ref f5) = true) (b5 : Binds K fd5 ["drawers"] [])
    (G6 : FnOk P w K mg base CX0 1 f6 fd6 ["standing", "pattern"] spFits) (g6 : mg "fits" = some (.ref f6)) (k6 : PySem.W.keepIn K (.ref f6) = true) (b6 : Binds K fd6 ["standing", "pattern"] []) :
    FnOk P w K mg base CX0 12 f fd ["cabinet", "pattern", "value"] (spRight K C) := by
  refine F.ok scRR (fun vs H Q E h => ?_) (fun cdv A outer s H vs Q E hr h => ?_)
  · obtain ⟨c, bs, cs, v, rfl, _⟩ := h.h
    rfl
  · obtain ⟨c, bs, cs, v, rfl, B, hp, hv⟩ := h.h
    obtain ⟨t, hc, n7⟩ := B.cab
    obtain ⟨pD, gD, fdD, hpD, GD, bD⟩ := CP.d
    refine ⟨_, pss_cons (ps_expr (pe_call G1 (hr.mono (by decide)) rfl g1 k1 b1 .nil pass0 (pa_cons (pv 0) pa_nil))) (pss_cons (ps_expr (pe_call G2 (hr.mono (by decide)) rfl g2 k2 b2 .nil pass0 (pa_cons (pv 0) (pa_cons (pv 1) pa_nil))))
      (pss_cons (ps_if (pt_not (pt_val (pe_callB call_isi (by rfl) T.isinstance (by decide +kernel) (pa_cons (pv 2) (pa_cons (pe_bltn (v := .ty "tuple") (by rfl) T.tuple (by decide +kernel) rfl) pa_nil))))) (pss_one (ps_ret pe_bl)) pss_nil)
      (pss_cons (ps_if (pt_not (pt_val (pe_callB (cr_all rfl) (by rfl) zA boot_all_ (pa_cons
          (pe_lc (own := [("drawer", 4)]) (g := gName 4) (tt := tYes) (by rfl) scRR.nd (pi_tup (pv 2)) (blkOk_by (N := nRR) (sc := defScope s_right_row) (by decide +kernel)) (fun _ _ _ _ _ => pg_name (i := 4) scRR.nd rfl (Or.inl rfl)) (fun _ _ _ _ _ => pts_nil)
            (fun _ _ _ _ _ => pe_call G3 (hr.mono (by decide)) rfl g3 k3 b3 .nil pass0 (pa_cons (pe_prop (pv 0) CP.cl hpD GD (hr.mono (by decide)) bD .nil pass0 rfl) (pa_cons (pv 4) pa_nil)))) pa_nil)))) (pss_one (ps_ret pe_bl)) pss_nil)
      (pss_cons (ps_set (i := 3) scRR.nd rfl (Or.inl rfl) (pe_call G4 (hr.mono (by decide)) rfl g4 k4 b4 .nil pass0 (pa_cons (pv 0) (pa_cons (pe_call G5 (hr.mono (by decide)) rfl g5 k5 b5 .nil pass0 (pa_cons (pe_prop (pv 0) CP.cl hpD GD (hr.mono (by decide)) bD .nil pass0 rfl) pa_nil)) (pa_cons (pv 2) pa_nil)))))
      (pss_one (ps_ret (pe_and (pe_cmp (pc_notN (pv 3))) (pe_one (pe_call G6 (hr.mono (by decide)) rfl g6 k6 b6 .nil pass0 (pa_cons (pv 3) (pa_cons (pv 1) pa_nil))))))))))), ?_⟩
    refine ⟨_, rfl, ⟨⟨c, _, t, rfl, hc, ?_⟩⟩⟩
    refine ⟨_, rfl, _, rfl, ⟨⟨c, cs, t, rfl, hc, by omega, hp, fun H1 s1 => ?_⟩⟩⟩
    rcases hv with ⟨tv, hty, hk, k⟩ | ⟨a, xs, rfl, S, hlen, hsc, k⟩
    · exact ⟨_, rfl, _, _, tv, _, false, rfl, .ty "tuple", hty _ s1, hk, _, rfl, iteT (k _ s1)⟩
    · have S1 : SqT K H1 a xs := SqT.same s1 S
      obtain ⟨dx, hc0⟩ := hc
      refine ⟨_, rfl, _, _, _, _, true, rfl, .ty "tuple", tyT S1, kit_ty (by decide +kernel), _, rfl, iteF ?_⟩
      refine ⟨_, rfl, a, rfl, ⟨_, S1⟩, fun D hD => ?_⟩
      refine lc_tup (K := K) (a := a) (xs := xs) (fun i H' => Same H1 H' ∧ H' D = some (.lst (((xs.take i).map (isD cs.length)).map V.bl))) ⟨same_upd hD, upd_same⟩ (fun i H' _ q => SqT.same q.1 S1) ?_ ?_
      · rintro i x H' hi ⟨s2, hD1⟩
        refine ⟨rfl, tYes_of (iteT ?_)⟩
        have hc2 := s2 _ _ (s1 _ _ hc0)
        refine ⟨_, rfl, c, dx, _, rfl, hc2, ⟨⟨c, dx, _, t, rfl, hc2, _, rfl, ?_⟩⟩⟩
        refine spIsDrawer_sc (hsc x (List.mem_of_getElem? hi)) ⟨_, hD1, ?_, fun b o e => ?_, ?_⟩
        · rw [List.length_map, List.length_map, List.length_take]
          exact small1000 (by omega)
        · rw [upd_ne (ne_of_none e hD)]
          exact s2 b o e
        · rw [upd_same]
          congr 2
          rw [List.map_map, List.map_map]
          exact take_succ_map (V.bl ∘ isD (cs.length : Int)) hi
      · rintro H' ⟨s2, hD1⟩
        rw [List.take_length] at hD1
        have hall : (xs.map (isD (cs.length : Int))).all id = xs.all (isD cs.length) := by rw [List.all_map]; rfl
        refine ⟨D, _, rfl, SqL.of hD1, _, rfl, ?_⟩
        rw [hall]
        have s12 := s1.trans s2
        cases ea : xs.all (isD (cs.length : Int)) with
        | false =>
          refine iteT ?_
          have := k H' s12
          unfold rowB at this
          rw [ea] at this
          exact this
        | true =>
          refine iteF ?_
          obtain ⟨e1, e2⟩ := ints_of ea
          have hc2 := s12 _ _ hc0
          have B2 := B.same s12
          have n1 : 1 ≤ cs.length := by
            obtain ⟨_, _, _, _, _, _, q, _⟩ := B.h
            omega
          refine ⟨_, rfl, _, rfl, c, dx, _, rfl, hc2, ⟨⟨c, dx, _, t, rfl, hc2, ⟨⟨cs.length, rfl, n1, by omega, ?_⟩⟩⟩⟩⟩
          have hshut : (shutS cs.length).length = cs.length := List.length_replicate
          refine ⟨_, rfl, ⟨⟨c, a, bs, shutS cs.length, xs.map intOf, rfl, by rw [hshut]; exact B2, by rw [← e1]; exact SqT.same s12 S, by rw [hshut]; exact e2, by rw [List.length_map]; exact hlen, fun H3 s3 => ?_⟩⟩⟩
          have s13 := s12.trans s3
          refine ⟨_, rfl, ?_⟩
          have kk := fun H4 s4 => k H4 s4
          unfold rowB isRowB at kk
          rw [ea] at kk
          cases er : runB bs (shutS cs.length) (xs.map intOf) with
          | none =>
            rw [er] at kk
            refine ⟨_, rfl, ?_⟩
            exact iteF (kk H3 s13)
          | some e =>
            rw [er] at kk
            refine ⟨_, rfl, ?_⟩
            refine iteT ?_
            have el : e.length = cs.length := by rw [runB_len er, hshut]
            exact ⟨_, rfl, _, rfl, ⟨⟨e, cs, rfl, el, by omega, fun H4 s4 => kk H4 (s13.trans s4)⟩⟩⟩
/-! ### of the law: whether a standing fits, whether a row is one -/
end
end DL

set_option Elab.async false
set_option maxRecDepth 100000
set_option maxHeartbeats 1000000

set_option Elab.async false
set_option maxRecDepth 100000
set_option maxHeartbeats 1000000

set_option Elab.async false
set_option maxRecDepth 100000
set_option maxHeartbeats 1000000
namespace DL
open PySem L2
/-! ### the checks with what they raise -/
/-- what is_bar says False of -/
def NoBar (K : PySem.W.Frag) (H : Hp) (n : Int) (v : V) : Prop := (∃ t : Value, TyX K H v t ∧ PySem.W.kitOne K t (.type "tuple") = some false) ∨
  (∃ (a : Addr) (xs : List V), v = .ref a ∧ SqT K H a xs ∧ xs.length ≠ 4) ∨
  ∃ (a : Addr) (x0 x1 x2 x3 : V), v = .ref a ∧ SqT K H a [x0, x1, x2, x3] ∧ scV x0 = true ∧ scV x1 = true ∧ scV x2 = true ∧ scV x3 = true ∧ barB n x0 x1 x2 x3 = false
theorem NoBar.sp {K : PySem.W.Frag} {H : Hp} {n : Int} {v : V} {Q : VK} {E : XK} (h : NoBar K H n v) (k : Q (.bl false) H) : spIsBar K [.int n, v] H Q E := by
  rcases h with ⟨t, h1, h2⟩ | ⟨a, xs, rfl, h1, h2⟩ | ⟨a, x0, x1, x2, x3, rfl, h1, c0, c1, c2, c3, h2⟩
  · exact ⟨⟨n, .inl ⟨v, t, rfl, h1, h2, k⟩⟩⟩
  · exact ⟨⟨n, .inr (.inl ⟨a, xs, rfl, h1, h2, k⟩)⟩⟩
  · exact ⟨⟨n, .inr (.inr ⟨a, x0, x1, x2, x3, rfl, h1, c0, c1, c2, c3, by rw [h2]; exact k⟩)⟩⟩
end DL

set_option Elab.async false
set_option maxRecDepth 100000
namespace DL
open PySem L2 HT TL RZ
/-! ### sets of drawers -/
def ascB (ns : List Int) : Bool := (ns.zip (ns.drop 1)).all fun p => decide (p.1 < p.2)
def setB (n : Int) (xs : List V) : Bool := xs.all (isD n) && ascB (xs.map intOf)
structure spIsSet (K : PySem.W.Frag) (vs : List V) (H : Hp) (Q : VK) (_ : XK) : Prop where
  h : ∃ (n : Int) (v : V), vs = [.int n, v] ∧ ((∃ t : Value, TyX K H v t ∧ PySem.W.kitOne K t (.type "tuple") = some false ∧ Q (.bl false) H) ∨
    ∃ (a : Addr) (xs : List V), v = .ref a ∧ SqT K H a xs ∧ xs.length ≤ 1000 ∧ (∀ x ∈ xs, scV x = true) ∧ ∀ H', Same H H' → Q (.bl (setB n xs)) H')
theorem walk_zipT {K : PySem.W.Frag} {a b : Addr} {xs ys : List V} {n : Nat} (hn : n = min xs.length ys.length) : Walk (ItzT K a b) n (fun H => SqT K H a xs ∧ SqT K H b ys) (YPair (fun i => xs[i]?) (fun i => ys[i]?)) := by
  subst hn
  refine ⟨fun i _ hi q => ?_, fun _ q => ⟨xs, ys, q.1, q.2, by omega⟩, fun i H v H' _ q y => ?_⟩
  · have l1 : i < xs.length := by omega
    have l2 : i < ys.length := by omega
    exact ⟨xs, ys, xs[i], ys[i], q.1, q.2, List.getElem?_eq_getElem l1, List.getElem?_eq_getElem l2⟩
  · obtain ⟨T, x, z, e1, e2, e3, e4, e5⟩ := y
    exact ⟨T, x, z, e1, e2, e3, e4 xs q.1, e5 ys q.2⟩
theorem cut1_empty {xs : List V} : (HT.sIx xs.length 0 (some 1) = 0 ∧ HT.sIx xs.length xs.length none = xs.length) ↔ xs = [] := by
  rw [show (some (1 : Int)) = some ((1 : Nat) : Int) from rfl, HT.sIx_nat, HT.sIx_none]
  cases xs with
  | nil => simp
  | cons x xs => simp
theorem cut1 {xs : List V} : cutV xs (some 1) none = xs.drop 1 := by
  unfold cutV
  rw [show (some (1 : Int)) = some ((1 : Nat) : Int) from rfl, HT.sIx_nat, HT.sIx_none]
  cases xs with
  | nil => rfl
  | cons x xs => simp
theorem zip_pairs {ns : List Int} {i : Nat} {p : Int × Int} (h : (ns.zip (ns.drop 1))[i]? = some p) : (ns.map V.int)[i]? = some (.int p.1) ∧ ((ns.map V.int).drop 1)[i]? = some (.int p.2) := by
  rw [List.getElem?_zip_eq_some] at h
  rw [← List.map_drop, List.getElem?_map, List.getElem?_map, h.1, h.2]
  exact ⟨rfl, rfl⟩
theorem bl_all {α : Type} (l : List α) (f : α → Bool) : (l.map f).all id = l.all f := by rw [List.all_map]; rfl
section
variable {P : Program} {w : World} {K : PySem.W.Frag} {mg : Str → Option Value} {base : Heap}
abbrev nIS : List Str := ["drawers", "value", "drawer", "one", "other"]
theorem scIS : FnScope nIS ["drawers", "value"] (defScope s_is_set) := ⟨rfl, rfl, rfl, by decide +kernel, rfl, by decide +kernel, by decide +kernel⟩
theorem ok_isSet {f f1 : Addr} {fd fd1 : FuncData} (F : Fun K "is_set" "is_set" s_is_set f fd) (T : Bt mg) (zA : mg "all" = none) (zZ : mg "zip" = none) (G : FnOk P w K mg base CX0 2 f1 fd1 ["drawers", "value"] (spIsDrawer K)) (g1 : mg "is_drawer" = some (.ref f1)) (k1 : PySem.W.keepIn K (.ref f1) = true) (b1 : Binds K fd1 ["drawers", "value"] []) :
    FnOk P w K mg base CX0 4 f fd ["drawers", "value"] (spIsSet K) := by
  refine F.ok scIS (fun vs H Q E h => ?_) (fun cdv A outer s H vs Q E hr h => ?_)
  · obtain ⟨n, v, rfl, _⟩ := h.h
    rfl
  · obtain ⟨n, v, rfl, hv⟩ := h.h
    refine ⟨_, pss_cons (ps_if (PW.pt (pw_or (pt_not (pt_val (pe_callB call_isi (by rfl) T.isinstance (by decide +kernel) (pa_cons (pv 1) (pa_cons (pe_bltn (v := .ty "tuple") (by rfl) T.tuple (by decide +kernel) rfl) pa_nil)))))
        (pw_or1 (pt_not (pt_val (pe_callB (cr_all rfl) (by rfl) zA boot_all_ (pa_cons
          (pe_lc (own := [("drawer", 2)]) (g := gName 2) (tt := tYes) (by rfl) scIS.nd (pi_tup (pv 1)) (blkOk_by (N := nIS) (sc := defScope s_is_set) (by decide +kernel)) (fun _ _ _ _ _ => pg_name (i := 2) scIS.nd rfl (Or.inl rfl)) (fun _ _ _ _ _ => pts_nil)
            (fun _ _ _ _ _ => pe_call G (hr.mono (by decide)) rfl g1 k1 b1 .nil pass0 (pa_cons (pv 0) (pa_cons (pv 2) pa_nil)))) pa_nil))))))) (pss_one (ps_ret pe_bl)) pss_nil)
      (pss_one (ps_ret (pe_callB (cr_all rfl) (by rfl) zA boot_all_ (pa_cons
          (pe_lc (own := [("one", 3), ("other", 4)]) (g := gTup K 2 (gCons (gName 3) (gCons (gName 4) gNil))) (tt := tYes) (by rfl) scIS.nd (pi_zipA (by rfl) zZ (pa_cons (pv 1) (pa_cons (pe_slice sl_tupA (pv 1) (po_some pe_int) po_none) pa_nil))) (blkOk_by (N := nIS) (sc := defScope s_is_set) (by decide +kernel))
            (fun _ _ _ _ _ => pg_tupK (K := K) rfl rfl (pgs_cons (pg_name (i := 3) scIS.nd rfl (Or.inl rfl)) (pgs_cons (pg_name (i := 4) scIS.nd rfl (Or.inl rfl)) pgs_nil))) (fun _ _ _ _ _ => pts_nil)
            (fun _ _ _ _ _ => pe_cmpR op_lt (pv 3) (pv 4) (nomark _))) pa_nil)))), ?_⟩
    rcases hv with ⟨t, hty, hk, k⟩ | ⟨a, xs, rfl, S, hlen, hsc, k⟩
    · exact ⟨_, rfl, _, _, t, _, false, rfl, .ty "tuple", hty, hk, _, rfl, iteT k⟩
    · refine ⟨_, rfl, _, _, _, _, true, rfl, .ty "tuple", tyT S, kit_ty (by decide +kernel), _, rfl, iteF ?_⟩
      refine ⟨_, rfl, a, rfl, ⟨_, S⟩, fun D hD => ?_⟩
      refine lc_pick (walk_tup (K := K) (a := a) (xs := xs)) xs rfl (by omega) (fun _ => true) (fun x => V.bl (isD n x)) hD (fun H' s1 => SqT.same s1 S) ?_ ?_
      · rintro i x z H1 H1' Tk Nk ez s1 ⟨rfl, ex⟩ kT kF
        have ex : xs[i]? = some x := ex
        rw [ez] at ex
        cases ex
        refine ⟨rfl, tYes_of (iteT ?_)⟩
        refine ⟨_, rfl, _, rfl, ?_⟩
        exact spIsDrawer_sc (hsc _ (List.mem_of_getElem? ez)) (kT _ rfl (Same.refl _))
      · intro H1 s1 hD1
        rw [List.filter_eq_self.mpr fun _ _ => rfl] at hD1
        refine ⟨D, xs.map (isD n), rfl, SqL.of (by rw [hD1, List.map_map]; rfl), _, rfl, ?_⟩
        rw [bl_all]
        cases ea : xs.all (isD n) with
        | false =>
          refine iteT ?_
          have := k H1 s1
          unfold setB at this
          rw [ea] at this
          exact this
        | true =>
          refine iteF ?_
          obtain ⟨e1, e2⟩ := ints_of ea
          have S1 := SqT.same s1 S
          have fin : ∀ (H2 : Hp) (b : Addr) (Qf : VK), Same H H2 → SqT K H2 b (xs.drop 1) → (∀ H3, Same H2 H3 → Qf (.bl (ascB (xs.map intOf))) H3) →
              lcC (ItzT K a b) (gTup K 2 (gCons (gName 3) (gCons (gName 4) gNil))) tYes (tOp (rI0 fun i j => V.bl (decide (i < j))) (tVar 3) (tVar 4)) [3, 4] (L2.start nIS [.int n, .ref a]) (fun v H3 => rAll K [v] H3 Qf) H2 := by
            intro H2 b Qf s2 Sb kq D2 hD2
            have Sa := SqT.same s2 S
            have hl : ((xs.map intOf).zip ((xs.map intOf).drop 1)).length = min xs.length (xs.drop 1).length := by rw [List.length_zip, List.length_drop, List.length_map, List.length_drop]
            refine lc_pick (walk_zipT (K := K) (a := a) (b := b) (xs := xs) (ys := xs.drop 1) rfl) ((xs.map intOf).zip ((xs.map intOf).drop 1)) hl (by rw [List.length_drop]; omega) (fun _ => true) (fun p => V.bl (decide (p.1 < p.2))) hD2 (fun H' s3 => ⟨SqT.same s3 Sa, SqT.same s3 Sb⟩) ?_ ?_
            · rintro i x p H3 H3' Tk Nk ep s3 ⟨T, u, v, rfl, hT, rfl, eu, ev⟩ kT kF
              obtain ⟨p1, p2⟩ := zip_pairs ep
              rw [← e1] at p1 p2
              have eu : xs[i]? = some u := eu
              have ev : (xs.drop 1)[i]? = some v := ev
              rw [p1] at eu
              rw [p2] at ev
              cases eu
              cases ev
              refine ⟨T, _, rfl, SqT.of' upd_same, rfl, _, _, rfl, _, _, rfl, rfl, rfl, tYes_of (iteT ?_)⟩
              exact ⟨_, rfl, _, rfl, _, _, rfl, rfl, kT _ rfl (same_upd hT)⟩
            · intro H3 s3 hD3
              rw [List.filter_eq_self.mpr fun _ _ => rfl] at hD3
              refine ⟨D2, ((xs.map intOf).zip ((xs.map intOf).drop 1)).map fun p => decide (p.1 < p.2), rfl, SqL.of (by rw [hD3, List.map_map]; rfl), ?_⟩
              rw [bl_all]
              exact kq H3 s3
          have kk : ∀ H3, Same H H3 → Q (.bl (ascB (xs.map intOf))) H3 := fun H3 s3 => by
            have := k H3 s3
            unfold setB at this
            rw [ea] at this
            exact this
          refine ⟨_, rfl, _, rfl, _, rfl, a, xs, rfl, S1, fun hw => ?_, fun hw p hp => ?_⟩
          · have hx : xs = [] := cut1_empty.mp hw
            exact ⟨a, a, xs, xs, rfl, .inr ⟨S1, S1, fin H1 a Q s1 (by rw [hx] at S1 ⊢; exact S1) fun H3 s3 => kk H3 (s1.trans s3)⟩⟩
          · have s2 := same_upd (o := .tup (cutV xs (some 1) none)) hp
            exact ⟨a, p, xs, cutV xs (some 1) none, rfl, .inr ⟨SqT.same s2 S1, SqT.of' upd_same, fin _ p Q (s1.trans s2) (by rw [← cut1]; exact SqT.of' upd_same) fun H3 s3 => kk H3 ((s1.trans s2).trans s3)⟩⟩
end
/-- a set: its drawers stand at a -/
structure SetAt (K : PySem.W.Frag) (H : Hp) (n : Int) (a : Addr) (ns : List Int) : Prop where
  at' : SqT K H a (ns.map V.int)
  low : ∀ d ∈ ns, 0 ≤ d ∧ d < n
  asc : ns.Pairwise (· < ·)
theorem SetAt.same {K : PySem.W.Frag} {H H' : Hp} {n : Int} {a : Addr} {ns : List Int} (S : SetAt K H n a ns) (s : Same H H') : SetAt K H' n a ns := ⟨SqT.same s S.at', S.low, S.asc⟩
theorem asc_pw : ∀ {ns : List Int}, ns.Pairwise (· < ·) → ascB ns = true := by
  intro ns h
  unfold ascB
  rw [List.all_eq_true]
  intro p hp
  obtain ⟨i, hi⟩ := List.getElem?_of_mem hp
  rw [List.getElem?_zip_eq_some] at hi
  obtain ⟨h1, h2⟩ := hi
  rw [List.getElem?_drop] at h2
  obtain ⟨l1, e1⟩ := List.getElem?_eq_some_iff.mp h1
  obtain ⟨l2, e2⟩ := List.getElem?_eq_some_iff.mp h2
  have := List.pairwise_iff_getElem.mp h i (1 + i) l1 l2 (by omega)
  rw [e1, e2] at this
  exact decide_eq_true this
theorem setB_ints {n : Int} {ns : List Int} (hl : ∀ d ∈ ns, 0 ≤ d ∧ d < n) (ha : ns.Pairwise (· < ·)) : setB n (ns.map V.int) = true := by
  unfold setB
  have e : (ns.map V.int).map intOf = ns := by
    rw [List.map_map]
    exact List.map_id ns
  rw [e, asc_pw ha, Bool.and_true, List.all_eq_true]
  intro x hx
  obtain ⟨d, hd, rfl⟩ := List.mem_map.mp hx
  obtain ⟨d0, d1⟩ := hl d hd
  show (decide (0 ≤ d) && decide (d < n)) = true
  rw [decide_eq_true d0, decide_eq_true d1]
  rfl
theorem pw_low_len {n : Nat} {ns : List Int} (hl : ∀ d ∈ ns, 0 ≤ d ∧ d < n) (ha : ns.Pairwise (· < ·)) : ns.length ≤ n := by
  have nd : ns.Nodup := ha.imp fun h => by omega
  have hs : ∀ d ∈ ns, d ∈ drs n := fun d hd => by
    obtain ⟨d0, d1⟩ := hl d hd
    unfold drs
    exact List.mem_map.mpr ⟨d.toNat, List.mem_range.mpr (by omega), by omega⟩
  have := nd.length_le_of_subset hs
  rw [drs_len] at this
  exact this
structure spCkSet (K : PySem.W.Frag) (C : Addr) (vs : List V) (H : Hp) (Q : VK) (_ : XK) : Prop where
  h : ∃ (c a : Addr) (n : Nat) (t : Addr) (ns : List Int), vs = [.ref c, .ref a] ∧ CabAt C H c n t ∧ n ≤ 7 ∧ SetAt K H n a ns ∧ ∀ H', Same H H' → Q .non H'
section
variable {P : Program} {w : World} {K : PySem.W.Frag} {mg : Str → Option Value} {base : Heap}
theorem scCkS : FnScope ["cabinet", "some"] ["cabinet", "some"] (defScope s_check_set) := ⟨rfl, rfl, rfl, by decide +kernel, rfl, by decide +kernel, by decide +kernel⟩
theorem ok_ckSet {f f1 C : Addr} {fd fd1 : FuncData} (F : Fun K "check_set" "check_set" s_check_set f fd) (CP : CabP P w K mg base C) (G : FnOk P w K mg base CX0 4 f1 fd1 ["drawers", "value"] (spIsSet K)) (g1 : mg "is_set" = some (.ref f1)) (k1 : PySem.W.keepIn K (.ref f1) = true) (b1 : Binds K fd1 ["drawers", "value"] []) :
    FnOk P w K mg base CX0 6 f fd ["cabinet", "some"] (spCkSet K C) := by
  refine F.ok scCkS (fun vs H Q E h => ?_) (fun cdv A outer s H vs Q E hr h => ?_)
  · obtain ⟨c, a, n, t, ns, rfl, _⟩ := h.h
    rfl
  · obtain ⟨c, a, n, t, ns, rfl, ⟨dx, hc⟩, n7, S, k⟩ := h.h
    obtain ⟨pD, gD, fdD, hpD, GD, bD⟩ := CP.d
    refine ⟨_, pss_one (ps_if (pt_not (pt_val (pe_call G (hr.mono (by decide)) rfl g1 k1 b1 .nil pass0 (pa_cons (pe_prop (pv 0) CP.cl hpD GD (hr.mono (by decide)) bD .nil pass0 rfl) (pa_cons (pv 1) pa_nil))))) (pss_one ps_never) pss_nil), ?_⟩
    have hl := pw_low_len S.low S.asc
    refine ⟨_, rfl, c, dx, _, rfl, hc, ⟨⟨c, dx, _, t, rfl, hc, _, rfl, ⟨⟨n, _, rfl, .inr ⟨a, _, rfl, S.at', by rw [List.length_map]; omega, fun x hx => ?_, fun H' s1 => ⟨_, rfl, ?_⟩⟩⟩⟩⟩⟩⟩
    · obtain ⟨d, _, rfl⟩ := List.mem_map.mp hx
      rfl
    · rw [setB_ints S.low S.asc]
      exact iteF (k H' s1)
end
end DL

set_option Elab.async false
set_option maxRecDepth 100000
namespace DL
open PySem PySem.Spec PyProof.Rows L2
/-! ### a walk over a list or a tuple, whichever it is -/
def iSeq (K : PySem.W.Frag) (tl : TE) : TI := fun σ H R => tl σ H fun x H1 => ∃ a : Addr, x = .ref a ∧ (((∃ xs : List V, SqL K H1 a xs) ∧ R (Itl K a) H1) ∨ ((∃ xs : List V, SqT K H1 a xs) ∧ R (Itt K a) H1))
theorem pi_seq {X : Cx} {K : PySem.W.Frag} {tg : Expr} {l : Expr} {tl : TE} (hK : X.K = K) (hl : PE X l tl) : PI X tg l (iSeq K tl) := by
  subst hK
  refine ⟨fun pins s0 σ H R I0 rd => ?_⟩
  refine thn (hl.run pins s0 σ H _ I0 rd) fun v s1 ⟨x, H1, I1, rx, a, ea, q⟩ => ?_
  subst ea
  cases rx
  have new : ∀ b, b ∈ [s1.heap.objs.size] → FpOk X pins H1 b := fun b hb => by
    rw [List.mem_singleton.mp hb]
    exact I1.fpOk (Nat.le_refl _) (I1.hok.fresh (Nat.le_refl _))
  rcases q with ⟨⟨xs, hq⟩, q⟩ | ⟨⟨xs, hq⟩, q⟩
  · obtain ⟨_, _, pl, _⟩ := I1.list hq
    exact wpAny_pyIter_list pl.isList ⟨s1.heap.objs.size, [s1.heap.objs.size], _, _, H1, rfl,
      I1.kept (t' := s1.toks) (fun b o e => Heap.get?_push_of_some _ e), turn_list a _, ⟨_, Heap.get?_push_size _ rfl, rfl, rfl⟩, new, q⟩
  · obtain ⟨its, _, pl, _⟩ := I1.tuple hq
    exact wpAny_pyIter_tuple (show s1.heap.IsTuple a its.toArray from pl) ⟨s1.heap.objs.size, [s1.heap.objs.size], _, _, H1, rfl,
      I1.kept (t' := s1.toks) (fun b o e => Heap.get?_push_of_some _ e), turn_tuple a _, ⟨_, Heap.get?_push_size _ rfl, rfl, rfl⟩, new, q⟩
/-- at a: a list or a tuple -/
def SqA (K : PySem.W.Frag) (H : Hp) (a : Addr) (xs : List V) : Prop := SqL K H a xs ∨ SqT K H a xs
theorem ix_kdictK {X : Cx} {K : PySem.W.Frag} {w : World} (hK : X.K = K) (hw : X.w = w) : IxR X (rIxD K w) := by subst hK hw; exact ix_kdict
/-! ### two for in one comprehension -/
end DL

set_option Elab.async false
set_option maxRecDepth 100000
namespace DL
open PySem L2 HT TL
/-! ### rows in their order: by their number of pulls, then by their pulls; as numbers -/
def rcode (r : List Int) : Int := r.foldl (fun a d => a * 8 + (d + 1)) 0
theorem rcode_snoc (r : List Int) (d : Int) : rcode (r ++ [d]) = rcode r * 8 + (d + 1) := by
  unfold rcode
  rw [List.foldl_append]
  rfl
theorem rcode_nil : rcode [] = 0 := rfl
def Low7 (r : List Int) : Prop := ∀ d ∈ r, 0 ≤ d ∧ d ≤ 6
theorem snoc_ind {α : Type} {p : List α → Prop} (h0 : p []) (hs : ∀ l a, p l → p (l ++ [a])) (l : List α) : p l := by
  have : ∀ m : List α, p m.reverse := fun m => by
    induction m with
    | nil => exact h0
    | cons a m ih =>
      rw [List.reverse_cons]
      exact hs _ _ ih
  have h := this l.reverse
  rw [List.reverse_reverse] at h
  exact h
theorem Low7.init {r : List Int} {d : Int} (h : Low7 (r ++ [d])) : Low7 r ∧ 0 ≤ d ∧ d ≤ 6 := ⟨fun x hx => h x (List.mem_append_left _ hx), h d (List.mem_append_right _ (List.mem_singleton.mpr rfl))⟩
theorem rcode_nn : ∀ {r : List Int}, Low7 r → 0 ≤ rcode r := by
  intro r
  refine snoc_ind (p := fun r => Low7 r → 0 ≤ rcode r) (fun _ => Int.le_refl _) (fun l a ih h => ?_) r
  obtain ⟨h1, h2, h3⟩ := h.init
  have := ih h1
  rw [rcode_snoc]
  omega
theorem rcode_inj' : ∀ a b : List Int, Low7 a → Low7 b → rcode a = rcode b → a = b := by
  intro a
  refine snoc_ind (p := fun a => ∀ b, Low7 a → Low7 b → rcode a = rcode b → a = b) (fun b _ hb e => ?_) (fun l x ih b ha hb e => ?_) a
  · revert hb e
    refine snoc_ind (p := fun b => Low7 b → rcode [] = rcode b → [] = b) (fun _ _ => rfl) (fun l y _ hb e => ?_) b
    obtain ⟨h1, h2, h3⟩ := hb.init
    have := rcode_nn h1
    rw [rcode_snoc, rcode_nil] at e
    omega
  · obtain ⟨h1, h2, h3⟩ := ha.init
    have p1 := rcode_nn h1
    revert hb e
    refine snoc_ind (p := fun b => Low7 b → rcode (l ++ [x]) = rcode b → l ++ [x] = b) (fun _ e => ?_) (fun m y _ hb e => ?_) b
    · rw [rcode_snoc, rcode_nil] at e
      omega
    · obtain ⟨g1, g2, g3⟩ := hb.init
      have p2 := rcode_nn g1
      rw [rcode_snoc, rcode_snoc] at e
      rw [ih m h1 g1 (by omega), show x = y by omega]
theorem rcode_inj {a b : List Int} (ha : Low7 a) (hb : Low7 b) (h : rcode a = rcode b) : a = b := rcode_inj' a b ha hb h
/-- a row is before another -/
def Bef (a b : List Int) : Prop := rcode a < rcode b ∧ a.length ≤ b.length
/-- rows in order, each behind the first one but one pull longer than one of those ahead of the i-th -/
structure Asc (rs : List (List Int)) (i : Nat) : Prop where
  pw : rs.Pairwise Bef
  low : ∀ x ∈ rs, Low7 x
  par : ∀ x ∈ rs, x = [] ∨ ∃ (j : Nat) (q : List Int) (d : Int), j < i ∧ rs[j]? = some q ∧ x = q ++ [d]
structure AscD (rs : List (List Int)) (i : Nat) (p : List Int) (D : Int) : Prop where
  pw : rs.Pairwise Bef
  low : ∀ x ∈ rs, Low7 x
  at' : rs[i]? = some p
  par : ∀ x ∈ rs, x = [] ∨ (∃ (j : Nat) (q : List Int) (d : Int), j < i ∧ rs[j]? = some q ∧ x = q ++ [d]) ∨ ∃ d : Int, d < D ∧ x = p ++ [d]
theorem Asc.during {rs : List (List Int)} {i : Nat} {p : List Int} (A : Asc rs i) (h : rs[i]? = some p) : AscD rs i p 0 := by
  refine ⟨A.pw, A.low, h, fun x hx => ?_⟩
  rcases A.par x hx with q | q
  · exact .inl q
  · exact .inr (.inl q)
theorem AscD.done {rs : List (List Int)} {i : Nat} {p : List Int} {D : Int} (A : AscD rs i p D) : Asc rs (i + 1) := by
  refine ⟨A.pw, A.low, fun x hx => ?_⟩
  rcases A.par x hx with q | ⟨j, q, d, h1, h2, h3⟩ | ⟨d, h1, h2⟩
  · exact .inl q
  · exact .inr ⟨j, q, d, by omega, h2, h3⟩
  · exact .inr ⟨i, p, d, by omega, A.at', h2⟩
theorem AscD.up {rs : List (List Int)} {i : Nat} {p : List Int} {D D' : Int} (A : AscD rs i p D) (h : D ≤ D') : AscD rs i p D' := by
  refine ⟨A.pw, A.low, A.at', fun x hx => ?_⟩
  rcases A.par x hx with q | q | ⟨d, h1, h2⟩
  · exact .inl q
  · exact .inr (.inl q)
  · exact .inr (.inr ⟨d, by omega, h2⟩)
theorem AscD.below {rs : List (List Int)} {i : Nat} {p : List Int} {D d : Int} (A : AscD rs i p D) (hD : D ≤ d) (h0 : 0 ≤ d) : ∀ x ∈ rs, Bef x (p ++ [d]) := by
  intro x hx
  have hp : Low7 p := A.low p (List.mem_of_getElem? A.at')
  have pn := rcode_nn hp
  have lx := A.low x hx
  rcases A.par x hx with rfl | ⟨j, q, e, h1, h2, rfl⟩ | ⟨e, h1, rfl⟩
  · refine ⟨?_, by simp⟩
    rw [rcode_snoc, rcode_nil]
    omega
  · obtain ⟨g1, g2, g3⟩ := lx.init
    obtain ⟨l1, e1⟩ := List.getElem?_eq_some_iff.mp h2
    obtain ⟨l2, e2⟩ := List.getElem?_eq_some_iff.mp A.at'
    have := List.pairwise_iff_getElem.mp A.pw j i l1 l2 h1
    rw [e1, e2] at this
    obtain ⟨b1, b2⟩ := this
    refine ⟨?_, by rw [List.length_append, List.length_append]; exact Nat.add_le_add_right b2 _⟩
    rw [rcode_snoc, rcode_snoc]
    omega
  · refine ⟨?_, by rw [List.length_append, List.length_append]; exact Nat.le_refl _⟩
    rw [rcode_snoc, rcode_snoc]
    omega
theorem AscD.add {rs : List (List Int)} {i : Nat} {p : List Int} {D d : Int} (A : AscD rs i p D) (hD : D ≤ d) (h0 : 0 ≤ d) (h6 : d ≤ 6) : AscD (rs ++ [p ++ [d]]) i p (d + 1) := by
  have hp : Low7 p := A.low p (List.mem_of_getElem? A.at')
  have keep : ∀ (j : Nat) (q : List Int), rs[j]? = some q → (rs ++ [p ++ [d]])[j]? = some q := fun j q h => by
    rw [List.getElem?_append_left (List.getElem?_eq_some_iff.mp h).1]
    exact h
  refine ⟨?_, fun x hx => ?_, keep i p A.at', fun x hx => ?_⟩
  · rw [List.pairwise_append]
    refine ⟨A.pw, List.pairwise_singleton _ _, fun x hx y hy => ?_⟩
    rw [List.mem_singleton.mp hy]
    exact A.below hD h0 x hx
  · rcases List.mem_append.mp hx with hx | hx
    · exact A.low x hx
    · rw [List.mem_singleton.mp hx]
      intro e he
      rcases List.mem_append.mp he with he | he
      · exact hp e he
      · rw [List.mem_singleton.mp he]; exact ⟨h0, h6⟩
  · rcases List.mem_append.mp hx with hx | hx
    · rcases A.par x hx with q | ⟨j, q, e, h1, h2, h3⟩ | ⟨e, h1, h2⟩
      · exact .inl q
      · exact .inr (.inl ⟨j, q, e, h1, keep j q h2, h3⟩)
      · exact .inr (.inr ⟨e, by omega, h2⟩)
    · exact .inr (.inr ⟨d, by omega, List.mem_singleton.mp hx⟩)
/-! ### the pulls that go, one after another -/
theorem drs_pw (n : Nat) : (drs n).Pairwise (· < ·) := by
  unfold drs
  rw [List.pairwise_map]
  exact List.pairwise_lt_range.imp fun h => by omega
theorem free_pw (bs : List Bar) (st : List Bool) : (freeL bs st).Pairwise (· < ·) := (drs_pw st.length).filter _
theorem free_mem {bs : List Bar} {st : List Bool} {d : Int} : d ∈ freeL bs st ↔ (0 ≤ d ∧ d < st.length) ∧ goesB bs st d = true := by
  refine ⟨fun h => ⟨free_in h, (List.mem_filter.mp h).2⟩, fun h => ?_⟩
  refine List.mem_filter.mpr ⟨?_, h.2⟩
  unfold drs
  exact List.mem_map.mpr ⟨d.toNat, List.mem_range.mpr (by omega), by omega⟩
theorem pw_drop {l : List Int} (h : l.Pairwise (· < ·)) {t : Nat} {d : Int} (hd : l[t]? = some d) : (∀ x ∈ l.drop (t + 1), d + 1 ≤ x) ∧ l.drop t = d :: l.drop (t + 1) := by
  obtain ⟨h1, h2⟩ := List.getElem?_eq_some_iff.mp hd
  have e : l.drop t = d :: l.drop (t + 1) := by rw [List.drop_eq_getElem_cons h1, h2]
  refine ⟨fun x hx => ?_, e⟩
  have hp : (l.drop t).Pairwise (· < ·) := List.Pairwise.sublist (List.drop_sublist t l) h
  rw [e, List.pairwise_cons] at hp
  have := hp.1 x hx
  omega
theorem mem_take_succ {α : Type} {l : List α} {t : Nat} {d x : α} (hd : l[t]? = some d) (h : x ∈ l.take (t + 1)) : x ∈ l.take t ∨ x = d := by
  obtain ⟨h1, h2⟩ := List.getElem?_eq_some_iff.mp hd
  rw [List.take_succ_eq_append_getElem h1, h2] at h
  rcases List.mem_append.mp h with h | h
  · exact .inl h
  · exact .inr (List.mem_singleton.mp h)
/-! ### the queue: an entry is a standing and its row -/
abbrev Ent := List Bool × List Int
def Led (bs : List Bar) (s0 : List Bool) (e : Ent) : Prop := runB bs s0 e.2 = some e.1 ∧ (Low7 e.2 ∧ ∀ d ∈ e.2, 0 ≤ d ∧ d < s0.length) ∧ e.1.length = s0.length
theorem runB_snoc {bs : List Bar} : ∀ {r : List Int} {st : List Bool} {d : Int}, runB bs st (r ++ [d]) = (runB bs st r).bind fun s => if goesB bs s d = true then some (flip s d) else none
  | [], st, d => by
    show runB bs st [d] = _
    rw [runB_cons]
    rfl
  | x :: r, st, d => by
    show runB bs st (x :: (r ++ [d])) = _
    rw [runB_cons, runB_cons]
    by_cases q : goesB bs st x = true
    · rw [if_pos q, if_pos q]
      exact runB_snoc
    · rw [if_neg q, if_neg q]
      rfl
theorem Led.step {bs : List Bar} {s0 : List Bool} {p : Ent} {d : Int} (L : Led bs s0 p) (hd : d ∈ freeL bs p.1) (h7 : s0.length ≤ 7) : Led bs s0 (flip p.1 d, p.2 ++ [d]) := by
  obtain ⟨⟨d0, d1⟩, hg⟩ := free_mem.mp hd
  refine ⟨?_, ⟨fun x hx => ?_, fun x hx => ?_⟩, by rw [flip_len]; exact L.2.2⟩
  · show runB bs s0 (p.2 ++ [d]) = _
    rw [runB_snoc, L.1, Option.bind_some, if_pos hg]
  · rcases List.mem_append.mp hx with hx | hx
    · exact L.2.1.1 x hx
    · rw [List.mem_singleton.mp hx]
      have := L.2.2
      omega
  · rcases List.mem_append.mp hx with hx | hx
    · exact L.2.1.2 x hx
    · rw [List.mem_singleton.mp hx]
      have := L.2.2
      omega
structure BI (bs : List Bar) (s0 : List Bool) (i : Nat) (es : List Ent) : Prop where
  nd : (es.map (·.1)).Nodup
  asc : Asc (es.map (·.2)) i
  led : ∀ e ∈ es, Led bs s0 e
  ex : ∀ (j : Nat) (p : Ent), j < i → es[j]? = some p → ∀ d ∈ freeL bs p.1, ∃ e ∈ es, e.1 = flip p.1 d ∧ rcode e.2 ≤ rcode (p.2 ++ [d]) ∧ e.2.length ≤ p.2.length + 1
  root : (s0, []) ∈ es
structure BD (bs : List Bar) (s0 : List Bool) (i : Nat) (p : Ent) (t : Nat) (D : Int) (es : List Ent) : Prop where
  nd : (es.map (·.1)).Nodup
  asc : AscD (es.map (·.2)) i p.2 D
  led : ∀ e ∈ es, Led bs s0 e
  at' : es[i]? = some p
  ex : ∀ (j : Nat) (p : Ent), j < i → es[j]? = some p → ∀ d ∈ freeL bs p.1, ∃ e ∈ es, e.1 = flip p.1 d ∧ rcode e.2 ≤ rcode (p.2 ++ [d]) ∧ e.2.length ≤ p.2.length + 1
  exd : ∀ d ∈ (freeL bs p.1).take t, ∃ e ∈ es, e.1 = flip p.1 d ∧ rcode e.2 ≤ rcode (p.2 ++ [d]) ∧ e.2.length ≤ p.2.length + 1
  dle : ∀ d ∈ (freeL bs p.1).drop t, D ≤ d
  root : (s0, []) ∈ es
theorem BI.begin {bs : List Bar} {s0 : List Bool} : BI bs s0 0 [(s0, [])] := by
  refine ⟨by simp, ⟨List.pairwise_singleton _ _, fun x hx => ?_, fun x hx => .inl (List.mem_singleton.mp hx)⟩, fun e he => ?_, fun j p hj => by omega, List.mem_singleton.mpr rfl⟩
  · rw [List.mem_singleton.mp hx]
    intro d hd
    cases hd
  · rw [List.mem_singleton.mp he]
    exact ⟨rfl, ⟨fun d hd => (by cases hd), fun d hd => (by cases hd)⟩, rfl⟩
theorem BI.during {bs : List Bar} {s0 : List Bool} {i : Nat} {es : List Ent} {p : Ent} (B : BI bs s0 i es) (h : es[i]? = some p) : BD bs s0 i p 0 0 es :=
  ⟨B.nd, B.asc.during (by rw [List.getElem?_map, h]; rfl), B.led, h, B.ex, fun d hd => (by cases hd), fun d hd => (free_in (List.mem_of_mem_drop hd)).1, B.root⟩
theorem BD.done {bs : List Bar} {s0 : List Bool} {i : Nat} {p : Ent} {D : Int} {es : List Ent} (B : BD bs s0 i p (freeL bs p.1).length D es) : BI bs s0 (i + 1) es := by
  refine ⟨B.nd, B.asc.done, B.led, fun j q hj hq => ?_, B.root⟩
  by_cases e : j = i
  · subst e
    rw [B.at'] at hq
    cases hq
    have := B.exd
    rw [List.take_length] at this
    exact this
  · exact B.ex j q (by omega) hq
theorem BD.free {bs : List Bar} {s0 : List Bool} {i : Nat} {p : Ent} {t : Nat} {D : Int} {es : List Ent} (B : BD bs s0 i p t D es) {d : Int} (hd : (freeL bs p.1)[t]? = some d) (h7 : s0.length ≤ 7) :
    d ∈ freeL bs p.1 ∧ D ≤ d ∧ 0 ≤ d ∧ d ≤ 6 := by
  have hm := List.mem_of_getElem? hd
  obtain ⟨d0, d1⟩ := free_in hm
  have := (B.led p (List.mem_of_getElem? B.at')).2.2
  obtain ⟨_, e⟩ := pw_drop (free_pw bs p.1) hd
  exact ⟨hm, B.dle d (by rw [e]; exact List.mem_cons_self), d0, by omega⟩
theorem BD.old {bs : List Bar} {s0 : List Bool} {i : Nat} {p : Ent} {t : Nat} {D : Int} {es : List Ent} (B : BD bs s0 i p t D es) {d : Int} (hd : (freeL bs p.1)[t]? = some d) (h7 : s0.length ≤ 7) (h : flip p.1 d ∈ es.map (·.1)) : BD bs s0 i p (t + 1) (d + 1) es := by
  obtain ⟨hm, hD, d0, d6⟩ := B.free hd h7
  refine ⟨B.nd, B.asc.up (by omega), B.led, B.at', B.ex, fun x hx => ?_, (pw_drop (free_pw bs p.1) hd).1, B.root⟩
  rcases mem_take_succ hd hx with hx | rfl
  · exact B.exd x hx
  · obtain ⟨e, he, h1⟩ := List.mem_map.mp h
    obtain ⟨b1, b2⟩ := B.asc.below hD d0 e.2 (List.mem_map.mpr ⟨e, he, rfl⟩)
    rw [List.length_append] at b2
    exact ⟨e, he, h1, Int.le_of_lt b1, b2⟩
theorem BD.new {bs : List Bar} {s0 : List Bool} {i : Nat} {p : Ent} {t : Nat} {D : Int} {es : List Ent} (B : BD bs s0 i p t D es) {d : Int} (hd : (freeL bs p.1)[t]? = some d) (h7 : s0.length ≤ 7) (h : ¬ flip p.1 d ∈ es.map (·.1)) : BD bs s0 i p (t + 1) (d + 1) (es ++ [(flip p.1 d, p.2 ++ [d])]) := by
  obtain ⟨hm, hD, d0, d6⟩ := B.free hd h7
  have mono : ∀ {e : Ent}, e ∈ es → e ∈ es ++ [(flip p.1 d, p.2 ++ [d])] := fun he => List.mem_append_left _ he
  refine ⟨?_, ?_, fun e he => ?_, ?_, fun j q hj hq x hx => ?_, fun x hx => ?_, (pw_drop (free_pw bs p.1) hd).1, mono B.root⟩
  · rw [List.map_append, List.nodup_append]
    refine ⟨B.nd, by simp, fun x hx y hy => ?_⟩
    rw [List.mem_singleton.mp hy]
    intro z
    have z' : x = flip p.1 d := z
    rw [z'] at hx
    exact h hx
  · rw [List.map_append]
    exact B.asc.add hD d0 d6
  · rcases List.mem_append.mp he with he | he
    · exact B.led e he
    · rw [List.mem_singleton.mp he]
      exact (B.led p (List.mem_of_getElem? B.at')).step hm h7
  · rw [List.getElem?_append_left (List.getElem?_eq_some_iff.mp B.at').1]
    exact B.at'
  · have hq' : es[j]? = some q := by
      have := (List.getElem?_eq_some_iff.mp B.at').1
      rw [List.getElem?_append_left (by omega)] at hq
      exact hq
    obtain ⟨e, he, h1⟩ := B.ex j q hj hq' x hx
    exact ⟨e, mono he, h1⟩
  · rcases mem_take_succ hd hx with hx | rfl
    · obtain ⟨e, he, h1⟩ := B.exd x hx
      exact ⟨e, mono he, h1⟩
    · exact ⟨_, List.mem_append_right _ (List.mem_singleton.mpr rfl), rfl, Int.le_refl _, by rw [List.length_append]; exact Nat.le_refl _⟩
/-- every row that goes ends where an entry stands whose row is not behind it -/
theorem BI.opt {bs : List Bar} {s0 : List Bool} {es : List Ent} (B : BI bs s0 es.length es) (h7 : s0.length ≤ 7) : ∀ (r : List Int), (∀ d ∈ r, 0 ≤ d ∧ d < s0.length) → ∀ st, runB bs s0 r = some st → ∃ e ∈ es, e.1 = st ∧ rcode e.2 ≤ rcode r ∧ e.2.length ≤ r.length := by
  intro r
  refine snoc_ind (p := fun (r : List Int) => (∀ d ∈ r, 0 ≤ d ∧ d < s0.length) → ∀ st, runB bs s0 r = some st → ∃ e ∈ es, e.1 = st ∧ rcode e.2 ≤ rcode r ∧ e.2.length ≤ r.length) (fun _ st h => ?_) (fun l d ih hl st h => ?_) r
  · cases h
    exact ⟨_, B.root, rfl, Int.le_refl _, Nat.le_refl _⟩
  · rw [runB_snoc] at h
    cases hr : runB bs s0 l with
    | none => rw [hr] at h; cases h
    | some s1 =>
      rw [hr, Option.bind_some] at h
      by_cases hg : goesB bs s1 d = true
      · rw [if_pos hg] at h
        cases h
        obtain ⟨e, he, h1, h2, h3⟩ := ih (fun x hx => hl x (List.mem_append_left _ hx)) s1 hr
        obtain ⟨j, hj⟩ := List.getElem?_of_mem he
        have el := (B.led e he).2.2
        have hdm : d ∈ freeL bs e.1 := free_mem.mpr ⟨by have := hl d (List.mem_append_right _ (List.mem_singleton.mpr rfl)); omega, by rw [h1]; exact hg⟩
        obtain ⟨f, hf, g1, g2, g3⟩ := B.ex j e (List.getElem?_eq_some_iff.mp hj).1 hj d hdm
        refine ⟨f, hf, by rw [g1, h1], ?_, ?_⟩
        · rw [rcode_snoc] at g2 ⊢
          omega
        · rw [List.length_append]
          show f.2.length ≤ l.length + 1
          omega
      · rw [if_neg hg] at h
        cases h
/-! ### there are not many standings -/
theorem few : ∀ (n : Nat) (l : List (List Bool)), l.Nodup → (∀ x ∈ l, x.length = n) → l.length ≤ 2 ^ n
  | 0, l, hn, h => by
    cases l with
    | nil => exact Nat.zero_le _
    | cons a l =>
      cases l with
      | nil => exact Nat.le_refl _
      | cons b l =>
        have h1 := List.length_eq_zero_iff.mp (h a (by simp))
        have h2 := List.length_eq_zero_iff.mp (h b (by simp))
        rw [h1, h2] at hn
        simp at hn
  | n + 1, l, hn, h => by
    have part : ∀ b : Bool, (l.filter fun x => x.head? == some b).length ≤ 2 ^ n := fun b => by
      have e : ((l.filter fun x => x.head? == some b).map List.tail).length = (l.filter fun x => x.head? == some b).length := List.length_map ..
      rw [← e]
      have hd : ∀ x ∈ l.filter fun x => x.head? == some b, x = b :: x.tail := fun x hx => by
        have := (List.mem_filter.mp hx).2
        cases x with
        | nil => cases this
        | cons c x =>
          have : some c = some b := eq_of_beq this
          cases this
          rfl
      refine few n _ ?_ fun x hx => ?_
      · have h1 : (l.filter fun x => x.head? == some b).Nodup := hn.filter _
        unfold List.Nodup at h1 ⊢
        rw [List.pairwise_map]
        refine List.Pairwise.imp_of_mem (fun {x y} hx hy q z => q ?_) h1
        rw [hd x hx, hd y hy, z]
      · obtain ⟨y, hy, rfl⟩ := List.mem_map.mp hx
        rw [List.length_tail, h y (List.mem_filter.mp hy).1]
        rfl
    have split : l.length = (l.filter fun x => x.head? == some true).length + (l.filter fun x => x.head? == some false).length := by
      clear part hn
      induction l with
      | nil => rfl
      | cons a l ih =>
        have := ih fun x hx => h x (List.mem_cons_of_mem _ hx)
        have ha := h a List.mem_cons_self
        cases a with
        | nil => cases ha
        | cons c a =>
          cases c
          · rw [List.filter_cons_of_neg (by simp), List.filter_cons_of_pos (by simp), List.length_cons, List.length_cons]
            omega
          · rw [List.filter_cons_of_pos (by simp), List.filter_cons_of_neg (by simp), List.length_cons, List.length_cons]
            omega
    have p1 := part true
    have p2 := part false
    rw [Nat.pow_succ]
    omega
theorem led_few {bs : List Bar} {s0 : List Bool} {es : List Ent} (nd : (es.map (·.1)).Nodup) (led : ∀ e ∈ es, Led bs s0 e) (h7 : s0.length ≤ 7) : es.length ≤ 128 := by
  have := few s0.length (es.map (·.1)) nd fun x hx => by
    obtain ⟨e, he, rfl⟩ := List.mem_map.mp hx
    exact (led e he).2.2
  rw [List.length_map] at this
  have h2 : 2 ^ s0.length ≤ 2 ^ 7 := Nat.pow_le_pow_right (by decide) h7
  have h3 : (2 : Nat) ^ 7 = 128 := rfl
  omega
end DL

set_option Elab.async false
set_option maxRecDepth 100000
namespace DL
open PySem L2 HT TL
/-! ### a dict that is made within a for's head is read only from then on -/
def tFrz (te : TE) : TE := fun σ H Q => te σ H fun x H1 => ∃ d u, x = V.ref d ∧ H1 d = some u ∧ Mut (some u) ∧ ∀ od, Q x (upd H1 d (.frz od u))
theorem pe_frz {X : Cx} {e : Expr} {te : TE} (he : PE X e te) : PE X e (tFrz te) := by
  refine ⟨fun pins s σ H Q I h => thn (he.run pins s σ H _ I h) fun v s1 ⟨x, H1, I1, r, d, u, ex, hd, mu, q⟩ => ?_⟩
  obtain ⟨od, I2⟩ := I1.lock hd mu
  exact ⟨x, _, I2, r, q od⟩
/-! ### rows in a dict -/
abbrev KEnt := Addr × Ent
def kvsOf (ks : List KEnt) : List (Key × V) := ks.map fun k => (.inr (sstr k.2.1), .ref k.1)
structure RowsEl (H : Hp) (ks : List KEnt) : Prop where
  el : ∀ k ∈ ks, H k.1 = some (.tup (k.2.2.map V.int))
theorem RowsEl.same {H H' : Hp} {ks : List KEnt} (R : RowsEl H ks) (s : Same H H') : RowsEl H' ks := ⟨fun k hk => s _ _ (R.el k hk)⟩
theorem val_some {ks : List KEnt} {k : KEnt} (nd : ((ks.map (·.2)).map (·.1)).Nodup) (hk : k ∈ ks) : valV (kvsOf ks) (.inr (sstr k.2.1)) = some (.ref k.1) := by
  induction ks with
  | nil => cases hk
  | cons a ks ih =>
    rw [List.map_cons, List.map_cons, List.nodup_cons] at nd
    unfold valV kvsOf
    rw [List.map_cons, List.find?_cons]
    by_cases q : (.inr (sstr a.2.1) : Key) = .inr (sstr k.2.1)
    · rw [decide_eq_true q]
      rcases List.mem_cons.mp hk with rfl | hk
      · rfl
      · injection q with q
        refine absurd (List.mem_map.mpr ⟨k.2, List.mem_map.mpr ⟨k, hk, rfl⟩, (sstr_inj q).symm⟩) nd.1
    · rw [decide_eq_false q]
      rcases List.mem_cons.mp hk with rfl | hk
      · exact absurd rfl q
      · exact ih nd.2 hk
theorem val_none {ks : List KEnt} {st : List Bool} (h : ¬ st ∈ (ks.map (·.2)).map (·.1)) : valV (kvsOf ks) (.inr (sstr st)) = none := by
  unfold valV kvsOf
  have : (ks.map fun k => ((.inr (sstr k.2.1) : Key), V.ref k.1)).find? (fun kv => decide (kv.1 = .inr (sstr st))) = none := by
    rw [List.find?_eq_none]
    intro kv hkv
    obtain ⟨k, hk, rfl⟩ := List.mem_map.mp hkv
    intro z
    have z' : (.inr (sstr k.2.1) : Key) = .inr (sstr st) := of_decide_eq_true z
    injection z' with z'
    exact h (List.mem_map.mpr ⟨k.2, List.mem_map.mpr ⟨k, hk, rfl⟩, sstr_inj z'⟩)
  rw [this]
  rfl
theorem kvs_len (ks : List KEnt) : (kvsOf ks).length = ks.length := List.length_map ..
theorem ascD_len {rs : List (List Int)} {i : Nat} {p : List Int} {D : Int} (A : AscD rs i p D) : ∀ (m : Nat) (x : List Int), rs[m]? = some x → x.length ≤ m := by
  intro m
  induction m using Nat.strongRecOn with
  | _ m ih =>
    intro x hx
    have key : ∀ (j : Nat) (q : List Int) (d : Int), rs[j]? = some q → x = q ++ [d] → x.length ≤ m := fun j q d hj e => by
      have el : x.length = q.length + 1 := by rw [e, List.length_append]; rfl
      obtain ⟨l1, e1⟩ := List.getElem?_eq_some_iff.mp hx
      obtain ⟨l2, e2⟩ := List.getElem?_eq_some_iff.mp hj
      rcases Nat.lt_trichotomy j m with h | h | h
      · have := ih j h q hj
        omega
      · subst h
        rw [hx] at hj
        cases hj
        omega
      · have := List.pairwise_iff_getElem.mp A.pw m j l1 l2 h
        rw [e1, e2] at this
        have := this.2
        omega
    rcases A.par x (List.mem_of_getElem? hx) with rfl | ⟨j, q, d, _, hj, e⟩ | ⟨d, _, e⟩
    · exact Nat.zero_le _
    · exact key j q d hj e
    · exact key i p d A.at' e
structure spRows (C : Addr) (vs : List V) (H : Hp) (Q : VK) (_ : XK) : Prop where
  h : ∃ (c : Addr) (bs : List Bar) (st : List Bool), vs = [.ref c, .str (sstr st)] ∧ CabOk C H c st.length bs ∧
    ∀ (a : Addr) (ks : List KEnt) (H' : Hp), H a = none → Same H H' → H' a = some (.dK (kvsOf ks)) → RowsEl H' ks → BI bs st ks.length (ks.map (·.2)) → Q (.ref a) H'
structure spFirstRow (C : Addr) (vs : List V) (H : Hp) (Q : VK) (_ : XK) : Prop where
  h : ∃ (c : Addr) (bs : List Bar) (st : List Bool) (cs : List Nat), vs = [.ref c, .str (sstr st), .str (pstr cs)] ∧ CabOk C H c st.length bs ∧ st.length = cs.length ∧
    ∀ (ks : List KEnt) (H' : Hp), Same H H' → RowsEl H' ks → BI bs st ks.length (ks.map (·.2)) → Q (match ks.find? (fun k => fitB k.2.1 cs) with | some k => .ref k.1 | none => .non) H'
section
variable {P : Program} {w : World} {K : PySem.W.Frag} {mg : Str → Option Value} {base : Heap}
abbrev nRf : List Str := ["cabinet", "standing", "rows", "queue", "done", "place", "drawer", "beyond"]
theorem scRf : FnScope nRf ["cabinet", "standing"] (defScope s_rows_from) := ⟨rfl, rfl, rfl, by decide +kernel, rfl, by decide +kernel, by decide +kernel⟩
theorem ok_rowsFrom {f f1 f2 C : Addr} {fd fd1 fd2 : FuncData} (F : Fun K "rows_from" "rows_from" s_rows_from f fd) (T : Bt mg)
    (G1 : FnOk P w K mg base CX0 8 f1 fd1 ["cabinet", "standing"] (spFreeDrawers C)) (g1 : mg "free_drawers" = some (.ref f1)) (k1 : PySem.W.keepIn K (.ref f1) = true) (b1 : Binds K fd1 ["cabinet", "standing"] [])
    (G2 : FnOk P w K mg base CX0 1 f2 fd2 ["standing", "drawer"] spMoved) (g2 : mg "moved" = some (.ref f2)) (k2 : PySem.W.keepIn K (.ref f2) = true) (b2 : Binds K fd2 ["standing", "drawer"] []) : FnOk P w K mg base CX0 10 f fd ["cabinet", "standing"] (spRows C) := by
  refine F.ok scRf (fun vs H Q E h => ?_) (fun cdv A outer s H vs Q E hr h => ?_)
  · obtain ⟨c, bs, st, rfl, _⟩ := h.h
    rfl
  · obtain ⟨c, bs, st, rfl, B, k⟩ := h.h
    have hu := hu_of hr
    obtain ⟨_, _, n7⟩ := B.cab
    have h7 : st.length ≤ 7 := by omega
    refine ⟨_, pss_cons (ps_set (i := 2) scRf.nd rfl (Or.inl rfl) (pe_disp (pps_cons (pv 1) (pe_tup pa_nil) pps_nil) (by rfl) (by rfl) (fun z => by cases z) (by decide)))
      (pss_cons (ps_set (i := 3) scRf.nd rfl (Or.inl rfl) (pe_lst (pa_cons (pv 1) pa_nil)))
      (pss_cons (ps_set (i := 4) scRf.nd rfl (Or.inl rfl) pe_int)
      (pss_cons (ps_while PassesOwn.never (pt_cmpR op_lt (pv 4) (pe_callB call_len_seq (by rfl) T.len PySem.boot_len (pa_cons (pv 3) pa_nil)) (nomark _))
        (pss_cons (ps_set (i := 5) scRf.nd rfl (Or.inl rfl) (pe_ix ix_list (pv 3) (pv 4) (fun _ _ => rfl)))
        (pss_cons (ps_aug (i := 4) scRf.nd rfl (Or.inl rfl) pe_int in_add)
        (pss_one (ps_for PassesOwn.never rfl (pi_list (pe_call G1 (hr.mono (by decide)) rfl g1 k1 b1 .nil pass0 (pa_cons (pv 0) (pa_cons (pv 5) pa_nil)))) (pg_name (i := 6) scRf.nd rfl (Or.inl rfl))
          (pss_cons (ps_set (i := 7) scRf.nd rfl (Or.inl rfl) (pe_call G2 (hr.mono (by decide)) rfl g2 k2 b2 .nil pass0 (pa_cons (pv 5) (pa_cons (pv 6) pa_nil))))
          (pss_one (ps_if (pt_cmp (pc_dnotin hu (pv 7) (pv 2)))
            (pss_cons (ps_dput hu (pv 2) (pv 7) (pe_tup (StX.pa_star (pe_dget hu (pv 2) (pv 5) (fun _ _ => rfl)) (pa_cons (pv 6) pa_nil))) rfl)
            (pss_one (ps_expr (pe_bm PySem.F.plainAttrs_list PySem.F.slot_list_append PySem.F.type_list_append mt_append (pv 3) (pa_cons (pv 7) pa_nil))))) pss_nil))))))))
      (pss_one (ps_ret (pv 2)))))), ?_⟩
    intro a ha
    refine ⟨_, rfl, (by show 0 ≤ sizeLine; decide), fun e0 he0 => ?_⟩
    have hae : a ≠ e0 := ne_of_none upd_same he0
    refine ⟨by rw [upd_ne hae]; exact upd_same, [(.inr (sstr st), .ref e0)], rfl, by show 1 ≤ 15; decide, ?_⟩
    refine ⟨_, rfl, (by show 1 ≤ sizeLine; decide), fun q hq => ?_⟩
    have hqa : q ≠ a := fun z => by rw [z, upd_same] at hq; cases hq
    have he0' : H e0 = none := by rw [upd_ne hae.symm] at he0; exact he0
    have hq0 : q ≠ e0 := fun z => by rw [z, upd_ne hae.symm, upd_same] at hq; cases hq
    have hqH : H q = none := by rw [upd_ne hqa, upd_ne hq0, upd_ne hqa] at hq; exact hq
    have S0 : Same H (upd (upd (upd (upd H a (.dK [])) e0 (.tup [])) a (.dK (mergeK [] [(.inr (sstr st), .ref e0)]))) q (.lst [.str (sstr st)])) := fun b o eb => by
      rw [upd_ne (ne_of_none eb hqH), upd_ne (ne_of_none eb ha), upd_ne (ne_of_none eb he0'), upd_ne (ne_of_none eb ha)]
      exact eb
    refine while_by (fun σ H' => ∃ (i : Nat) (ks : List KEnt) (u5 u6 u7 : Option V), σ = [some (.ref c), some (.str (sstr st)), some (.ref a), some (.ref q), some (.int i), u5, u6, u7] ∧ i ≤ ks.length ∧ BI bs st i (ks.map (·.2)) ∧ H' a = some (.dK (kvsOf ks)) ∧ RowsEl H' ks ∧
        H' q = some (.lst (ks.map fun k => .str (sstr k.2.1))) ∧ Same H H')
      (fun (σ : L2.St) (_ : Hp) => 128 - (match σ[4]? with | some (some (V.int i)) => i.toNat | _ => 0)) ?_ ?_ ?_
    · refine ⟨0, [(e0, (st, []))], _, _, _, rfl, Nat.zero_le _, BI.begin, ?_, ⟨fun k hk => ?_⟩, upd_same, S0⟩
      · rw [upd_ne hqa.symm, upd_same]
        rfl
      · rw [List.mem_singleton.mp hk]
        show (upd (upd (upd (upd H a (.dK [])) e0 (.tup [])) a (.dK (mergeK [] [(.inr (sstr st), .ref e0)]))) q (.lst [.str (sstr st)])) e0 = some (.tup [])
        rw [upd_ne hq0.symm, upd_ne hae.symm, upd_same]
    · rintro σ H1 ⟨i, ks, u5, u6, u7, rfl, hi, I, hA, hE, hQ, s1⟩
      have hfew : ks.length ≤ 128 := by
        have := led_few I.nd I.led h7
        rw [List.length_map] at this
        exact this
      refine ⟨_, rfl, _, rfl, q, _, rfl, .inl (SqL.of hQ), _, _, rfl, rfl, _, rfl, ?_⟩
      rw [List.length_map]
      refine ite2 (fun z => ?_) (fun z => ?_)
      · have hlt : i < ks.length := by have := of_decide_eq_true z; omega
        obtain ⟨kp, hkp⟩ : ∃ kp, ks[i]? = some kp := ⟨_, List.getElem?_eq_getElem hlt⟩
        have hpe : (ks.map (·.2))[i]? = some kp.2 := by rw [List.getElem?_map, hkp]; rfl
        have hpl : kp.2.1.length = st.length := (I.led kp.2 (List.mem_of_getElem? hpe)).2.2
        refine ⟨_, rfl, _, rfl, q, _, _, .str (sstr kp.2.1), rfl, rfl, SqL.of hQ, atI_nat (by rw [List.getElem?_map, hkp]; rfl), ?_⟩
        refine ⟨_, rfl, _, _, rfl, rfl, ?_⟩
        refine ⟨_, rfl, _, rfl, ⟨⟨c, bs, kp.2.1, rfl, by rw [hpl]; exact B.same s1, fun fq H2 hfq s2 h2 => ?_⟩⟩⟩
        have hfa : fq ≠ a := fun z => by rw [z, hA] at hfq; cases hfq
        have hfqq : fq ≠ q := fun z => by rw [z, hQ] at hfq; cases hfq
        refine ⟨fq, rfl, ⟨_, SqL.of h2⟩, ?_⟩
        refine for_list (K := K) (a := fq) (xs := (freeL bs kp.2.1).map V.int) (fun t σ H' => ∃ (D : Int) (ks' : List KEnt) (u6 u7 : Option V), σ = [some (.ref c), some (.str (sstr st)), some (.ref a), some (.ref q), some (.int ((i : Int) + 1)), some (.str (sstr kp.2.1)), u6, u7] ∧ BD bs st i kp.2 t D (ks'.map (·.2)) ∧
            (∃ more, ks' = ks ++ more) ∧ H' a = some (.dK (kvsOf ks')) ∧ RowsEl H' ks' ∧ H' q = some (.lst (ks'.map fun k => .str (sstr k.2.1))) ∧ Same H H' ∧ H' fq = some (.lst ((freeL bs kp.2.1).map V.int)))
          ⟨0, ks, _, _, rfl, I.during hpe, ⟨[], by rw [List.append_nil]⟩, s2 _ _ hA, hE.same s2, s2 _ _ hQ, s1.trans s2, h2⟩ ?_ ?_ ?_
        · rintro t σ H' _ ⟨D, ks', u6, u7, _, _, _, _, _, _, _, h⟩
          exact SqL.of h
        · rintro t x σ H3 hx ⟨D, ks', u6, u7, rfl, I', ⟨more, hmore⟩, hA', hE', hQ', s3, hF⟩
          rw [List.getElem?_map] at hx
          cases hd : (freeL bs kp.2.1)[t]? with
          | none => rw [hd] at hx; cases hx
          | some d =>
            rw [hd] at hx
            cases hx
            obtain ⟨dm, dD, d0, d6⟩ := I'.free hd h7
            have d1 := (free_in dm).2
            have hfew' : ks'.length ≤ 128 := by
              have := led_few I'.nd I'.led h7
              rw [List.length_map] at this
              exact this
            refine ⟨_, rfl, _, rfl, ⟨⟨kp.2.1, d, rfl, by omega, d0, d1, fun H4 s4 => ?_⟩⟩⟩
            have hA4 := s4 _ _ hA'
            have hQ4 := s4 _ _ hQ'
            have hE4 := hE'.same s4
            have hF4 := s4 _ _ hF
            have s34 := s3.trans s4
            refine ⟨_, rfl, _, rfl, a, _, rfl, DGet.k (k := Sum.inr (sstr (flip kp.2.1 d))) hA4, _, rfl, ?_⟩
            by_cases hin : flip kp.2.1 d ∈ (ks'.map (·.2)).map (·.1)
            · obtain ⟨e, he, h1⟩ := List.mem_map.mp hin
              obtain ⟨k', hk', rfl⟩ := List.mem_map.mp he
              have hv := val_some I'.nd hk'
              rw [h1] at hv
              rw [hv]
              exact iteF ⟨_, ks', _, _, rfl, I'.old hd h7 hin, ⟨more, hmore⟩, hA4, hE4, hQ4, s34, hF4⟩
            · have hv := val_none hin
              rw [hv]
              refine iteT ?_
              have hkpm : kp ∈ ks' := by rw [hmore]; exact List.mem_append_left _ (List.mem_of_getElem? hkp)
              refine ⟨_, rfl, _, rfl, a, .ref kp.1, rfl, by rw [← val_some I'.nd hkpm]; exact DGet.k (k := Sum.inr (sstr kp.2.1)) hA4, ?_⟩
              refine ⟨kp.1, _, rfl, .inl (SqT.of' (hE4.el kp hkpm)), _, rfl, ?_, fun tn htn => ?_⟩
              · have hl := ascD_len I'.asc i kp.2.2 (by rw [List.getElem?_map, I'.at']; rfl)
                show (kp.2.2.map V.int ++ [V.int d]).length ≤ sizeLine
                rw [List.length_append, List.length_map]
                exact Nat.le_of_lt (small1000 (by show kp.2.2.length + 1 ≤ 1000; omega))
              · have hta : tn ≠ a := fun z => by rw [z, hA4] at htn; cases htn
                have htq : tn ≠ q := fun z => by rw [z, hQ4] at htn; cases htn
                have htf : tn ≠ fq := fun z => by rw [z, hF4] at htn; cases htn
                have hsm : (kvsOf ks').length < sizeLine := by rw [kvs_len]; exact small1000 (by omega)
                refine ⟨_, rfl, _, rfl, a, _, rfl, DPut.k (k := Sum.inr (sstr (flip kp.2.1 d))) (by rw [upd_ne hta.symm]; exact hA4) hsm, ?_⟩
                refine ⟨_, rfl, .inl ⟨rfl, _, SqL.of (by rw [upd_ne hqa, upd_ne htq.symm]; exact hQ4)⟩, _, rfl, q, _, _, rfl, rfl, by rw [upd_ne hqa, upd_ne htq.symm]; exact hQ4, by rw [List.length_map]; exact small1000 (by omega), ?_⟩
                have hat : tn ≠ a := hta
                refine ⟨d + 1, ks' ++ [(tn, (flip kp.2.1 d, kp.2.2 ++ [d]))], _, _, rfl, ?_, ⟨more ++ [(tn, (flip kp.2.1 d, kp.2.2 ++ [d]))], by rw [hmore, List.append_assoc]⟩, ?_, ⟨fun k' hk' => ?_⟩, ?_, fun b o eb => ?_, ?_⟩
                · rw [List.map_append]
                  exact I'.new hd h7 hin
                · rw [upd_ne hqa.symm, upd_same, putK_new _ hv]
                  unfold kvsOf
                  rw [List.map_append]
                  rfl
                · have hk1 : k'.1 ≠ a ∧ k'.1 ≠ q ∧ (upd H4 tn (.tup (kp.2.2.map V.int ++ [V.int d]))) k'.1 = some (.tup (k'.2.2.map V.int)) := by
                    rcases List.mem_append.mp hk' with hk' | hk'
                    · have := hE4.el k' hk'
                      exact ⟨ne_of this hA4 (by intro z; cases z), ne_of this hQ4 (by intro z; cases z), by rw [upd_ne (ne_of_none this htn)]; exact this⟩
                    · rw [List.mem_singleton.mp hk']
                      refine ⟨hta, htq, ?_⟩
                      show (upd H4 tn (.tup (kp.2.2.map V.int ++ [V.int d]))) tn = some (.tup ((kp.2.2 ++ [d]).map V.int))
                      rw [upd_same, List.map_append]
                      rfl
                  rw [upd_ne hk1.2.1, upd_ne hk1.1]
                  exact hk1.2.2
                · rw [upd_same, List.map_append]
                  rfl
                · rw [upd_ne (ne_of_none eb hqH), upd_ne (ne_of_none eb ha), upd_ne (ne_of_none (s34 _ _ eb) htn)]
                  exact s34 _ _ eb
                · rw [upd_ne hfqq, upd_ne hfa, upd_ne htf.symm]
                  exact hF4
        · rintro σ H3 ⟨D, ks', u6, u7, rfl, I', ⟨more, hmore⟩, hA', hE', hQ', s3, hF⟩
          rw [List.length_map] at I'
          have I2 := I'.done
          refine ⟨⟨i + 1, ks', _, _, _, rfl, by rw [hmore, List.length_append]; omega, I2, hA', hE', hQ', s3⟩, ?_⟩
          show 128 - ((i : Int) + 1).toNat < 128 - (i : Int).toNat
          omega
      · have hge : ¬ i < ks.length := fun z' => z (decide_eq_true (by omega))
        obtain rfl : i = ks.length := by omega
        exact ⟨_, rfl, k a ks H1 ha s1 hA hE I⟩
    · rintro σ H1 Q1 Q2 m ⟨x, e1, y, e2, p, ys, e3, hs, j, l, e4, e5, c', e6, hq⟩
      exact ⟨x, e1, y, e2, p, ys, e3, hs, j, l, e4, e5, c', e6, m _ _ hq⟩
abbrev nFr : List Str := ["cabinet", "standing", "pattern", "end", "row"]
theorem scFr : FnScope nFr ["cabinet", "standing", "pattern"] (defScope s_first_row_to) := ⟨rfl, rfl, rfl, by decide +kernel, rfl, by decide +kernel, by decide +kernel⟩
theorem ok_firstRow {f f1 f2 C : Addr} {fd fd1 fd2 : FuncData} (F : Fun K "first_row_to" "first_row_to" s_first_row_to f fd)
    (G1 : FnOk P w K mg base CX0 10 f1 fd1 ["cabinet", "standing"] (spRows C)) (g1 : mg "rows_from" = some (.ref f1)) (k1 : PySem.W.keepIn K (.ref f1) = true) (b1 : Binds K fd1 ["cabinet", "standing"] [])
    (G2 : FnOk P w K mg base CX0 1 f2 fd2 ["standing", "pattern"] spFits) (g2 : mg "fits" = some (.ref f2)) (k2 : PySem.W.keepIn K (.ref f2) = true) (b2 : Binds K fd2 ["standing", "pattern"] []) : FnOk P w K mg base CX0 12 f fd ["cabinet", "standing", "pattern"] (spFirstRow C) := by
  refine F.ok scFr (fun vs H Q E h => ?_) (fun cdv A outer s H vs Q E hr h => ?_)
  · obtain ⟨c, bs, st, cs, rfl, _⟩ := h.h
    rfl
  · obtain ⟨c, bs, st, cs, rfl, B, hl, k⟩ := h.h
    obtain ⟨_, _, n7⟩ := B.cab
    refine ⟨_, pss_cons (ps_for PassesOwn.never rfl (pi_items (pe_frz (pe_call G1 (hr.mono (by decide)) rfl g1 k1 b1 .nil pass0 (pa_cons (pv 0) (pa_cons (pv 1) pa_nil))))) (pg_tup (by rfl) (pgs_cons (pg_name (i := 3) scFr.nd rfl (Or.inl rfl)) (pgs_cons (pg_name (i := 4) scFr.nd rfl (Or.inl rfl)) pgs_nil)))
        (pss_one (ps_if (pt_val (pe_call G2 (hr.mono (by decide)) rfl g2 k2 b2 .nil pass0 (pa_cons (pv 3) (pa_cons (pv 2) pa_nil)))) (pss_one (ps_ret (pv 4))) pss_nil)))
      (pss_one (ps_ret pe_non)), ?_⟩
    refine ⟨_, rfl, _, rfl, ⟨⟨c, bs, st, rfl, B, fun a ks H1 ha s1 hA hE I => ?_⟩⟩⟩
    refine ⟨a, _, rfl, hA, trivial, fun od => ?_⟩
    have s2 : Same H (upd H1 a (.frz od (.dK (kvsOf ks)))) := fun b o eb => by
      rw [upd_ne (ne_of_none eb ha)]
      exact s1 _ _ eb
    have hE2 : RowsEl (upd H1 a (.frz od (.dK (kvsOf ks)))) ks := ⟨fun k hk => by
      have := hE.el k hk
      rw [upd_ne (ne_of this hA (by intro z; cases z))]
      exact this⟩
    have hA2 : (upd H1 a (.frz od (.dK (kvsOf ks)))) a = some (.frz od (.dK (kvsOf ks))) := upd_same
    generalize (upd H1 a (.frz od (.dK (kvsOf ks)))) = H2 at s2 hE2 hA2 ⊢
    refine ⟨a, od, _, rfl, hA2, ?_⟩
    refine for_it walk_items (fun i σ H' => ∃ u3 u4 : Option V, σ = [some (.ref c), some (.str (sstr st)), some (.str (pstr cs)), u3, u4] ∧ Same H2 H' ∧ ∀ k ∈ ks.take i, fitB k.2.1 cs = false) ⟨_, _, rfl, Same.refl _, fun k hk => by cases hk⟩ (fun i σ H' _ ⟨_, _, _, s3, _⟩ => s3 _ _ hA2) ?_ ?_
    · rintro i x σ H3 H4 hi ⟨u3, u4, rfl, s3, hno⟩ ⟨T, x1, x2, rfl, hT, rfl, e1, e2⟩
      have e1 : Option.map (fun kv => kV kv.1) (kvsOf ks)[i]? = some x1 := e1
      have e2 : Option.map Prod.snd (kvsOf ks)[i]? = some x2 := e2
      cases ek : ks[i]? with
      | none =>
        unfold kvsOf at e1
        rw [List.getElem?_map, ek] at e1
        cases e1
      | some kk =>
        unfold kvsOf at e1 e2
        rw [List.getElem?_map, ek] at e1 e2
        have e1' : V.str (sstr kk.2.1) = x1 := Option.some.inj e1
        have e2' : V.ref kk.1 = x2 := Option.some.inj e2
        subst e1' e2'
        have hm : kk ∈ ks := List.mem_of_getElem? ek
        have hkl : kk.2.1.length = st.length := (I.led kk.2 (List.mem_map.mpr ⟨kk, hm, rfl⟩)).2.2
        have s4 := s3.trans (same_upd (o := .tup [.str (sstr kk.2.1), .ref kk.1]) hT)
        refine ⟨T, _, rfl, SqT.of' upd_same, rfl, _, _, rfl, _, _, rfl, rfl, ?_⟩
        refine ⟨_, rfl, _, rfl, ⟨⟨kk.2.1, cs, rfl, by omega, by omega, fun H5 s5 => ⟨_, rfl, ?_⟩⟩⟩⟩
        have s25 := s4.trans s5
        cases ef : fitB kk.2.1 cs with
        | true =>
          refine iteT ⟨_, rfl, ?_⟩
          have := k ks H5 (s2.trans s25) (hE2.same s25) I
          have hf : ks.find? (fun k => fitB k.2.1 cs) = some kk := by
            obtain ⟨hil, e⟩ := List.getElem?_eq_some_iff.mp ek
            have : ks = ks.take i ++ kk :: ks.drop (i + 1) := by
              rw [← e, ← List.drop_eq_getElem_cons hil, List.take_append_drop]
            rw [this, List.find?_append, List.find?_eq_none.mpr (fun k hk => by rw [hno k hk]; exact Bool.false_ne_true), Option.none_or, List.find?_cons, ef]
          rw [hf] at this
          exact this
        | false =>
          refine iteF ⟨_, _, rfl, s25, fun k hk => ?_⟩
          rcases mem_take_succ ek hk with hk | rfl
          · exact hno k hk
          · exact ef
    · rintro σ H3 ⟨u3, u4, rfl, s3, hno⟩
      rw [kvs_len, List.take_length] at hno
      have := k ks H3 (s2.trans s3) (hE2.same s3) I
      rw [List.find?_eq_none.mpr (fun k hk => by rw [hno k hk]; exact Bool.false_ne_true)] at this
      exact this
structure spRowTo (C : Addr) (vs : List V) (H : Hp) (Q : VK) (_ : XK) : Prop where
  h : ∃ (c : Addr) (bs : List Bar) (cs : List Nat), vs = [.ref c, .str (pstr cs)] ∧ CabOk C H c cs.length bs ∧ PatOk cs ∧
    ∀ (ks : List KEnt) (H' : Hp), Same H H' → RowsEl H' ks → BI bs (shutS cs.length) ks.length (ks.map (·.2)) → Q (match ks.find? (fun k => fitB k.2.1 cs) with | some k => .ref k.1 | none => .non) H'
theorem scRt : FnScope ["cabinet", "pattern"] ["cabinet", "pattern"] (defScope s_row_to) := ⟨rfl, rfl, rfl, by decide +kernel, rfl, by decide +kernel, by decide +kernel⟩
theorem ok_rowTo {f f1 f2 f3 f4 C : Addr} {fd fd1 fd2 fd3 fd4 : FuncData} (F : Fun K "row_to" "row_to" s_row_to f fd) (CP : CabP P w K mg base C)
    (G1 : FnOk P w K mg base CX0 1 f1 fd1 ["cabinet"] (spCkCab C)) (g1 : mg "check_cabinet" = some (.ref f1)) (k1 : PySem.W.keepIn K (.ref f1) = true) (b1 : Binds K fd1 ["cabinet"] [])
    (G2 : FnOk P w K mg base CX0 3 f2 fd2 ["cabinet", "pattern"] (spCkPat C)) (g2 : mg "check_pattern" = some (.ref f2)) (k2 : PySem.W.keepIn K (.ref f2) = true) (b2 : Binds K fd2 ["cabinet", "pattern"] [])
    (G3 : FnOk P w K mg base CX0 12 f3 fd3 ["cabinet", "standing", "pattern"] (spFirstRow C)) (g3 : mg "first_row_to" = some (.ref f3)) (k3 : PySem.W.keepIn K (.ref f3) = true) (b3 : Binds K fd3 ["cabinet", "standing", "pattern"] [])
    (G4 : FnOk P w K mg base CX0 1 f4 fd4 ["drawers"] spFirst) (g4 : mg "first_standing" = some (.ref f4)) (k4 : PySem.W.keepIn K (.ref f4) = true) (b4 : Binds K fd4 ["drawers"] []) : FnOk P w K mg base CX0 14 f fd ["cabinet", "pattern"] (spRowTo C) := by
  refine F.ok scRt (fun vs H Q E h => ?_) (fun cdv A outer s H vs Q E hr h => ?_)
  · obtain ⟨c, bs, cs, rfl, _⟩ := h.h
    rfl
  · obtain ⟨c, bs, cs, rfl, B, hp, k⟩ := h.h
    obtain ⟨t, hc, n7⟩ := B.cab
    have n1 : 1 ≤ cs.length := by
      obtain ⟨_, _, _, _, _, _, q, _⟩ := B.h
      omega
    obtain ⟨pD, gD, fdD, hpD, GD, bD⟩ := CP.d
    refine ⟨_, pss_cons (ps_expr (pe_call G1 (hr.mono (by decide)) rfl g1 k1 b1 .nil pass0 (pa_cons (pv 0) pa_nil))) (pss_cons (ps_expr (pe_call G2 (hr.mono (by decide)) rfl g2 k2 b2 .nil pass0 (pa_cons (pv 0) (pa_cons (pv 1) pa_nil))))
      (pss_one (ps_ret (pe_call G3 (hr.mono (by decide)) rfl g3 k3 b3 .nil pass0 (pa_cons (pv 0) (pa_cons (pe_call G4 (hr.mono (by decide)) rfl g4 k4 b4 .nil pass0 (pa_cons (pe_prop (pv 0) CP.cl hpD GD (hr.mono (by decide)) bD .nil pass0 rfl) pa_nil)) (pa_cons (pv 1) pa_nil))))))), ?_⟩
    refine ⟨_, rfl, ⟨⟨c, _, t, rfl, hc, ?_⟩⟩⟩
    refine ⟨_, rfl, _, rfl, ⟨⟨c, cs, t, rfl, hc, by omega, hp, fun H1 s1 => ?_⟩⟩⟩
    obtain ⟨dx, hc0⟩ := hc
    have hc1 := s1 _ _ hc0
    have hshut : (shutS cs.length).length = cs.length := List.length_replicate
    refine ⟨_, rfl, _, rfl, c, dx, _, rfl, hc1, ⟨⟨c, dx, _, t, rfl, hc1, ⟨⟨cs.length, rfl, n1, by omega, ?_⟩⟩⟩⟩⟩
    refine ⟨_, rfl, ⟨⟨c, bs, shutS cs.length, cs, rfl, by rw [hshut]; exact B.same s1, hshut, fun ks H2 s2 hE I => k ks H2 (s1.trans s2) hE I⟩⟩⟩
structure spFirstRows (C : Addr) (vs : List V) (H : Hp) (Q : VK) (_ : XK) : Prop where
  h : ∃ (c : Addr) (bs : List Bar) (n : Nat), vs = [.ref c] ∧ CabOk C H c n bs ∧ ∀ (a : Addr) (ks : List KEnt) (H' : Hp), H a = none → Same H H' → H' a = some (.dK (kvsOf ks)) → RowsEl H' ks → BI bs (shutS n) ks.length (ks.map (·.2)) → Q (.ref a) H'
theorem scFirstRows : FnScope ["cabinet"] ["cabinet"] (defScope s_first_rows) := ⟨rfl, rfl, rfl, by decide +kernel, rfl, by decide +kernel, by decide +kernel⟩
theorem ok_firstRows {f f2 f3 C : Addr} {fd fd2 fd3 : FuncData} (F : Fun K "first_rows" "first_rows" s_first_rows f fd) (CP : CabP P w K mg base C)
    (G2 : FnOk P w K mg base CX0 10 f2 fd2 ["cabinet", "standing"] (spRows C)) (g2 : mg "rows_from" = some (.ref f2)) (k2 : PySem.W.keepIn K (.ref f2) = true) (b2 : Binds K fd2 ["cabinet", "standing"] [])
    (G3 : FnOk P w K mg base CX0 1 f3 fd3 ["drawers"] spFirst) (g3 : mg "first_standing" = some (.ref f3)) (k3 : PySem.W.keepIn K (.ref f3) = true) (b3 : Binds K fd3 ["drawers"] []) : FnOk P w K mg base CX0 12 f fd ["cabinet"] (spFirstRows C) := by
  refine F.ok scFirstRows (fun vs H Q E h => ?_) (fun cdv A outer s H vs Q E hr h => ?_)
  · obtain ⟨c, bs, n, rfl, _⟩ := h.h
    rfl
  · obtain ⟨c, bs, n, rfl, B, k⟩ := h.h
    obtain ⟨t, hc, n7⟩ := B.cab
    have n1 : 1 ≤ n := by
      obtain ⟨_, _, _, _, _, _, q, _⟩ := B.h
      omega
    obtain ⟨pD, gD, fdD, hpD, GD, bD⟩ := CP.d
    refine ⟨_, pss_one (ps_ret (pe_call G2 (hr.mono (by decide)) rfl g2 k2 b2 .nil pass0 (pa_cons (pv 0) (pa_cons (pe_call G3 (hr.mono (by decide)) rfl g3 k3 b3 .nil pass0 (pa_cons (pe_prop (pv 0) CP.cl hpD GD (hr.mono (by decide)) bD .nil pass0 rfl) pa_nil)) pa_nil)))), ?_⟩
    obtain ⟨dx, hc0⟩ := hc
    have hshut : (shutS n).length = n := List.length_replicate
    refine ⟨_, rfl, _, rfl, c, dx, _, rfl, hc0, ⟨⟨c, dx, _, t, rfl, hc0, ⟨⟨n, rfl, n1, by omega, ?_⟩⟩⟩⟩⟩
    exact ⟨⟨c, bs, shutS n, rfl, by rw [hshut]; exact B, fun a ks H1 ha s1 hA hE I => k a ks H1 ha s1 hA hE I⟩⟩
end
end DL

set_option Elab.async false
set_option maxRecDepth 100000
namespace DL
open PySem L2 HT TL
/-! ### all rows, one pull longer at each turn; the first one that leads to a standing -/
theorem nd_eq {es : List Ent} (nd : (es.map (·.1)).Nodup) : ∀ {a b : Ent}, a ∈ es → b ∈ es → a.1 = b.1 → a = b := by
  induction es with
  | nil => intro a b ha; cases ha
  | cons x es ih =>
    intro a b ha hb e
    rw [List.map_cons, List.nodup_cons] at nd
    rcases List.mem_cons.mp ha with qa | ha'
    · rcases List.mem_cons.mp hb with qb | hb'
      · rw [qa, qb]
      · have hm : x.1 ∈ es.map (·.1) := List.mem_map.mpr ⟨b, hb', by rw [← e, qa]⟩
        exact absurd hm nd.1
    · rcases List.mem_cons.mp hb with qb | hb'
      · have hm : x.1 ∈ es.map (·.1) := List.mem_map.mpr ⟨a, ha', by rw [e, qb]⟩
        exact absurd hm nd.1
      · exact ih nd.2 ha' hb' e
structure LI (bs : List Bar) (s0 : List Bool) (i : Nat) (cat fst : List Ent) : Prop where
  asc : Asc (cat.map (·.2)) i
  led : ∀ e ∈ cat, Led bs s0 e
  ex : ∀ (j : Nat) (p : Ent), j < i → cat[j]? = some p → ∀ d ∈ freeL bs p.1, (flip p.1 d, p.2 ++ [d]) ∈ cat
  root : (s0, []) ∈ cat
  fnd : (fst.map (·.1)).Nodup
  fin : ∀ e ∈ fst, e ∈ cat
  fco : ∀ x ∈ cat, ∃ e ∈ fst, e.1 = x.1 ∧ rcode e.2 ≤ rcode x.2
structure LD (bs : List Bar) (s0 : List Bool) (i : Nat) (p : Ent) (t : Nat) (D : Int) (cat fst : List Ent) : Prop where
  asc : AscD (cat.map (·.2)) i p.2 D
  led : ∀ e ∈ cat, Led bs s0 e
  at' : cat[i]? = some p
  ex : ∀ (j : Nat) (p : Ent), j < i → cat[j]? = some p → ∀ d ∈ freeL bs p.1, (flip p.1 d, p.2 ++ [d]) ∈ cat
  exd : ∀ d ∈ (freeL bs p.1).take t, (flip p.1 d, p.2 ++ [d]) ∈ cat
  dle : ∀ d ∈ (freeL bs p.1).drop t, D ≤ d
  root : (s0, []) ∈ cat
  fnd : (fst.map (·.1)).Nodup
  fin : ∀ e ∈ fst, e ∈ cat
  fco : ∀ x ∈ cat, ∃ e ∈ fst, e.1 = x.1 ∧ rcode e.2 ≤ rcode x.2
theorem LI.begin {bs : List Bar} {s0 : List Bool} : LI bs s0 0 [(s0, [])] [(s0, [])] := by
  have B := BI.begin (bs := bs) (s0 := s0)
  exact ⟨B.asc, B.led, fun j p hj => by omega, List.mem_singleton.mpr rfl, B.nd, fun e he => he, fun x hx => ⟨x, hx, rfl, Int.le_refl _⟩⟩
theorem LI.during {bs : List Bar} {s0 : List Bool} {i : Nat} {cat fst : List Ent} {p : Ent} (B : LI bs s0 i cat fst) (h : cat[i]? = some p) : LD bs s0 i p 0 0 cat fst :=
  ⟨B.asc.during (by rw [List.getElem?_map, h]; rfl), B.led, h, B.ex, fun d hd => (by cases hd), fun d hd => (free_in (List.mem_of_mem_drop hd)).1, B.root, B.fnd, B.fin, B.fco⟩
theorem LD.done {bs : List Bar} {s0 : List Bool} {i : Nat} {p : Ent} {D : Int} {cat fst : List Ent} (B : LD bs s0 i p (freeL bs p.1).length D cat fst) : LI bs s0 (i + 1) cat fst := by
  refine ⟨B.asc.done, B.led, fun j q hj hq => ?_, B.root, B.fnd, B.fin, B.fco⟩
  by_cases e : j = i
  · subst e
    rw [B.at'] at hq
    cases hq
    have := B.exd
    rw [List.take_length] at this
    exact this
  · exact B.ex j q (by omega) hq
theorem LD.free {bs : List Bar} {s0 : List Bool} {i : Nat} {p : Ent} {t : Nat} {D : Int} {cat fst : List Ent} (B : LD bs s0 i p t D cat fst) {d : Int} (hd : (freeL bs p.1)[t]? = some d) (h7 : s0.length ≤ 7) :
    d ∈ freeL bs p.1 ∧ D ≤ d ∧ 0 ≤ d ∧ d ≤ 6 := by
  have hm := List.mem_of_getElem? hd
  obtain ⟨d0, d1⟩ := free_in hm
  have := (B.led p (List.mem_of_getElem? B.at')).2.2
  obtain ⟨_, e⟩ := pw_drop (free_pw bs p.1) hd
  exact ⟨hm, B.dle d (by rw [e]; exact List.mem_cons_self), d0, by omega⟩
def addF (fst : List Ent) (e : Ent) : List Ent := if e.1 ∈ fst.map (·.1) then fst else fst ++ [e]
theorem LD.add {bs : List Bar} {s0 : List Bool} {i : Nat} {p : Ent} {t : Nat} {D : Int} {cat fst : List Ent} (B : LD bs s0 i p t D cat fst) {d : Int} (hd : (freeL bs p.1)[t]? = some d) (h7 : s0.length ≤ 7) :
    LD bs s0 i p (t + 1) (d + 1) (cat ++ [(flip p.1 d, p.2 ++ [d])]) (addF fst (flip p.1 d, p.2 ++ [d])) := by
  obtain ⟨hm, hD, d0, d6⟩ := B.free hd h7
  have mono : ∀ {e : Ent}, e ∈ cat → e ∈ cat ++ [(flip p.1 d, p.2 ++ [d])] := fun he => List.mem_append_left _ he
  have last : (flip p.1 d, p.2 ++ [d]) ∈ cat ++ [(flip p.1 d, p.2 ++ [d])] := List.mem_append_right _ (List.mem_singleton.mpr rfl)
  have fsub : ∀ {e : Ent}, e ∈ fst → e ∈ addF fst (flip p.1 d, p.2 ++ [d]) := fun he => by
    unfold addF
    by_cases z : (flip p.1 d, p.2 ++ [d]).1 ∈ fst.map (·.1)
    · rw [if_pos z]; exact he
    · rw [if_neg z]; exact List.mem_append_left _ he
  refine ⟨?_, fun e he => ?_, ?_, fun j q hj hq x hx => ?_, fun x hx => ?_, (pw_drop (free_pw bs p.1) hd).1, mono B.root, ?_, fun e he => ?_, fun x hx => ?_⟩
  · rw [List.map_append]
    exact B.asc.add hD d0 d6
  · rcases List.mem_append.mp he with he | he
    · exact B.led e he
    · rw [List.mem_singleton.mp he]
      exact (B.led p (List.mem_of_getElem? B.at')).step hm h7
  · rw [List.getElem?_append_left (List.getElem?_eq_some_iff.mp B.at').1]
    exact B.at'
  · have hq' : cat[j]? = some q := by
      have := (List.getElem?_eq_some_iff.mp B.at').1
      rw [List.getElem?_append_left (by omega)] at hq
      exact hq
    exact mono (B.ex j q hj hq' x hx)
  · rcases mem_take_succ hd hx with hx | rfl
    · exact mono (B.exd x hx)
    · exact last
  · unfold addF
    by_cases z : (flip p.1 d, p.2 ++ [d]).1 ∈ fst.map (·.1)
    · rw [if_pos z]; exact B.fnd
    · rw [if_neg z, List.map_append, List.nodup_append]
      refine ⟨B.fnd, by simp, fun x hx y hy q => ?_⟩
      have e1 : y = (flip p.1 d, p.2 ++ [d]).1 := List.mem_singleton.mp hy
      rw [← e1, ← q] at z
      exact z hx
  · unfold addF at he
    by_cases z : (flip p.1 d, p.2 ++ [d]).1 ∈ fst.map (·.1)
    · rw [if_pos z] at he; exact mono (B.fin e he)
    · rw [if_neg z] at he
      rcases List.mem_append.mp he with he | he
      · exact mono (B.fin e he)
      · rw [List.mem_singleton.mp he]; exact last
  · rcases List.mem_append.mp hx with hx | hx
    · obtain ⟨e, he, h1⟩ := B.fco x hx
      exact ⟨e, fsub he, h1⟩
    · rw [List.mem_singleton.mp hx]
      by_cases z : (flip p.1 d, p.2 ++ [d]).1 ∈ fst.map (·.1)
      · obtain ⟨e, he, h1⟩ := List.mem_map.mp z
        have := (B.asc.below hD d0 e.2 (List.mem_map.mpr ⟨e, B.fin e he, rfl⟩)).1
        exact ⟨e, fsub he, h1, Int.le_of_lt this⟩
      · refine ⟨_, ?_, rfl, Int.le_refl _⟩
        unfold addF
        rw [if_neg z]
        exact List.mem_append_right _ (List.mem_singleton.mpr rfl)
/-- those from the i-th on have k pulls, none has more -/
structure LV (k i : Nat) (cat : List Ent) : Prop where
  le : ∀ x ∈ cat, x.2.length ≤ k
  eq : ∀ x ∈ cat.drop i, x.2.length = k
theorem LI.all {bs : List Bar} {s0 : List Bool} {i k : Nat} {cat fst : List Ent} (B : LI bs s0 i cat fst) (V : LV k i cat) : ∀ (r : List Int), (∀ d ∈ r, 0 ≤ d ∧ d < s0.length) → r.length ≤ k → ∀ st, runB bs s0 r = some st → (st, r) ∈ cat := by
  intro r
  refine snoc_ind (p := fun (r : List Int) => (∀ d ∈ r, 0 ≤ d ∧ d < s0.length) → r.length ≤ k → ∀ st, runB bs s0 r = some st → (st, r) ∈ cat) (fun _ _ st h => ?_) (fun l d ih hl hk st h => ?_) r
  · cases h
    exact B.root
  · rw [List.length_append] at hk
    have hk : l.length + 1 ≤ k := hk
    rw [runB_snoc] at h
    cases hr : runB bs s0 l with
    | none => rw [hr] at h; cases h
    | some s1 =>
      rw [hr, Option.bind_some] at h
      by_cases hg : goesB bs s1 d = true
      · rw [if_pos hg] at h
        cases h
        have hm := ih (fun x hx => hl x (List.mem_append_left _ hx)) (by omega) s1 hr
        obtain ⟨j, hj⟩ := List.getElem?_of_mem hm
        have el := (B.led _ hm).2.2
        have el : s1.length = s0.length := el
        have hji : j < i := by
          rcases Nat.lt_or_ge j i with h | h
          · exact h
          · have : (s1, l) ∈ cat.drop i := by
              have e : (cat.drop i)[j - i]? = some (s1, l) := by
                rw [List.getElem?_drop, show i + (j - i) = j by omega]
                exact hj
              exact List.mem_of_getElem? e
            have := V.eq _ this
            have : l.length = k := this
            omega
        exact B.ex j _ hji hj d (free_mem.mpr ⟨by have := hl d (List.mem_append_right _ (List.mem_singleton.mpr rfl)); show 0 ≤ d ∧ d < s1.length; omega, hg⟩)
      · rw [if_neg hg] at h
        cases h
/-! ### a standing as a pattern -/
theorem sg63 : ∀ b : Bool, sg b ≠ 63 := by decide
theorem fit_exact {e st : List Bool} (h : e.length = st.length) : fitB e (st.map sg) = decide (e = st) := by
  have hat : ∀ i, i < e.length → fitAt e (st.map sg) i = decide (e.getD i false = st.getD i false) := fun i hi => by
    unfold fitAt
    have e1 : (st.map sg).getD i 0 = sg (st.getD i false) := by
      rw [List.getD_eq_getElem?_getD, List.getD_eq_getElem?_getD, List.getElem?_map, List.getElem?_eq_getElem (by omega)]
      rfl
    rw [e1, decide_eq_false (sg63 _), Bool.false_or]
    exact decide_eq_decide.mpr ⟨fun z => (sg_inj z).symm, fun z => by rw [z]⟩
  unfold fitB
  by_cases q : e = st
  · rw [decide_eq_true q, List.all_map, List.all_eq_true]
    intro i hi
    show fitAt e (st.map sg) i = true
    rw [hat i (List.mem_range.mp hi), q]
    exact decide_eq_true rfl
  · rw [decide_eq_false q]
    cases hb : ((List.range e.length).map (fitAt e (st.map sg))).all id with
    | false => rfl
    | true =>
      rw [List.all_map, List.all_eq_true] at hb
      refine absurd (List.ext_getElem h fun i h1 h2 => ?_) q
      have := hb i (List.mem_range.mpr h1)
      have : fitAt e (st.map sg) i = true := this
      rw [hat i h1] at this
      have := of_decide_eq_true this
      rw [List.getD_eq_getElem?_getD, List.getD_eq_getElem?_getD, List.getElem?_eq_getElem h1, List.getElem?_eq_getElem h2] at this
      exact this
theorem inV_strs (z : Str) (l : List Str) : inV (.str z) (l.map V.str) = decide (z ∈ l) := by
  unfold inV
  induction l with
  | nil => rfl
  | cons a l ih =>
    rw [List.map_cons, List.any_cons, ih]
    show ((a == z) || decide (z ∈ l)) = decide (z ∈ a :: l)
    rw [beq_dec]
    by_cases q : z = a
    · subst q
      simp
    · have q' : ¬ a = z := fun z => q z.symm
      simp [q, q']
theorem flat_strs (l : List Str) : (l.map V.str).all flatV = true := by
  rw [List.all_eq_true]
  intro x hx
  obtain ⟨i, _, rfl⟩ := List.mem_map.mp hx
  rfl
theorem sstr_snoc (st : List Bool) (b : Bool) (z : Str) (hz : z.cps.toList = [sg b]) : sstr st ++ z = sstr (st ++ [b]) := by
  refine PyProof.Rows.ext_toList ?_
  show tl _ = tl _
  rw [tl_append, show tl z = _ from hz, show tl (sstr st) = _ from sstr_tl _, show tl (sstr (st ++ [b])) = _ from sstr_tl _, List.map_append]
  rfl
section
variable {P : Program} {w : World} {K : PySem.W.Frag} {mg : Str → Option Value} {base : Heap}
abbrev nLA : List Str := ["_law_many", "_law_found", "_law_at", "_law_some"]
theorem scLA : FnScope nLA ["_law_many"] (defScope s__law_all) := ⟨rfl, rfl, rfl, by decide +kernel, rfl, by decide +kernel, by decide +kernel⟩
end
end DL

set_option Elab.async false
set_option maxRecDepth 100000
namespace DL
open PySem PySem.Spec PyProof.Rows L2
section
variable {X : Cx}
/-! ### sorted of texts, any number; sorted of a dict with texts as keys -/
def rSortSA (K : PySem.W.Frag) : List V → Hp → VK → Prop := fun vs H Q => ∃ (a : Addr) (xs : List Str), vs = [V.ref a] ∧ SqL K H a (xs.map V.str) ∧
  ∀ (ys : List Str) (p : Addr), ys.Perm xs → sortedS ys = true → H p = none → Q (.ref p) (upd H p (.lst (ys.map V.str)))
theorem cr_sortSA : CallR X (.builtin "sorted") (rSortSA X.K) := by
  intro pins s σ H vs us Q I r h
  obtain ⟨a, xs, rfl, hs, q⟩ := h
  obtain ⟨its, rv, hl, hz⟩ := I.list hs
  rw [Vals.ref1 r]
  have hlen0 := rv.length
  refine PyProof.Rows.sorted_strsAny hl.isList rv.strs (by rw [← hlen0]; exact hz) fun out ys h1 h2 h3 => ?_
  obtain ⟨ep, he'⟩ := PyProof.Rows.sortedAll_at s.heap its out
  have hlen : (ys.map V.str).length ≤ sizeLine := by rw [List.length_map, h2.length_eq]; rw [List.length_map] at hz; exact hz
  exact ⟨.ref _, upd H (s.heap.objs.size + 1) (.lst (ys.map V.str)), I.laid (t' := s.toks) (fun _ _ => PyProof.Rows.sortedAll_old) (Nat.le_succ _) ⟨hlen, out.toList, ep, vals_of_strs h1, he'⟩, rfl, q ys _ h2 h3 (I.hok.fresh (Nat.le_succ _))⟩
/-! ### min of texts -/
/-! ### < of data -/
end
end DL

set_option Elab.async false
set_option maxRecDepth 100000
namespace DL
open PySem L2 HT TL
/-! ### two queues that came to their end hold the same -/
theorem sub_asc {es es' : List Ent} (h1 : (es.map (·.2)).Pairwise Bef) (h2 : (es'.map (·.2)).Pairwise Bef) (hs : ∀ e, e ∈ es ↔ e ∈ es') : es = es' := by
  induction es generalizing es' with
  | nil =>
    cases es' with
    | nil => rfl
    | cons b es' => exact absurd ((hs b).mpr List.mem_cons_self) (by simp)
  | cons a es ih =>
    cases es' with
    | nil => exact absurd ((hs a).mp List.mem_cons_self) (by simp)
    | cons b es' =>
      rw [List.map_cons, List.pairwise_cons] at h1 h2
      have hab : a = b := by
        rcases List.mem_cons.mp ((hs a).mp List.mem_cons_self) with q | q
        · exact q
        · rcases List.mem_cons.mp ((hs b).mpr List.mem_cons_self) with q' | q'
          · exact q'.symm
          · have z1 := (h1.1 b.2 (List.mem_map.mpr ⟨b, q', rfl⟩)).1
            have z2 := (h2.1 a.2 (List.mem_map.mpr ⟨a, q, rfl⟩)).1
            omega
      subst hab
      congr 1
      refine ih h1.2 h2.2 fun e => ⟨fun he => ?_, fun he => ?_⟩
      · rcases List.mem_cons.mp ((hs e).mp (List.mem_cons_of_mem _ he)) with q | q
        · have z1 := (h1.1 e.2 (List.mem_map.mpr ⟨e, he, rfl⟩)).1
          rw [q] at z1
          omega
        · exact q
      · rcases List.mem_cons.mp ((hs e).mpr (List.mem_cons_of_mem _ he)) with q | q
        · have z1 := (h2.1 e.2 (List.mem_map.mpr ⟨e, he, rfl⟩)).1
          rw [q] at z1
          omega
        · exact q
theorem BI.sub {bs : List Bar} {s0 : List Bool} {es es' : List Ent} (I : BI bs s0 es.length es) (I' : BI bs s0 es'.length es') (h7 : s0.length ≤ 7) {e : Ent} (he : e ∈ es) : e ∈ es' := by
  obtain ⟨m1, ⟨m2, m3⟩, m4⟩ := I.led e he
  obtain ⟨f, hf, g1, g2, _⟩ := I'.opt h7 e.2 m3 e.1 m1
  obtain ⟨n1, ⟨n2, n3⟩, n4⟩ := I'.led f hf
  obtain ⟨e', he', k1, k2, _⟩ := I.opt h7 f.2 n3 f.1 n1
  have : e' = e := nd_eq I.nd he' he (by rw [k1, g1])
  subst this
  have : f = e' := Prod.ext g1 (rcode_inj n2 m2 (by omega))
  rw [← this]
  exact hf
theorem BI.same {bs : List Bar} {s0 : List Bool} {es es' : List Ent} (I : BI bs s0 es.length es) (I' : BI bs s0 es'.length es') (h7 : s0.length ≤ 7) : es = es' :=
  sub_asc I.asc.pw I'.asc.pw fun _ => ⟨I.sub I' h7, I'.sub I h7⟩
/-! ### sorted texts -/
/-! ### (len(a), a) < (len(b), b) -/
end DL

set_option Elab.async false
set_option maxRecDepth 100000
namespace DL
open PySem L2 HT TL
structure spReachedA (C : Addr) (vs : List V) (H : Hp) (Q : VK) (_ : XK) : Prop where
  h : ∃ (c : Addr) (bs : List Bar) (n : Nat), vs = [.ref c] ∧ CabOk C H c n bs ∧
    ∀ (p : Addr) (es : List Ent) (ys : List Str) (H' : Hp), Same H H' → BI bs (shutS n) es.length es → ys.Perm (es.map fun e => sstr e.1) → PyProof.Rows.sortedS ys = true → H p = none → H' p = some (.lst (ys.map V.str)) → Q (.ref p) H'
section
variable {P : Program} {w : World} {K : PySem.W.Frag} {mg : Str → Option Value} {base : Heap}
theorem scReA : FnScope ["cabinet"] ["cabinet"] (defScope s_reached) := ⟨rfl, rfl, rfl, by decide +kernel, rfl, by decide +kernel, by decide +kernel⟩
theorem ok_reachedA {f f1 f2 C : Addr} {fd fd1 fd2 : FuncData} (F : Fun K "reached" "reached" s_reached f fd) (T : Bt mg) (zL : mg "list" = none)
    (G1 : FnOk P w K mg base CX0 1 f1 fd1 ["cabinet"] (spCkCab C)) (g1 : mg "check_cabinet" = some (.ref f1)) (k1 : PySem.W.keepIn K (.ref f1) = true) (b1 : Binds K fd1 ["cabinet"] [])
    (G2 : FnOk P w K mg base CX0 12 f2 fd2 ["cabinet"] (spFirstRows C)) (g2 : mg "first_rows" = some (.ref f2)) (k2 : PySem.W.keepIn K (.ref f2) = true) (b2 : Binds K fd2 ["cabinet"] []) : FnOk P w K mg base CX0 14 f fd ["cabinet"] (spReachedA C) := by
  refine F.ok scReA (fun vs H Q E h => ?_) (fun cdv A outer s H vs Q E hr h => ?_)
  · obtain ⟨c, bs, n, rfl, _⟩ := h.h
    rfl
  · obtain ⟨c, bs, n, rfl, B, k⟩ := h.h
    obtain ⟨t, hc, n7⟩ := B.cab
    have n1 : 1 ≤ n := by
      obtain ⟨_, _, _, _, _, _, q, _⟩ := B.h
      omega
    refine ⟨_, pss_cons (ps_expr (pe_call G1 (hr.mono (by decide)) rfl g1 k1 b1 .nil pass0 (pa_cons (pv 0) pa_nil)))
      (pss_one (ps_ret (pe_callB cr_sortSA (by rfl) T.sorted (by decide +kernel) (pa_cons (pe_callTy (call_listD rfl) (by rfl) zL (by decide +kernel) (pa_cons (pe_call G2 (hr.mono (by decide)) rfl g2 k2 b2 .nil pass0 (pa_cons (pv 0) pa_nil)) pa_nil)) pa_nil)))), ?_⟩
    refine ⟨_, rfl, ⟨⟨c, _, t, rfl, hc, ?_⟩⟩⟩
    obtain ⟨dx, hc0⟩ := hc
    have hshut : (shutS n).length = n := List.length_replicate
    refine ⟨_, rfl, ⟨⟨c, bs, n, rfl, B, fun a ks H1 ha s1 hA hE I => ?_⟩⟩⟩
    refine ⟨a, _, rfl, .inl hA, fun l hl => ?_⟩
    have e1 : ((kvsOf ks).map fun kv => kV kv.1) = ((ks.map (·.2)).map fun e => sstr e.1).map V.str := by
      unfold kvsOf
      rw [List.map_map, List.map_map, List.map_map]
      rfl
    refine ⟨l, (ks.map (·.2)).map fun e => sstr e.1, rfl, SqL.of (by rw [upd_same, e1]), fun ys p hp hsrt hpn => ?_⟩
    have s2 := s1.trans (same_upd (o := .lst ((kvsOf ks).map fun kv => kV kv.1)) hl)
    exact k p (ks.map (·.2)) ys _ (s2.trans (same_upd hpn)) (by rw [List.length_map]; exact I) hp hsrt (s2.free hpn) upd_same
theorem boot_max_ : bootBuiltins ("max" : Str) = some (.builtin "max") := by decide +kernel
end
end DL

set_option Elab.async false
set_option maxRecDepth 100000

set_option Elab.async false
set_option maxRecDepth 100000
namespace DL
open PySem L2 HT TL RZ
/-! ### patterns of sets -/
def opat (n : Nat) (ns : List Int) : List Nat := (List.range n).map fun (i : Nat) => if decide ((i : Int) ∈ ns) = true then 111 else 63
theorem opat_len (n : Nat) (ns : List Int) : (opat n ns).length = n := by unfold opat; rw [List.length_map, List.length_range]
theorem opat_at {n i : Nat} (ns : List Int) (h : i < n) : (opat n ns)[i]? = some (if decide ((i : Int) ∈ ns) = true then 111 else 63) := by
  unfold opat
  rw [List.getElem?_map, List.getElem?_range h]
  rfl
theorem fit_opat {n : Nat} {st : List Bool} {ns : List Int} (hl : st.length = n) (hn : ∀ d ∈ ns, 0 ≤ d ∧ d < n) : fitB st (opat n ns) = ns.all fun d => sat st d := by
  rw [Bool.eq_iff_iff]
  unfold fitB
  rw [List.all_map, List.all_eq_true, List.all_eq_true]
  have key : ∀ i : Nat, i < n → (fitAt st (opat n ns) i = true ↔ ((i : Int) ∈ ns → sat st i = true)) := fun i hi => by
    unfold fitAt
    rw [List.getD_eq_getElem?_getD, opat_at ns hi, Option.getD_some]
    unfold sat
    rw [Int.toNat_natCast]
    by_cases q : (i : Int) ∈ ns
    · rw [decide_eq_true q, if_pos rfl]
      have : ∀ b : Bool, (decide (111 = 63) || decide (111 = sg b)) = b := by decide
      rw [this]
      exact ⟨fun h _ => h, fun h => h q⟩
    · rw [decide_eq_false q, if_neg Bool.false_ne_true]
      exact ⟨fun _ z => absurd z q, fun _ => rfl⟩
  constructor
  · intro h d hd
    obtain ⟨d0, d1⟩ := hn d hd
    have := (key d.toNat (by omega)).mp (h d.toNat (List.mem_range.mpr (by omega)))
    rw [show ((d.toNat : Nat) : Int) = d by omega] at this
    exact this hd
  · intro h i hi
    exact (key i (by rw [← hl]; exact List.mem_range.mp hi)).mpr fun hm => h _ hm
structure spOpenPat (K : PySem.W.Frag) (C : Addr) (vs : List V) (H : Hp) (Q : VK) (_ : XK) : Prop where
  h : ∃ (c a : Addr) (n : Nat) (t : Addr) (ns : List Int), vs = [.ref c, .ref a] ∧ CabAt C H c n t ∧ n ≤ 7 ∧ SqT K H a (ns.map V.int) ∧ ∀ H', Same H H' → Q (.str (pstr (opat n ns))) H'
structure spAnyFits (K : PySem.W.Frag) (vs : List V) (H : Hp) (Q : VK) (_ : XK) : Prop where
  h : ∃ (l : Addr) (sts : List (List Bool)) (cs : List Nat), vs = [.ref l, .str (pstr cs)] ∧ SqA K H l (sts.map fun st => V.str (sstr st)) ∧ (∀ st ∈ sts, st.length = cs.length) ∧ cs.length ≤ 7 ∧ sts.length ≤ 1000 ∧ ∀ H', Same H H' → Q (.bl (sts.any fun st => fitB st cs)) H'
theorem bl_any {α : Type} (l : List α) (f : α → Bool) : (l.map f).any id = l.any f := by rw [List.any_map]; rfl
theorem SqA.same {K : PySem.W.Frag} {H H' : Hp} {a : Addr} {xs : List V} (s : Same H H') (h : SqA K H a xs) : SqA K H' a xs := by
  rcases h with h | h
  · exact .inl (s.seq h)
  · exact .inr (SqT.same s h)
section
variable {P : Program} {w : World} {K : PySem.W.Frag} {mg : Str → Option Value} {base : Heap}
abbrev nOP : List Str := ["cabinet", "some", "drawer"]
theorem scOP : FnScope nOP ["cabinet", "some"] (defScope s_open_pattern) := ⟨rfl, rfl, rfl, by decide +kernel, rfl, by decide +kernel, by decide +kernel⟩
theorem ok_openPat {f C aS : Addr} {fd : FuncData} (F : Fun K "open_pattern" "open_pattern" s_open_pattern f fd) (T : Bt mg) (TS : SgT K w mg aS) (CP : CabP P w K mg base C) : FnOk P w K mg base CX0 4 f fd ["cabinet", "some"] (spOpenPat K C) := by
  refine F.ok scOP (fun vs H Q E h => ?_) (fun cdv A outer s H vs Q E hr h => ?_)
  · obtain ⟨c, a, n, t, ns, rfl, _⟩ := h.h
    rfl
  · obtain ⟨c, a, n, t, ns, rfl, ⟨dx, hc⟩, n7, S, k⟩ := h.h
    obtain ⟨pD, gD, fdD, hpD, GD, bD⟩ := CP.d
    refine ⟨_, pss_one (ps_ret (pe_join pe_str
      (pe_lc (own := [("drawer", 2)]) (g := gName 2) (tt := tYes) (by rfl) scOP.nd (pi_range1 (by rfl) T.range (pa_cons (pe_prop (pv 0) CP.cl hpD GD (hr.mono (by decide)) bD .nil pass0 rfl) pa_nil)) (blkOk_by (N := nOP) (sc := defScope s_open_pattern) (by decide +kernel)) (fun _ _ _ _ _ => pg_name (i := 2) scOP.nd rfl (Or.inl rfl)) (fun _ _ _ _ _ => pts_nil)
        (fun _ _ _ _ _ => pe_ifExp (pt_cmpR (op_in_seqK (K := K) rfl) (pv 2) (pv 1) (by rfl)) (pe_ix (ix_kdictK (K := K) (w := w) rfl rfl) (pe_glob (v := .ref aS) rfl TS.g rfl) pe_str (fun _ _ => rfl)) pe_str)))), ?_⟩
    refine ⟨⟨_, rfl⟩, _, rfl, c, dx, _, rfl, hc, ⟨⟨c, dx, _, t, rfl, hc, _, rfl, by omega, by omega, fun D hD => ?_⟩⟩⟩
    rw [Int.toNat_natCast]
    refine lc_pick (walk_range (lo := 0) (n := n)) (opat n ns) (opat_len n ns) (by omega) (fun _ => true) (fun c => V.str ⟨#[c]⟩) hD (fun _ _ => trivial) ?_ ?_
    · rintro i x z H1 H1' Tk Nk ez s1 ⟨rfl, rfl⟩ kT kF
      have hi : i < n := by have := (List.getElem?_eq_some_iff.mp ez).1; rw [opat_len] at this; exact this
      rw [opat_at ns hi] at ez
      have ei : (0 : Int) + (i : Nat) = (i : Int) := by omega
      refine ⟨rfl, tYes_of (iteT ?_)⟩
      refine ⟨_, rfl, _, rfl, a, _, rfl, .inr (SqT.same s1 S), rfl, flat_ints _, _, rfl, ?_⟩
      rw [if_neg Bool.false_ne_true, inV_ints, ei]
      by_cases q : (i : Int) ∈ ns
      · rw [decide_eq_true q, if_pos rfl] at ez
        cases ez
        rw [decide_eq_true q]
        exact iteT ⟨aS, _, _, rfl, rfl, TS.o, kT _ rfl (Same.refl _)⟩
      · rw [decide_eq_false q, if_neg Bool.false_ne_true] at ez
        cases ez
        rw [decide_eq_false q]
        exact iteF (kT _ rfl (Same.refl _))
    · intro H1 s1 hD1
      rw [List.filter_eq_self.mpr fun _ _ => rfl] at hD1
      have em : ((opat n ns).map fun c => V.str ⟨#[c]⟩) = ((opat n ns).map fun c => (⟨#[c]⟩ : Str)).map V.str := by rw [List.map_map]; rfl
      rw [em] at hD1
      refine ⟨_, D, _, rfl, rfl, .inl (SqL.of hD1), ?_, ?_⟩
      · rw [sum_ones, List.length_map, opat_len]
        have z : ("" : Str).length = 0 := by decide +kernel
        rw [z]
        have : (14 : Nat) < sizeLine := by decide
        omega
      · rw [join_codes]
        exact k H1 s1
abbrev nAF : List Str := ["standings", "pattern", "standing"]
theorem scAF : FnScope nAF ["standings", "pattern"] (defScope s_any_fits) := ⟨rfl, rfl, rfl, by decide +kernel, rfl, by decide +kernel, by decide +kernel⟩
theorem ok_anyFits {f f1 : Addr} {fd fd1 : FuncData} (F : Fun K "any_fits" "any_fits" s_any_fits f fd) (zA : mg "any" = none) (G : FnOk P w K mg base CX0 1 f1 fd1 ["standing", "pattern"] spFits) (g1 : mg "fits" = some (.ref f1)) (k1 : PySem.W.keepIn K (.ref f1) = true) (b1 : Binds K fd1 ["standing", "pattern"] []) :
    FnOk P w K mg base CX0 4 f fd ["standings", "pattern"] (spAnyFits K) := by
  refine F.ok scAF (fun vs H Q E h => ?_) (fun cdv A outer s H vs Q E hr h => ?_)
  · obtain ⟨l, sts, cs, rfl, _⟩ := h.h
    rfl
  · obtain ⟨l, sts, cs, rfl, S, hl, h7, h1000, k⟩ := h.h
    refine ⟨_, pss_one (ps_ret (pe_callB (cr_any rfl) (by rfl) zA boot_any_ (pa_cons
      (pe_lc (own := [("standing", 2)]) (g := gName 2) (tt := tYes) (by rfl) scAF.nd (pi_seq (K := K) rfl (pv 0)) (blkOk_by (N := nAF) (sc := defScope s_any_fits) (by decide +kernel)) (fun _ _ _ _ _ => pg_name (i := 2) scAF.nd rfl (Or.inl rfl)) (fun _ _ _ _ _ => pts_nil)
        (fun _ _ _ _ _ => pe_call G (hr.mono (by decide)) rfl g1 k1 b1 .nil pass0 (pa_cons (pv 2) (pa_cons (pv 1) pa_nil)))) pa_nil))), ?_⟩
    have step : ∀ (J : It) (Gd : Hp → Prop) (Y : Nat → Hp → V → Hp → Prop), Walk J sts.length Gd Y → (∀ H', Same H H' → Gd H') → (∀ i H1 x H', Y i H1 x H' → H' = H1 ∧ ∃ z, sts[i]? = some z ∧ x = .str (sstr z)) →
        lcC J (gName 2) tYes (tCall spFits [] E0 (tCons (tVar 2) (tCons (tVar 1) tNil))) [2] (L2.start nAF [.ref l, .str (pstr cs)]) (fun v H1 => rAny K [v] H1 Q) H := by
      intro J Gd Y wk hG hY D hD
      refine lc_pick wk sts rfl (by omega) (fun _ => true) (fun st => V.bl (fitB st cs)) hD hG ?_ ?_
      · rintro i x z H1 H1' Tk Nk ez s1 y kT kF
        obtain ⟨rfl, z', ez', rfl⟩ := hY _ _ _ _ y
        rw [ez] at ez'
        cases ez'
        refine ⟨rfl, tYes_of (iteT ?_)⟩
        have hz := hl z (List.mem_of_getElem? ez)
        exact ⟨_, rfl, _, rfl, ⟨⟨z, cs, rfl, hz, by omega, fun H4 s4 => kT H4 rfl s4⟩⟩⟩
      · intro H1 s1 hD1
        rw [List.filter_eq_self.mpr fun _ _ => rfl] at hD1
        refine ⟨D, sts.map fun st => fitB st cs, rfl, SqL.of (by rw [hD1, List.map_map]; rfl), ?_⟩
        rw [bl_any]
        exact k H1 s1
    refine ⟨_, rfl, l, rfl, ?_⟩
    rcases S with S | S
    · exact .inl ⟨⟨_, S⟩, step _ _ _ (walk_lst (K := K) (a := l) (l := sts) (f := fun st => V.str (sstr st))) (fun H' s1 => s1.seq S) fun _ _ _ _ y => y⟩
    · exact .inr ⟨⟨_, S⟩, step _ _ _ (walk_bars (K := K) (a := l) (l := sts) (f := fun st => V.str (sstr st))) (fun H' s1 => SqT.same s1 S) fun _ _ _ _ y => y⟩
end
end DL

set_option Elab.async false
set_option maxRecDepth 100000
namespace DL
open PySem L2 HT TL
/-! ### walks over a dict of rows -/
theorem kvs_at {ks : List KEnt} {i : Nat} {k : Key} {v : V} (h : (kvsOf ks)[i]? = some (k, v)) : ∃ kk, ks[i]? = some kk ∧ k = .inr (sstr kk.2.1) ∧ v = .ref kk.1 := by
  unfold kvsOf at h
  rw [List.getElem?_map] at h
  cases e : ks[i]? with
  | none => rw [e] at h; cases h
  | some kk =>
    rw [e] at h
    have h : some ((.inr (sstr kk.2.1) : Key), V.ref kk.1) = some (k, v) := h
    injection h with h
    injection h with h1 h2
    exact ⟨kk, rfl, h1.symm, h2.symm⟩
theorem walk_keysE {d : Addr} {o : Obj} {ks : List KEnt} : Walk (Itk d o (kvsOf ks)) ks.length (fun H => H d = some (.frz o (.dK (kvsOf ks)))) (fun i H x H' => H' = H ∧ ∃ k, ks[i]? = some k ∧ x = .str (sstr k.2.1)) := by
  rw [← kvs_len ks]
  refine (walk_keys (d := d) (o := o) (kvs := kvsOf ks)).mono (fun H h => h) fun i H x H' _ _ y => ?_
  obtain ⟨e, k, v, h, rfl⟩ := y
  obtain ⟨kk, e1, rfl, _⟩ := kvs_at h
  exact ⟨e, kk, e1, rfl⟩
theorem walk_itemsE {d : Addr} {o : Obj} {ks : List KEnt} : Walk (Iti d o (kvsOf ks)) ks.length (fun H => H d = some (.frz o (.dK (kvsOf ks)))) (fun i H x H' => ∃ (T : Addr) (k : KEnt), x = .ref T ∧ H T = none ∧ H' = upd H T (.tup [.str (sstr k.2.1), .ref k.1]) ∧ ks[i]? = some k) := by
  rw [← kvs_len ks]
  refine (walk_items (d := d) (o := o) (kvs := kvsOf ks)).mono (fun H h => h) fun i H x H' _ _ y => ?_
  obtain ⟨T, u, v, ex, hT, eH, h1, h2⟩ := y
  have h1 : (kvsOf ks)[i]?.map (fun kv => kV kv.1) = some u := h1
  have h2 : (kvsOf ks)[i]?.map Prod.snd = some v := h2
  cases e : (kvsOf ks)[i]? with
  | none => rw [e] at h1; cases h1
  | some p =>
    obtain ⟨k', v'⟩ := p
    rw [e] at h1 h2
    obtain ⟨kk, e1, rfl, rfl⟩ := kvs_at e
    cases h1
    cases h2
    exact ⟨T, kk, ex, hT, eH, e1⟩
/-- a dict of rows, locked from its making on -/
structure RowsFrz (H : Hp) (a : Addr) (od : Obj) (ks : List KEnt) : Prop where
  at' : H a = some (.frz od (.dK (kvsOf ks)))
  el : RowsEl H ks
theorem RowsFrz.same {H H' : Hp} {a : Addr} {od : Obj} {ks : List KEnt} (R : RowsFrz H a od ks) (s : Same H H') : RowsFrz H' a od ks := ⟨s _ _ R.at', R.el.same s⟩
theorem RowsFrz.but {r sc : Addr} {H H' : Hp} {a : Addr} {od : Obj} {ks : List KEnt} (R : RowsFrz H a od ks) (hR : RowOk H r sc) (B : But r H H') : RowsFrz H' a od ks := by
  obtain ⟨_, _, _, h, _⟩ := hR.h
  exact ⟨B _ _ (ne_of R.at' h (by intro z; cases z)) R.at', ⟨fun k hk => B.tup h (R.el.el k hk)⟩⟩
theorem But.tupL {x : Addr} {xs ys : List V} {H H' : Hp} {b : Addr} (hx : H x = some (.lst xs)) (B : But x H H') (hb : H b = some (.tup ys)) : H' b = some (.tup ys) := B _ _ (ne_of hb hx (by intro z; cases z)) hb
theorem RowsFrz.but2 {x : Addr} {xs : List V} {H H' : Hp} {a : Addr} {od : Obj} {ks : List KEnt} (R : RowsFrz H a od ks) (hx : H x = some (.lst xs)) (B : But x H H') : RowsFrz H' a od ks :=
  ⟨B _ _ (ne_of R.at' hx (by intro z; cases z)) R.at', ⟨fun k hk => B.tupL hx (R.el.el k hk)⟩⟩
theorem Lay.but2 {C r p c x : Addr} {xs : List V} {H H' : Hp} {n : Int} {bs : List Bar} (L : Lay C r p c H n bs) (hx : H x = some (.lst xs)) (hp : p ≠ x) (B : But x H H') : Lay C r p c H' n bs := by
  obtain ⟨t, ks, zs, h1, ⟨dx, h2⟩, h3, h4⟩ := L.h
  exact ⟨⟨t, ks, zs, B _ _ hp h1, ⟨dx, B _ _ (ne_of h2 hx (by intro z; cases z)) h2⟩, ⟨B.tupL hx h3.tu, fun k hk => B.tupL hx (h3.el k hk)⟩, h4⟩⟩
theorem rows_lock {H H1 : Hp} {a : Addr} {ks : List KEnt} (od : Obj) (ha : H a = none) (s1 : Same H H1) (hA : H1 a = some (.dK (kvsOf ks))) (hE : RowsEl H1 ks) :
    Same H (upd H1 a (.frz od (.dK (kvsOf ks)))) ∧ RowsFrz (upd H1 a (.frz od (.dK (kvsOf ks)))) a od ks := by
  refine ⟨fun b o eb => ?_, upd_same, ⟨fun k hk => ?_⟩⟩
  · rw [upd_ne (ne_of_none eb ha)]
    exact s1 _ _ eb
  · have := hE.el k hk
    rw [upd_ne (ne_of this hA (by intro z; cases z))]
    exact this
theorem dget_frz {H : Hp} {a : Addr} {o : Obj} {kvs : List (Key × V)} (k : Key) (h : H a = some (.frz o (.dK kvs))) : DGet H a (kV k) (valV kvs k) := .inl ⟨kvs, k, .inr ⟨o, h⟩, rfl, rfl⟩
end DL

set_option Elab.async false
set_option maxRecDepth 100000
namespace DL
open PySem L2 HT TL RZ
def cnt (st : List Bool) : Int := Txt.count (sstr st) "o"
structure PairsAt (H : Hp) (qs : List (Addr × Int × Int)) : Prop where
  el : ∀ q ∈ qs, H q.1 = some (.tup [.int q.2.1, .int q.2.2])
theorem PairsAt.same {H H' : Hp} {qs : List (Addr × Int × Int)} (A : PairsAt H qs) (s : Same H H') : PairsAt H' qs := ⟨fun q hq => s _ _ (A.el q hq)⟩
def never (es : List Ent) (p : Int × Int) : Bool := !(es.any fun e => sat e.1 p.1 && sat e.1 p.2)
structure spOpenT (K : PySem.W.Frag) (C : Addr) (vs : List V) (H : Hp) (Q : VK) (_ : XK) : Prop where
  h : ∃ (c a : Addr) (bs : List Bar) (n : Nat) (ns : List Int), vs = [.ref c, .ref a] ∧ CabOk C H c n bs ∧ SetAt K H n a ns ∧
    ∀ (ks : List KEnt) (H' : Hp), Same H H' → RowsEl H' ks → BI bs (shutS n) ks.length (ks.map (·.2)) → Q (match ks.find? (fun k => ns.all fun d => sat k.2.1 d) with | some k => .ref k.1 | none => .non) H'
structure spMost (C : Addr) (vs : List V) (H : Hp) (Q : VK) (_ : XK) : Prop where
  h : ∃ (c : Addr) (bs : List Bar) (n : Nat), vs = [.ref c] ∧ CabOk C H c n bs ∧
    ∀ (p : Addr) (ks : List KEnt) (M : Int) (k0 : KEnt) (l : List KEnt) (H' : Hp), Same H H' → RowsEl H' ks → BI bs (shutS n) ks.length (ks.map (·.2)) → M ∈ ks.map (fun k => cnt k.2.1) → (∀ k ∈ ks, cnt k.2.1 ≤ M) → ks.filter (fun k => decide (cnt k.2.1 = M)) = k0 :: l → H' p = some (.tup [.int M, .ref k0.1]) → Q (.ref p) H'
theorem find_congr {α : Type} {l : List α} {p q : α → Bool} (h : ∀ x ∈ l, p x = q x) : l.find? p = l.find? q := by
  induction l with
  | nil => rfl
  | cons a l ih =>
    rw [List.find?_cons, List.find?_cons, h a List.mem_cons_self, ih fun x hx => h x (List.mem_cons_of_mem _ hx)]
theorem any_perm {ys : List Str} {es : List Ent} (h : ys.Perm (es.map fun e => sstr e.1)) : ∃ sts : List (List Bool), ys = sts.map sstr ∧ sts.Perm (es.map (·.1)) := by
  have key : ∀ (l : List (List Bool)) (ys : List Str), ys.Perm (l.map sstr) → ∃ sts : List (List Bool), ys = sts.map sstr ∧ sts.Perm l := by
    intro l ys h
    have hs : ∀ y ∈ ys, ∃ st, y = sstr st := fun y hy => by
      obtain ⟨st, _, rfl⟩ := List.mem_map.mp (h.mem_iff.mp hy)
      exact ⟨st, rfl⟩
    have ex : ∃ sts : List (List Bool), ys = sts.map sstr := by
      clear h
      induction ys with
      | nil => exact ⟨[], rfl⟩
      | cons y ys ih =>
        obtain ⟨sts, e⟩ := ih fun z hz => hs z (List.mem_cons_of_mem _ hz)
        obtain ⟨st, e2⟩ := hs y List.mem_cons_self
        exact ⟨st :: sts, by rw [List.map_cons, e2, e]⟩
    obtain ⟨sts, e⟩ := ex
    refine ⟨sts, e, ?_⟩
    rw [e] at h
    refine List.perm_iff_count.mpr fun st => ?_
    have := List.perm_iff_count.mp h (sstr st)
    have cm : ∀ l : List (List Bool), (l.map sstr).count (sstr st) = l.count st := fun l => by
      induction l with
      | nil => rfl
      | cons a l ih =>
        rw [List.map_cons, List.count_cons, List.count_cons, ih]
        by_cases q : a = st
        · subst q
          simp
        · have q' : ¬ sstr a = sstr st := fun z => q (sstr_inj z)
          simp [q, q']
    rw [cm, cm] at this
    exact this
  have e : (es.map fun e => sstr e.1) = (es.map (·.1)).map sstr := by rw [List.map_map]; rfl
  rw [e] at h
  exact key _ _ h
section
variable {P : Program} {w : World} {K : PySem.W.Frag} {mg : Str → Option Value} {base : Heap}
theorem scOT2 : FnScope ["cabinet", "some"] ["cabinet", "some"] (defScope s_open_together) := ⟨rfl, rfl, rfl, by decide +kernel, rfl, by decide +kernel, by decide +kernel⟩
theorem ok_openT {f f1 f2 f3 f4 f5 C : Addr} {fd fd1 fd2 fd3 fd4 fd5 : FuncData} (F : Fun K "open_together" "open_together" s_open_together f fd) (CP : CabP P w K mg base C)
    (G1 : FnOk P w K mg base CX0 1 f1 fd1 ["cabinet"] (spCkCab C)) (g1 : mg "check_cabinet" = some (.ref f1)) (k1 : PySem.W.keepIn K (.ref f1) = true) (b1 : Binds K fd1 ["cabinet"] [])
    (G2 : FnOk P w K mg base CX0 6 f2 fd2 ["cabinet", "some"] (spCkSet K C)) (g2 : mg "check_set" = some (.ref f2)) (k2 : PySem.W.keepIn K (.ref f2) = true) (b2 : Binds K fd2 ["cabinet", "some"] [])
    (G3 : FnOk P w K mg base CX0 12 f3 fd3 ["cabinet", "standing", "pattern"] (spFirstRow C)) (g3 : mg "first_row_to" = some (.ref f3)) (k3 : PySem.W.keepIn K (.ref f3) = true) (b3 : Binds K fd3 ["cabinet", "standing", "pattern"] [])
    (G4 : FnOk P w K mg base CX0 1 f4 fd4 ["drawers"] spFirst) (g4 : mg "first_standing" = some (.ref f4)) (k4 : PySem.W.keepIn K (.ref f4) = true) (b4 : Binds K fd4 ["drawers"] [])
    (G5 : FnOk P w K mg base CX0 4 f5 fd5 ["cabinet", "some"] (spOpenPat K C)) (g5 : mg "open_pattern" = some (.ref f5)) (k5 : PySem.W.keepIn K (.ref f5) = true) (b5 : Binds K fd5 ["cabinet", "some"] []) :
    FnOk P w K mg base CX0 14 f fd ["cabinet", "some"] (spOpenT K C) := by
  refine F.ok scOT2 (fun vs H Q E h => ?_) (fun cdv A outer s H vs Q E hr h => ?_)
  · obtain ⟨c, a, bs, n, ns, rfl, _⟩ := h.h
    rfl
  · obtain ⟨c, a, bs, n, ns, rfl, B, S, k⟩ := h.h
    obtain ⟨t, hc, n7⟩ := B.cab
    have n1 : 1 ≤ n := by
      obtain ⟨_, _, _, _, _, _, q, _⟩ := B.h
      omega
    obtain ⟨pD, gD, fdD, hpD, GD, bD⟩ := CP.d
    refine ⟨_, pss_cons (ps_expr (pe_call G1 (hr.mono (by decide)) rfl g1 k1 b1 .nil pass0 (pa_cons (pv 0) pa_nil))) (pss_cons (ps_expr (pe_call G2 (hr.mono (by decide)) rfl g2 k2 b2 .nil pass0 (pa_cons (pv 0) (pa_cons (pv 1) pa_nil))))
      (pss_one (ps_ret (pe_call G3 (hr.mono (by decide)) rfl g3 k3 b3 .nil pass0 (pa_cons (pv 0) (pa_cons (pe_call G4 (hr.mono (by decide)) rfl g4 k4 b4 .nil pass0 (pa_cons (pe_prop (pv 0) CP.cl hpD GD (hr.mono (by decide)) bD .nil pass0 rfl) pa_nil))
        (pa_cons (pe_call G5 (hr.mono (by decide)) rfl g5 k5 b5 .nil pass0 (pa_cons (pv 0) (pa_cons (pv 1) pa_nil))) pa_nil))))))), ?_⟩
    refine ⟨_, rfl, ⟨⟨c, _, t, rfl, hc, ?_⟩⟩⟩
    refine ⟨_, rfl, _, rfl, ⟨⟨c, a, n, t, ns, rfl, hc, by omega, S, fun H1 s1 => ?_⟩⟩⟩
    obtain ⟨dx, hc0⟩ := hc
    have hc1 := s1 _ _ hc0
    have hshut : (shutS n).length = n := List.length_replicate
    refine ⟨_, rfl, _, rfl, c, dx, _, rfl, hc1, ⟨⟨c, dx, _, t, rfl, hc1, ⟨⟨n, rfl, n1, by omega, ?_⟩⟩⟩⟩⟩
    refine ⟨_, rfl, _, rfl, ⟨⟨c, a, n, t, ns, rfl, ⟨dx, hc1⟩, by omega, SqT.same s1 S.at', fun H2 s2 => ?_⟩⟩⟩
    have s12 := s1.trans s2
    refine ⟨⟨c, bs, shutS n, opat n ns, rfl, by rw [hshut]; exact B.same s12, by rw [hshut, opat_len], fun ks H3 s3 hE I => ?_⟩⟩
    have e : ks.find? (fun k => fitB k.2.1 (opat n ns)) = ks.find? (fun k => ns.all fun d => sat k.2.1 d) := find_congr fun x hx => fit_opat (by rw [(I.led x.2 (List.mem_map.mpr ⟨x, hx, rfl⟩)).2.2, hshut]) S.low
    rw [e]
    exact k ks H3 (s12.trans s3) hE I
theorem scOC : FnScope ["standing"] ["standing"] (defScope s_open_count) := ⟨rfl, rfl, rfl, by decide +kernel, rfl, by decide +kernel, by decide +kernel⟩
structure spCount (vs : List V) (H : Hp) (Q : VK) (_ : XK) : Prop where
  h : ∃ st : List Bool, vs = [.str (sstr st)] ∧ ∀ H', Same H H' → Q (.int (cnt st)) H'
theorem ok_openCount {f aS : Addr} {fd : FuncData} (F : Fun K "open_count" "open_count" s_open_count f fd) (TS : SgT K w mg aS) : FnOk P w K mg base CX0 1 f fd ["standing"] spCount := by
  refine F.ok scOC (fun vs H Q E h => ?_) (fun cdv A outer s H vs Q E hr h => ?_)
  · obtain ⟨st, rfl, _⟩ := h.h
    rfl
  · obtain ⟨st, rfl, k⟩ := h.h
    refine ⟨_, pss_one (ps_ret (pe_bm PySem.F.plainAttrs_str PySem.F.slot_str_count PySem.F.type_str_count mt_count (pv 0) (pa_cons (pe_ix ix_kdict (pe_glob (v := .ref aS) rfl TS.g rfl) pe_str (fun _ _ => rfl)) pa_nil))), ?_⟩
    exact ⟨_, rfl, rfl, aS, _, _, rfl, rfl, TS.o, _, _, rfl, rfl, k H (Same.refl H)⟩
end
end DL

set_option Elab.async false
set_option maxRecDepth 100000
set_option maxHeartbeats 1000000

set_option Elab.async false
set_option maxRecDepth 100000

set_option Elab.async false
set_option maxRecDepth 100000
set_option maxHeartbeats 1000000
namespace DL
open PySem PySem.Spec PyProof.Rows L2
/-! ### own errors with a field, each by its own __init__ -/
def exIni (CB : Addr) (fld : Str) (x : V) (H : Hp) (E : XK) : Prop := ∀ (d : Addr) (H' : Hp), H d = none → Same H H' → H' d = some (.xd [(fld, x)]) → E (.ref CB) (some d) H'
end DL

set_option Elab.async false
set_option maxRecDepth 100000
set_option maxHeartbeats 1000000
namespace DL
open PySem L2 HT TL
/-! ### forms of single values: standings, tries, whatever they are -/
def sgnB (n : Int) (z : Str) : V → Bool
  | .str y => decide ((y.length : Int) = n) && y.cps.toList.all fun c => decide (c ∈ z.cps.toList)
  | _ => false
def strB : V → Bool
  | .str _ => true
  | _ => false
def blB : V → Bool
  | .bl _ => true
  | _ => false
section
variable {P : Program} {w : World} {K : PySem.W.Frag} {mg : Str → Option Value} {base : Heap}
/-- a plain value told as a try: standing, drawer, whether it went -/
def tryB (n : Int) (x0 x1 x2 : V) : Bool := sgnB n "os" x0 && (isD n x1 && blB x2)
structure spIsTry (K : PySem.W.Frag) (vs : List V) (H : Hp) (Q : VK) (_ : XK) : Prop where
  h : ∃ (n : Int) (v : V), vs = [.int n, v] ∧ ((∃ t, TyX K H v t ∧ PySem.W.kitOne K t (.type "tuple") = some false ∧ Q (.bl false) H) ∨
    (∃ a xs, v = .ref a ∧ SqT K H a xs ∧ xs.length ≠ 3 ∧ Q (.bl false) H) ∨
    ∃ a x0 x1 x2, v = .ref a ∧ SqT K H a [x0, x1, x2] ∧ scV x0 = true ∧ scV x1 = true ∧ scV x2 = true ∧ (∀ y, x0 = .str y → y.length ≤ 1000) ∧ ∀ H', Same H H' → Q (.bl (tryB n x0 x1 x2)) H')
end
end DL

set_option Elab.async false
set_option maxRecDepth 100000

set_option Elab.async false
set_option maxRecDepth 100000
set_option maxHeartbeats 1000000

set_option Elab.async false
set_option maxRecDepth 100000
set_option maxHeartbeats 1000000

set_option Elab.async false
set_option maxRecDepth 100000
set_option maxHeartbeats 1000000
namespace DL
open PySem L2 HT TL
/-! ### standings, patterns, drawers, lengths that are refused, whatever they are -/
def NoStr (K : PySem.W.Frag) (H : Hp) (v : V) : Prop := ∃ t, (∀ H', Same H H' → TyX K H' v t) ∧ PySem.W.kitOne K t (.type "str") = some false
def BadSgn (K : PySem.W.Frag) (z : Str) (H : Hp) (n : Int) (v : V) : Prop := NoStr K H v ∨ ∃ y, v = .str y ∧ y.length ≤ 1000 ∧ sgnB n z (.str y) = false
theorem BadSgn.same {K : PySem.W.Frag} {z : Str} {H H' : Hp} {n : Int} {v : V} (h : BadSgn K z H n v) (s : Same H H') : BadSgn K z H' n v := by
  rcases h with ⟨t, h1, h2⟩ | h
  · exact .inl ⟨t, fun H2 s2 => h1 H2 (s.trans s2), h2⟩
  · exact .inr h
end DL

set_option Elab.async false
set_option maxRecDepth 100000
set_option maxHeartbeats 1000000
namespace DL
open PySem L2 HT TL RZ
/-! ### a dict comprehension by a walk -/
theorem dc_it {J : It} {n : Nat} {G : Hp → Prop} {Y : Nat → Hp → V → Hp → Prop} (w : Walk J n G Y) {g : TG} {tt : TT} {tk tv : TE} {vs : List Nat} {σ : L2.St} {H1 : Hp} {D : Addr} {Qd : Hp → Prop} (Pv : Nat → Hp → Prop) (h0 : Pv 0 (upd H1 D (.dK []))) (hG : ∀ i H, i ≤ n → Pv i H → G H)
    (hs : ∀ i x H H', i < n → Pv i H → Y i H x H' → g x (wipe σ vs) H' fun σ2 H2 => wipe σ2 vs = wipe σ vs ∧ tt σ2 H2 fun b H3 =>
      if b = true then tk σ2 H3 fun y H4 => tv σ2 H4 fun z H5 => ∃ kvs k, y = kV k ∧ H5 D = some (.dK kvs) ∧ kvs.length < sizeLine ∧ Pv (i + 1) (upd H5 D (.dK (putK kvs k z))) else Pv (i + 1) H3) (hd : ∀ H, Pv n H → Qd H) :
    ∃ W : Nat → Nat → Hp → Prop, (∃ m, W 0 m (upd H1 D (.dK []))) ∧ ∀ i m H, W i m H →
      (J.stop i H ∧ Qd H) ∨ (J.go i H ∧ ∃ Nx : Hp → Prop, (∀ H', Nx H' → ∃ m', m' < m ∧ W (i + 1) m' H') ∧ ∀ x H', J.yld i H x H' → g x (wipe σ vs) H' fun σ2 H2 => wipe σ2 vs = wipe σ vs ∧ tt σ2 H2 fun b H3 =>
        if b = true then tk σ2 H3 fun y H4 => tv σ2 H4 fun z H5 => ∃ kvs k, y = kV k ∧ H5 D = some (.dK kvs) ∧ kvs.length < sizeLine ∧ Nx (upd H5 D (.dK (putK kvs k z))) else Nx H3) := by
  refine ⟨fun i m H => m = n - i ∧ i ≤ n ∧ Pv i H, ⟨n, rfl, Nat.zero_le _, h0⟩, ?_⟩
  rintro i m H ⟨em, hi, p⟩
  have q := hG i H hi p
  rcases Nat.lt_or_ge i n with hlt | hge
  · exact .inr ⟨w.goes i H hlt q, Pv (i + 1), fun H' p' => ⟨n - (i + 1), by omega, rfl, hlt, p'⟩, fun x H' y => hs i x H H' hlt p (w.yields i H x H' hlt q y)⟩
  · obtain rfl : i = n := Nat.le_antisymm hi hge
    exact .inl ⟨w.stops H q, hd H p⟩
/-! ### y = {..}, a dict comprehension by itself in a row -/
section
variable {X : Cx}
theorem ps_setDc {j : Nat} {nm : Str} {pn : Pos} {kx vx tg iter : Expr} {ifs : List Expr} {scope : Scope} {own : List (Str × Nat)} {dpos rpos : Pos} {wi : TI} {g : TG} {tt : TT} {tk tv : TE} (calm : X.calm = true) (nd : X.N.Nodup) (at_ : X.N[j]? = some nm) (loc : X.env.scope.names.lookup nm = some .local)
    (sw : swapsWith (.DictComp kx vx [⟨tg, iter, ifs, 0⟩] scope dpos) (some (.Name nm pn)) rpos.line X.env = pure true) (pi : PI X tg iter wi) (bk : BlkOk X.N X.env.scope scope own)
    (gs : ∀ (z : Shared) (Hz : Hp) (Cz : Addr) (cz : List (Str × Addr)) (fz : List Addr), PG (X.blk z Hz scope (compEnvC scope cz Cz X.env) fz) tg g)
    (ts : ∀ (z : Shared) (Hz : Hp) (Cz : Addr) (cz : List (Str × Addr)) (fz : List Addr), PTs (X.blk z Hz scope (compEnvC scope cz Cz X.env) fz) ifs tt)
    (ks : ∀ (z : Shared) (Hz : Hp) (Cz : Addr) (cz : List (Str × Addr)) (fz : List Addr), PE (X.blk z Hz scope (compEnvC scope cz Cz X.env) fz) kx tk)
    (es : ∀ (z : Shared) (Hz : Hp) (Cz : Addr) (cz : List (Str × Addr)) (fz : List Addr), PE (X.blk z Hz scope (compEnvC scope cz Cz X.env) fz) vx tv)
    (fo : ∀ x, foldedSetIterable iter X.env x = pure x := by intro _; rfl) :
    PS X (.Assign [.Name nm pn] (.DictComp kx vx [⟨tg, iter, ifs, 0⟩] scope dpos) rpos) (tAsg (tDc wi g tt tk tv (own.map (·.2))) (gName j)) := by
  constructor
  intro pins s σ H D inv asked
  rw [exec_Assign_Name_used _ _ _ _ sw]
  refine wpAny_bind (wpAny_standAt (wpAny_bind ?_))
  have asked' : tDc wi g tt tk tv (own.map (·.2)) σ H fun v Hv => gName j v σ Hv D.nx := asked
  have body := dc_core (use := some (assign (.Name nm pn) X.env)) (pos := dpos) (pos' := firstIterPos [⟨tg, iter, ifs, 0⟩] dpos) (Qf := fun _ z => SP X pins D .next z) calm nd inv pi bk gs ts ks es fo asked' ?_
  · exact wpAny_bind (thn body fun _ _ hz => wpAny_pure (wpAny_pure hz))
  intro a C s1 m H1 inv1 hq ns fp
  show wpAny _ _ (assign (.Name nm pn) X.env (.ref a)) _ _ _
  refine wpAny_assign_Name (store_ok2 (v := .ref a) inv1 nd at_ (.inl loc) rfl ?_ (.inr loc))
  rintro s2 inv2 ⟨b, keeps, hb⟩
  obtain ⟨p0, p1, p2, p3, p4, p5⟩ := fp
  have nb : C ≠ b := hb.elim (fun z => z ▸ p1) fun z e => p4 nm b z e.symm
  exact ⟨m, ns.sameBut keeps nb, fun h3 k3 => ⟨_, H1, inv2.turned (t' := s2.toks) (fun x o hx e => (k3.2 x hx).trans e) p0 p1 p3 p4 p5, hq⟩⟩
end
/-! ### told standings as keys -/
end DL

set_option Elab.async false
set_option maxRecDepth 100000
set_option maxHeartbeats 1000000
namespace DL
open PySem PySem.Spec PyProof.Rows L2 HT TL
/-! ### list(d.values()) of a dict that is locked -/
section
variable {X : Cx} {e : Expr} {te : TE} {a1 a2 : Pos}
def tVw (te : TE) : TE := fun σ H Q => te σ H fun x H1 => ∃ (d : Addr) (o : Obj) (kvs : List (Key × V)), x = .ref d ∧ H1 d = some (.frz o (.dK kvs)) ∧ ∀ b, H1 b = none → Q (.ref b) (upd H1 b (viewO "dict_values" b d))
theorem pe_vw (he : PE X e te) (hb : attributeBase e "values" X.env (eval e X.env) = eval e X.env := by rfl) (hl : (a1.endLine == a2.line) = true := by rfl) : PE X (.Call (.Attribute e "values" a1) [] [] a2) (tVw te) := by
  constructor
  intro pins s σ H Q I h
  have e0 := he.run pins s σ H _ I h
  refine wpAny_Call_method (id := "dict.values") (T := "dict") hb rfl hl F.plainAttrs_dict F.slot_dict_values F.type_dict_values (thn e0 ?_)
  rintro u t ⟨x, H1, J, rx, d, o, kvs, rfl, hd, q⟩
  have eu : u = Value.ref d := rx
  subst eu
  obtain ⟨hs, _, _, _, _, vs, _, _, _, hm⟩ := J.frzK hd
  have hD := hm.dictOf
  refine ⟨hD.typeIs, hD.mapOf.noDict, ?_⟩
  have J2 := J.laid (t' := t.toks) (fun b o z => (Heap.get?_push_of_some _ z : (t.heap.push (DSub.viewOb "dict_values" d)).get? b = some o)) (Nat.le_refl _) (viewO_ok (P := X.prog) (w := X.w) (T := "dict_values") (d := d) (h := t.heap.push (DSub.viewOb "dict_values" d)) (Heap.get?_push_size _ rfl))
  have z : EP X pins σ Q (.ref t.heap.objs.size) { t with heap := t.heap.push (DSub.viewOb "dict_values" d) } := ⟨.ref t.heap.objs.size, _, J2, rfl, q _ (J.hok.fresh (Nat.le_refl _))⟩
  show wpAny _ _ (callWith a2 (.builtin "dict.values") [.ref d] [] []) _ X.xe t
  exact method_meetsIn F.slot_dict_values F.entry_dict_values rfl (PySem.evalArgs_none ⟨rfl, hD.typeIs, F.args_dict_values_1 _, _, meets_dict_values (mixKind X.prog X.w) d hs, ⟨vs, hD⟩, z⟩)
theorem cr_listVw (calm : X.calm = true) : CallR X (.type "list") (fun xs H Q => ∃ (b d : Addr) (o : Obj) (kvs : List (Key × V)), xs = [.ref b] ∧ H b = some (viewO "dict_values" b d) ∧ H d = some (.frz o (.dK kvs)) ∧ kvs.length ≤ sizeLine ∧
    ∀ l, H l = none → Q (.ref l) (upd H l (.lst (kvs.map Prod.snd)))) := by
  intro pins t σ H xs us Q I r h
  obtain ⟨b, d, o, kvs, rfl, hb, hd, hz, q⟩ := h
  obtain ⟨u, rfl, ru⟩ := vals1 r
  have eu : u = Value.ref b := ru
  subst eu
  obtain ⟨_, _, _, _, ep, vs, _, _, kv, hm⟩ := I.frzK hd
  have hv : t.heap.get? b = some (DSub.viewOb "dict_values" d) := (show ObjOk X.prog X.w H t.heap b (viewO "dict_values" b d) from I.hok b _ hb).1
  have len : kvs.length = vs.length := Paired.length kv
  have src := PySem.W.kdl_values (prog := X.prog) (w := X.w) (r := b) (knd := mixKind X.prog X.w) (kvs := vs) (ep := ep) (d := d)
  refine PySem.W.kdl_call src (I.ok.hd calm) ⟨⟨_, hv, rfl, rfl⟩, hm⟩ (by omega) ?_
  intro h1 k1 xs1 c1 keeps new items
  have n1 : xs1.toList.length = vs.length := by
    rw [Array.length_toList]
    exact items.1
  have rel : Vals (kvs.map Prod.snd) xs1.toList := by
    refine vals_of_at (by rw [List.length_map, n1]; exact len) fun j y u e1 e2 => ?_
    rw [Array.getElem?_toList] at e2
    obtain ⟨k, ek⟩ := items.2 j u e2
    obtain ⟨x, ex, rxu⟩ := KV.at' kv ek
    rw [List.getElem?_map, ex] at e1
    cases e1
    exact rxu
  have J := I.laid (t' := k1) (o := .lst (kvs.map Prod.snd)) keeps (Nat.le_refl _) ⟨by rw [List.length_map]; exact hz, xs1.toList, c1, rel, by rw [Array.toArray_toList]; exact new⟩
  exact ⟨.ref t.heap.objs.size, _, J, rfl, q _ (I.hok.fresh (Nat.le_refl _))⟩
end
end DL

set_option Elab.async false
set_option maxRecDepth 100000
set_option maxHeartbeats 1000000
namespace DL
open PySem L2 HT TL RZ
/-! ### a dict with standings as keys -/
def tabV (rs : List (List Bool)) (f : List Bool → V) : List (Key × V) := rs.map fun st => (.inr (sstr st), f st)
theorem tab_len (rs : List (List Bool)) (f : List Bool → V) : (tabV rs f).length = rs.length := List.length_map ..
theorem tab_snd (rs : List (List Bool)) (f : List Bool → V) : (tabV rs f).map Prod.snd = rs.map f := by unfold tabV; rw [List.map_map]; rfl
theorem tab_get {rs : List (List Bool)} {f : List Bool → V} {i : Nat} {k : Key} {v : V} (h : (tabV rs f)[i]? = some (k, v)) : ∃ st, rs[i]? = some st ∧ k = .inr (sstr st) ∧ v = f st := by
  unfold tabV at h
  rw [List.getElem?_map] at h
  cases e : rs[i]? with
  | none => rw [e] at h; cases h
  | some st =>
    rw [e] at h
    have h : some ((.inr (sstr st) : Key), f st) = some (k, v) := h
    injection h with h
    injection h with h1 h2
    exact ⟨st, rfl, h1.symm, h2.symm⟩
theorem key_ne {a b : List Bool} (h : a ≠ b) : ¬ ((.inr (sstr a) : Key) = .inr (sstr b)) := fun z => h (sstr_inj (by injection z))
theorem tab_val (rs : List (List Bool)) (f : List Bool → V) (st : List Bool) : valV (tabV rs f) (.inr (sstr st)) = if st ∈ rs then some (f st) else none := by
  induction rs with
  | nil => rfl
  | cons a rs ih =>
    by_cases e : a = st
    · subst e
      rw [if_pos List.mem_cons_self]
      exact valV_pos rfl
    · have e2 : valV (tabV (a :: rs) f) (.inr (sstr st)) = valV (tabV rs f) (.inr (sstr st)) := valV_neg (key_ne e)
      rw [e2, ih]
      have : (st ∈ a :: rs) ↔ st ∈ rs := ⟨fun h => (List.mem_cons.mp h).resolve_left fun z => e z.symm, List.mem_cons_of_mem _⟩
      simp only [this]
theorem tab_put {rs : List (List Bool)} {f : List Bool → V} {st : List Bool} {v : V} (h : st ∈ rs) : putK (tabV rs f) (.inr (sstr st)) v = tabV rs fun z => if z = st then v else f z := by
  unfold putK
  rw [if_pos]
  · unfold tabV
    rw [List.map_map]
    refine List.map_congr_left fun z _ => ?_
    show (if (.inr (sstr z) : Key) = .inr (sstr st) then _ else _) = _
    by_cases e : z = st
    · subst e
      show (if (.inr (sstr z) : Key) = .inr (sstr z) then _ else _) = ((.inr (sstr z) : Key), if z = z then v else f z)
      rw [if_pos rfl, if_pos rfl]
    · rw [if_neg (key_ne e)]
      show _ = ((.inr (sstr z) : Key), if z = st then v else f z)
      rw [if_neg e]
  · rw [valV_any, tab_val, if_pos h]
    rfl
theorem tab_snoc {rs : List (List Bool)} {f : List Bool → V} {st : List Bool} {v : V} (h : st ∉ rs) : putK (tabV rs f) (.inr (sstr st)) v = tabV (rs ++ [st]) fun z => if z = st then v else f z := by
  rw [putK_new v (by rw [tab_val, if_neg h])]
  unfold tabV
  rw [List.map_append]
  refine congr (congrArg _ (List.map_congr_left fun z hz => ?_)) ?_
  · have e : z ≠ st := fun e => h (e ▸ hz)
    show _ = ((.inr (sstr z) : Key), if z = st then v else f z)
    rw [if_neg e]
  · show _ = [((.inr (sstr st) : Key), if st = st then v else f st)]
    rw [if_pos rfl]
/-! ### levels of standings, and how often one stands in a level -/
def nextL (bs : List Bar) (st : List Bool) : List (List Bool) := (freeL bs st).map (flip st)
def lvl (bs : List Bar) (n : Nat) : Nat → List (List Bool)
  | 0 => [shutS n]
  | t + 1 => (lvl bs n t).flatMap (nextL bs)
def nSum (l : List Nat) : Nat := l.foldr (· + ·) 0
theorem nSum_add {α : Type} (l : List α) (f g : α → Nat) : nSum (l.map fun x => f x + g x) = nSum (l.map f) + nSum (l.map g) := by
  induction l with
  | nil => rfl
  | cons a l ih =>
    show f a + g a + nSum (l.map fun x => f x + g x) = (f a + nSum (l.map f)) + (g a + nSum (l.map g))
    omega
theorem nSum_zero {α : Type} (l : List α) (f : α → Nat) (h : ∀ x ∈ l, f x = 0) : nSum (l.map f) = 0 := by
  induction l with
  | nil => rfl
  | cons a l ih =>
    have h1 := h a List.mem_cons_self
    have h2 := ih fun x hx => h x (List.mem_cons_of_mem _ hx)
    show f a + nSum (l.map f) = 0
    omega
theorem nSum_one (rs : List (List Bool)) (nd : rs.Nodup) (x : List Bool) (hx : x ∈ rs) (c : List Bool → Nat) : nSum (rs.map fun st => (if st = x then 1 else 0) * c st) = c x := by
  induction rs with
  | nil => cases hx
  | cons a rs ih =>
    show (if a = x then 1 else 0) * c a + nSum (rs.map fun st => (if st = x then 1 else 0) * c st) = c x
    rw [List.nodup_cons] at nd
    by_cases e : a = x
    · subst e
      rw [if_pos rfl, nSum_zero _ _ fun z hz => by
        have : z ≠ a := fun e => nd.1 (e ▸ hz)
        rw [if_neg this, Nat.zero_mul]]
      omega
    · rw [if_neg e, Nat.zero_mul, ih nd.2 ((List.mem_cons.mp hx).resolve_left fun z => e z.symm)]
      omega
theorem nSum_count (rs : List (List Bool)) (nd : rs.Nodup) (c : List Bool → Nat) (L : List (List Bool)) (hL : ∀ x ∈ L, x ∈ rs) : nSum (rs.map fun st => L.count st * c st) = nSum (L.map c) := by
  induction L with
  | nil => exact nSum_zero _ _ fun x _ => by rw [List.count_nil, Nat.zero_mul]
  | cons a L ih =>
    have e : (rs.map fun st => (a :: L).count st * c st) = rs.map fun st => L.count st * c st + (if st = a then 1 else 0) * c st := List.map_congr_left fun z _ => by
      rw [List.count_cons, Nat.add_mul]
      congr 2
      by_cases q : z = a
      · subst q
        simp
      · rw [if_neg q]
        simp [Ne.symm q]
    rw [e, nSum_add, ih fun x hx => hL x (List.mem_cons_of_mem _ hx), nSum_one rs nd a (hL a List.mem_cons_self)]
    show nSum (L.map c) + c a = c a + nSum (L.map c)
    omega
theorem count_flat (L : List (List Bool)) (h : List Bool → List (List Bool)) (b : List Bool) : (L.flatMap h).count b = nSum (L.map fun st => (h st).count b) := by
  induction L with
  | nil => rfl
  | cons a L ih =>
    rw [List.flatMap_cons, List.count_append, ih]
    rfl
theorem len_sum (L : List (List Bool)) : nSum (L.map fun _ => 1) = L.length := by
  induction L with
  | nil => rfl
  | cons a L ih =>
    show 1 + nSum (L.map fun _ => 1) = L.length + 1
    omega
theorem filter_sum (L : List (List Bool)) (p : List Bool → Bool) : nSum (L.map fun st => if p st = true then 1 else 0) = (L.filter p).length := by
  induction L with
  | nil => rfl
  | cons a L ih =>
    show (if p a = true then 1 else 0) + nSum (L.map fun st => if p st = true then 1 else 0) = _
    rw [List.filter_cons]
    by_cases e : p a = true
    · rw [if_pos e, if_pos e, List.length_cons]
      omega
    · rw [if_neg e, if_neg e]
      omega
theorem filter_mul (rs : List (List Bool)) (p : List Bool → Bool) (f : List Bool → Nat) : nSum ((rs.filter p).map f) = nSum (rs.map fun st => f st * (if p st = true then 1 else 0)) := by
  induction rs with
  | nil => rfl
  | cons a L ih =>
    show _ = f a * (if p a = true then 1 else 0) + nSum (L.map fun st => f st * (if p st = true then 1 else 0))
    rw [List.filter_cons]
    by_cases e : p a = true
    · rw [if_pos e, if_pos e, Nat.mul_one, ← ih]
      rfl
    · rw [if_neg e, if_neg e, Nat.mul_zero, Nat.zero_add, ih]
theorem int_sum (l : List Nat) : (l.map fun x : Nat => (x : Int)).sum = (nSum l : Nat) := by
  induction l with
  | nil => rfl
  | cons a l ih =>
    rw [List.map_cons, List.sum_cons, ih]
    show (a : Int) + (nSum l : Nat) = ((a + nSum l : Nat) : Int)
    omega
theorem nSum_snoc (l : List Nat) (x : Nat) : nSum (l ++ [x]) = nSum l + x := by
  induction l with
  | nil => exact Nat.add_comm x 0
  | cons a l ih =>
    show a + nSum (l ++ [x]) = a + nSum l + x
    omega
/-- all standings of a level are reached -/
theorem lvl_in {bs : List Bar} {n : Nat} {rs : List (List Bool)} (root : shutS n ∈ rs) (ex : ∀ st ∈ rs, ∀ d ∈ freeL bs st, flip st d ∈ rs) (t : Nat) : ∀ st ∈ lvl bs n t, st ∈ rs := by
  induction t with
  | zero =>
    intro st h
    rw [List.mem_singleton.mp h]
    exact root
  | succ t ih =>
    intro st h
    obtain ⟨s, hs, hm⟩ := List.mem_flatMap.mp h
    obtain ⟨d, hd, rfl⟩ := List.mem_map.mp hm
    exact ex s (ih s hs) d hd
/-- one level more, counted over the reached standings -/
theorem lvl_next {bs : List Bar} {n : Nat} {rs : List (List Bool)} (nd : rs.Nodup) (root : shutS n ∈ rs) (ex : ∀ st ∈ rs, ∀ d ∈ freeL bs st, flip st d ∈ rs) (t : Nat) (b : List Bool) :
    nSum (rs.map fun st => (lvl bs n t).count st * (nextL bs st).count b) = (lvl bs n (t + 1)).count b := by
  rw [nSum_count rs nd (fun st => (nextL bs st).count b) _ (lvl_in root ex t)]
  exact (count_flat _ _ _).symm
theorem lvl_all {bs : List Bar} {n : Nat} {rs : List (List Bool)} (nd : rs.Nodup) (root : shutS n ∈ rs) (ex : ∀ st ∈ rs, ∀ d ∈ freeL bs st, flip st d ∈ rs) (t : Nat) : nSum (rs.map fun st => (lvl bs n t).count st) = (lvl bs n t).length := by
  have := nSum_count rs nd (fun _ => 1) _ (lvl_in root ex t)
  simp only [Nat.mul_one] at this
  rw [this, len_sum]
theorem lvl_fits {bs : List Bar} {n : Nat} {rs : List (List Bool)} (nd : rs.Nodup) (root : shutS n ∈ rs) (ex : ∀ st ∈ rs, ∀ d ∈ freeL bs st, flip st d ∈ rs) (t : Nat) (p : List Bool → Bool) :
    nSum ((rs.filter p).map fun st => (lvl bs n t).count st) = ((lvl bs n t).filter p).length := by
  rw [filter_mul, nSum_count rs nd (fun st => if p st = true then 1 else 0) _ (lvl_in root ex t), filter_sum]
end DL

set_option Elab.async false
set_option maxRecDepth 100000
set_option maxHeartbeats 2000000
namespace DL
open PySem L2 HT TL RZ
/-! ### o[i] += x of a dict -/
def gDct : V → V → Hp → VK → Prop := fun o i H Q => ∃ a v, o = .ref a ∧ DGet H a i (some v) ∧ Q v H
theorem pget_dct {X : Cx} (hu : X.A.units + 1 < cLine) : PGet X gDct := by
  intro pins s σ H o i ov iv Q I ro ri ⟨a, v, eo, g, q⟩
  subst eo
  have e : ov = Value.ref a := ro
  subst e
  exact d_getItem hu I g ri fun z s2 I2 rz => ⟨v, H, I2, rz, q⟩
theorem none_back {H H' : Hp} {a : Addr} (s : Same H H') (h : H' a = none) : H a = none := by
  cases e : H a with
  | none => rfl
  | some o =>
    rw [s _ _ e] at h
    cases h
/-! ### the pulls of each reached standing -/
structure PulEl (H : Hp) (bs : List Bar) (l : Addr) (st : List Bool) : Prop where
  h : ∃ ts : List (Addr × Int), H l = some (.lst (ts.map fun t => V.ref t.1)) ∧ ts.map (·.2) = freeL bs st ∧ ∀ t ∈ ts, H t.1 = some (.tup [.int t.2, .str (sstr (flip st t.2))])
theorem PulEl.mono {H H' : Hp} {bs : List Bar} {l : Addr} {st : List Bool} (p : PulEl H bs l st) (h1 : ∀ b xs, H b = some (.lst xs) → H' b = some (.lst xs)) (h2 : ∀ b xs, H b = some (.tup xs) → H' b = some (.tup xs)) : PulEl H' bs l st := by
  obtain ⟨ts, a, b, c⟩ := p.h
  exact ⟨⟨ts, h1 _ _ a, b, fun t ht => h2 _ _ (c t ht)⟩⟩
theorem PulEl.same {H H' : Hp} {bs : List Bar} {l : Addr} {st : List Bool} (p : PulEl H bs l st) (s : Same H H') : PulEl H' bs l st := p.mono (fun _ _ => s _ _) fun _ _ => s _ _
theorem PulEl.upd {H : Hp} {bs : List Bar} {l D : Addr} {st : List Bool} {o : HO} {kvs : List (Key × V)} (p : PulEl H bs l st) (hD : H D = some (.dK kvs)) : PulEl (upd H D o) bs l st := by
  refine p.mono (fun b xs h => ?_) fun b xs h => ?_
  · rw [upd_ne (ne_of h hD (by intro z; cases z))]
    exact h
  · rw [upd_ne (ne_of h hD (by intro z; cases z))]
    exact h
structure Reach (bs : List Bar) (n : Nat) (rs : List (List Bool)) : Prop where
  nd : rs.Nodup
  root : shutS n ∈ rs
  len : ∀ st ∈ rs, st.length = n
  ex : ∀ st ∈ rs, ∀ d ∈ freeL bs st, flip st d ∈ rs
  few : rs.length ≤ 128
  hd : rs[0]? = some (shutS n)
def PulsAt (H : Hp) (bs : List Bar) (rs : List (List Bool)) (f : List Bool → V) : Prop := ∀ st ∈ rs, ∃ l, f st = .ref l ∧ PulEl H bs l st
theorem PulsAt.same {H H' : Hp} {bs : List Bar} {rs : List (List Bool)} {f : List Bool → V} (p : PulsAt H bs rs f) (s : Same H H') : PulsAt H' bs rs f := fun st h => by
  obtain ⟨l, e, q⟩ := p st h
  exact ⟨l, e, q.same s⟩
theorem PulsAt.upd {H : Hp} {bs : List Bar} {rs : List (List Bool)} {f : List Bool → V} {D : Addr} {o : HO} {kvs : List (Key × V)} (p : PulsAt H bs rs f) (hD : H D = some (.dK kvs)) : PulsAt (upd H D o) bs rs f := fun st h => by
  obtain ⟨l, e, q⟩ := p st h
  exact ⟨l, e, q.upd hD⟩
/-- what the ledger of the first rows reaches -/
theorem reach_of {bs : List Bar} {n : Nat} {es : List Ent} (I : BI bs (shutS n) es.length es) (n7 : n ≤ 7) : Reach bs n (es.map (·.1)) := by
  have hshut : (shutS n).length = n := List.length_replicate
  have hf := led_few I.nd I.led (by rw [hshut]; exact n7)
  refine ⟨I.nd, List.mem_map_of_mem (f := (·.1)) I.root, fun st h => ?_, fun st h d hd => ?_, by rw [List.length_map]; exact hf, ?_⟩
  · obtain ⟨e, he, rfl⟩ := List.mem_map.mp h
    rw [(I.led e he).2.2, hshut]
  · obtain ⟨e, he, rfl⟩ := List.mem_map.mp h
    obtain ⟨j, hj⟩ := List.getElem?_of_mem he
    obtain ⟨e', he', q, _⟩ := I.ex j e (List.getElem?_eq_some_iff.mp hj).1 hj d hd
    rw [← q]
    exact List.mem_map_of_mem (f := (·.1)) he'
  · have hr := I.root
    have hp := I.asc.pw
    have hl := I.asc.low
    cases es with
    | nil => cases hr
    | cons e es =>
      rcases List.mem_cons.mp hr with h | h
      · rw [← h]
        rfl
      · exfalso
        rw [List.map_cons, List.pairwise_cons] at hp
        have h1 := (hp.1 [] (List.mem_map.mpr ⟨_, h, rfl⟩)).1
        have h2 := rcode_nn (hl e.2 (by simp))
        rw [rcode_nil] at h1
        omega
structure spPulls (C : Addr) (vs : List V) (H : Hp) (Q : VK) (_ : XK) : Prop where
  h : ∃ (c : Addr) (bs : List Bar) (n : Nat), vs = [.ref c] ∧ CabOk C H c n bs ∧
    ∀ (a : Addr) (rs : List (List Bool)) (f : List Bool → V) (H' : Hp), H a = none → Same H H' → H' a = some (.dK (tabV rs f)) → Reach bs n rs → PulsAt H' bs rs f → Q (.ref a) H'
section
variable {P : Program} {w : World} {K : PySem.W.Frag} {mg : Str → Option Value} {base : Heap}
abbrev nRP : List Str := ["cabinet", "standing", "drawer"]
theorem scRP : FnScope nRP ["cabinet"] (defScope s_reached_pulls) := ⟨rfl, rfl, rfl, by decide +kernel, rfl, by decide +kernel, by decide +kernel⟩
theorem ok_reachedPulls {f f1 f2 f3 C : Addr} {fd fd1 fd2 fd3 : FuncData} (F : Fun K "reached_pulls" "reached_pulls" s_reached_pulls f fd)
    (G1 : FnOk P w K mg base CX0 12 f1 fd1 ["cabinet"] (spFirstRows C)) (g1 : mg "first_rows" = some (.ref f1)) (k1 : PySem.W.keepIn K (.ref f1) = true) (b1 : Binds K fd1 ["cabinet"] [])
    (G2 : FnOk P w K mg base CX0 8 f2 fd2 ["cabinet", "standing"] (spFreeDrawers C)) (g2 : mg "free_drawers" = some (.ref f2)) (k2 : PySem.W.keepIn K (.ref f2) = true) (b2 : Binds K fd2 ["cabinet", "standing"] [])
    (G3 : FnOk P w K mg base CX0 1 f3 fd3 ["standing", "drawer"] spMoved) (g3 : mg "moved" = some (.ref f3)) (k3 : PySem.W.keepIn K (.ref f3) = true) (b3 : Binds K fd3 ["standing", "drawer"] []) :
    FnOk P w K mg base CX0 14 f fd ["cabinet"] (spPulls C) := by
  refine F.ok scRP (fun vs H Q E h => ?_) (fun cdv A outer s H vs Q E hr h => ?_)
  · obtain ⟨c, bs, n, rfl, _⟩ := h.h
    rfl
  · obtain ⟨c, bs, n, rfl, B, k⟩ := h.h
    obtain ⟨t, hc, n7⟩ := B.cab
    refine ⟨_, pss_one (ps_ret (pe_dc (own := [("standing", 1)]) (g := gName 1) (tt := tYes) (by rfl) scRP.nd (pi_keys (pe_frz (pe_call G1 (hr.mono (by decide)) rfl g1 k1 b1 .nil pass0 (pa_cons (pv 0) pa_nil)))) (blkOk_by (N := nRP) (sc := defScope s_reached_pulls) (by decide +kernel))
      (fun _ _ _ _ _ => pg_name (i := 1) scRP.nd rfl (Or.inr rfl)) (fun _ _ _ _ _ => pts_nil) (fun _ _ _ _ _ => pv 1)
      (fun _ _ _ _ _ => by exact (pe_lc (own := [("drawer", 2)]) (g := gName 2) (tt := tYes) (by rfl) scRP.nd (pi_listK (K := K) rfl (pe_call G2 (hr.mono (by decide)) rfl g2 k2 b2 .nil pass0 (pa_cons (pv 0) (pa_cons (pv 1) pa_nil)))) (blkOk_by (N := nRP) (by rfl)) (fun _ _ _ _ _ => pg_name (i := 2) scRP.nd rfl (Or.inl rfl)) (fun _ _ _ _ _ => pts_nil)
        (fun _ _ _ _ _ => pe_tup (pa_cons (pv 2) (pa_cons (pe_call G3 (hr.mono (by decide)) rfl g3 k3 b3 .nil pass0 (pa_cons (pv 1) (pa_cons (pv 2) pa_nil))) pa_nil))))))), ?_⟩
    refine ⟨_, rfl, ⟨⟨c, bs, n, rfl, B, fun a ks H1 ha s1 hA hE I => ?_⟩⟩⟩
    have I' : BI bs (shutS n) (ks.map (·.2)).length (ks.map (·.2)) := by rw [List.length_map]; exact I
    have RR := reach_of I' (by omega)
    rw [List.map_map] at RR
    refine ⟨a, _, rfl, hA, trivial, fun od => ?_⟩
    obtain ⟨s2, R2⟩ := rows_lock od ha s1 hA hE
    generalize (upd H1 a (.frz od (.dK (kvsOf ks)))) = H2 at s2 R2 ⊢
    refine ⟨a, od, rfl, .inl ⟨_, R2.at', fun D hD => ?_⟩⟩
    have B2 := B.same s2
    refine dc_it walk_keysE (fun i H' => Same H2 H' ∧ ∃ f : List Bool → V, H' D = some (.dK (tabV ((ks.take i).map fun k => k.2.1) f)) ∧ PulsAt H' bs ((ks.take i).map fun k => k.2.1) f) ⟨same_upd hD, fun _ => .non, upd_same, fun st h => by cases h⟩ (fun i H' _ q => q.1 _ _ R2.at') ?_ ?_
    · rintro i x H3 H3' hi ⟨s3, f, hD3, hf⟩ ⟨rfl, kk, ek, rfl⟩
      obtain ⟨hil, ei⟩ := List.getElem?_eq_some_iff.mp ek
      have hm : kk ∈ ks := List.mem_of_getElem? ek
      have hmr : kk.2.1 ∈ ks.map ((fun e : Ent => e.1) ∘ fun k : KEnt => k.2) := List.mem_map.mpr ⟨kk, hm, rfl⟩
      have hst : kk.2.1.length = n := RR.len _ hmr
      have htk : ((ks.take (i + 1)).map fun k => k.2.1) = ((ks.take i).map fun k => k.2.1) ++ [kk.2.1] := by
        rw [List.take_succ_eq_append_getElem hil, List.map_append, ei]
        rfl
      have hni : kk.2.1 ∉ (ks.take i).map fun k => k.2.1 := by
        have nd := RR.nd
        have : ((ks.take (i + 1)).map fun k => k.2.1).Nodup := nd.sublist ((List.take_sublist _ _).map _)
        rw [htk, List.nodup_append] at this
        intro h
        exact this.2.2 _ h _ (List.mem_singleton.mpr rfl) rfl
      refine ⟨rfl, tYes_of (iteT ?_)⟩
      refine ⟨_, rfl, ?_⟩
      refine ⟨_, rfl, _, rfl, ⟨⟨c, bs, kk.2.1, rfl, by rw [hst]; exact B2.same s3, fun q H5 hq s5 h5 => ?_⟩⟩⟩
      refine ⟨q, rfl, ⟨_, SqL.of h5⟩, fun D2 hD2 => ?_⟩
      refine lc_list (K := K) (a := q) (xs := (freeL bs kk.2.1).map V.int) (fun m H' => Same H5 H' ∧ ∃ ts : List (Addr × Int), H' D2 = some (.lst (ts.map fun t => V.ref t.1)) ∧ ts.map (·.2) = (freeL bs kk.2.1).take m ∧ ∀ t ∈ ts, H' t.1 = some (.tup [.int t.2, .str (sstr (flip kk.2.1 t.2))]))
        ⟨same_upd hD2, [], upd_same, rfl, fun t ht => by cases ht⟩ (fun m H' _ q => SqL.of (q.1 _ _ h5)) ?_ ?_
      · rintro m x H6 hx ⟨s6, ts, hD6, et, ht⟩
        rw [List.getElem?_map] at hx
        cases ed : (freeL bs kk.2.1)[m]? with
        | none => rw [ed] at hx; cases hx
        | some d =>
          rw [ed] at hx
          cases hx
          have hdm := List.mem_of_getElem? ed
          obtain ⟨⟨d0, d1⟩, _⟩ := free_mem.mp hdm
          obtain ⟨hml, em⟩ := List.getElem?_eq_some_iff.mp ed
          have hfl := free_len bs kk.2.1
          have tsl : ts.length = m := by
            have := congrArg List.length et
            rw [List.length_map, List.length_take] at this
            omega
          refine ⟨rfl, tYes_of (iteT ?_)⟩
          refine ⟨_, rfl, _, rfl, _, rfl, ⟨⟨kk.2.1, d, rfl, by omega, d0, d1, fun H7 s7 => ?_⟩⟩⟩
          refine ⟨(by show 2 ≤ sizeLine; decide), fun t7 nt7 => ?_⟩
          obtain ⟨s8, f8⟩ := new_at (o := .tup [V.int d, .str (sstr (flip kk.2.1 d))]) nt7
          generalize upd H7 t7 (.tup [V.int d, .str (sstr (flip kk.2.1 d))]) = H8 at s8 f8 ⊢
          have s68 := s7.trans s8
          have hD8 := s68 _ _ hD6
          refine ⟨_, hD8, by rw [List.length_map]; exact small1000 (by omega), fun b o e => ?_, ts ++ [(t7, d)], ?_, ?_, fun t ht' => ?_⟩
          · rw [upd_ne (ne_of_none e hD2)]
            exact s68 _ _ (s6 b o e)
          · rw [upd_same, List.map_append]
            rfl
          · rw [List.map_append, et, List.take_succ_eq_append_getElem hml, em]
            rfl
          · rcases List.mem_append.mp ht' with h | h
            · have e := s68 _ _ (ht t h)
              rw [upd_ne (ne_of e hD8 (by intro z; cases z))]
              exact e
            · rw [List.mem_singleton.mp h]
              rw [upd_ne (ne_of f8 hD8 (by intro z; cases z))]
              exact f8
      · rintro H6 ⟨s6, ts, hD6, et, ht⟩
        rw [List.length_map, List.take_length] at et
        have s36 := s5.trans s6
        have hD36 := s36 _ _ hD3
        have hfew := RR.few
        rw [List.length_map] at hfew
        have el : PulEl H6 bs D2 kk.2.1 := ⟨⟨ts, hD6, et, ht⟩⟩
        refine ⟨_, .inr (sstr kk.2.1), rfl, hD36, by rw [tab_len, List.length_map, List.length_take]; exact small1000 (by omega), fun b o e => ?_, fun z => if z = kk.2.1 then .ref D2 else f z, ?_, ?_⟩
        · rw [upd_ne (ne_of_none e hD)]
          exact s36 _ _ (s3 b o e)
        · rw [upd_same, htk, tab_snoc hni]
        · rw [htk]
          intro st hst'
          rcases List.mem_append.mp hst' with h | h
          · have e : st ≠ kk.2.1 := fun e => hni (e ▸ h)
            obtain ⟨l, e1, e2⟩ := hf.same s36 st h
            exact ⟨l, by show (if st = kk.2.1 then V.ref D2 else f st) = _; rw [if_neg e]; exact e1, e2.upd hD36⟩
          · rw [List.mem_singleton.mp h]
            exact ⟨D2, if_pos rfl, el.upd hD36⟩
    · rintro H3 ⟨s3, f, hD3, hf⟩
      rw [List.take_length] at hD3 hf
      exact k D _ f H3 (none_back s2 hD) (s2.trans s3) hD3 RR hf
end
end DL

set_option Elab.async false
set_option maxRecDepth 100000
set_option maxHeartbeats 2000000
namespace DL
open PySem L2 HT TL RZ
theorem nSum_take {α : Type} (l : List α) (f : α → Nat) {i : Nat} {x : α} (h : l[i]? = some x) : nSum ((l.take (i + 1)).map f) = nSum ((l.take i).map f) + f x := by
  obtain ⟨hi, e⟩ := List.getElem?_eq_some_iff.mp h
  rw [List.take_succ_eq_append_getElem hi, List.map_append, e]
  exact nSum_snoc _ _
theorem count_take {l : List (List Bool)} {i : Nat} {x : List Bool} (b : List Bool) (h : l[i]? = some x) : (l.take (i + 1)).count b = (l.take i).count b + (if x = b then 1 else 0) := by
  obtain ⟨hi, e⟩ := List.getElem?_eq_some_iff.mp h
  rw [List.take_succ_eq_append_getElem hi, List.count_append, e, List.count_cons, List.count_nil]
  by_cases q : x = b
  · subst q
    simp
  · simp [q]
theorem walk_itemsT {d : Addr} {o : Obj} {rs : List (List Bool)} {f : List Bool → V} : Walk (Iti d o (tabV rs f)) rs.length (fun H => H d = some (.frz o (.dK (tabV rs f)))) (fun i H x H' => ∃ (T : Addr) (st : List Bool), x = .ref T ∧ H T = none ∧ H' = upd H T (.tup [.str (sstr st), f st]) ∧ rs[i]? = some st) := by
  rw [← tab_len rs f]
  refine (walk_items (d := d) (o := o) (kvs := tabV rs f)).mono (fun H h => h) fun i H x H' _ _ y => ?_
  obtain ⟨T, u, v, ex, hT, eH, h1, h2⟩ := y
  have h1 : (tabV rs f)[i]?.map (fun kv => kV kv.1) = some u := h1
  have h2 : (tabV rs f)[i]?.map Prod.snd = some v := h2
  cases e : (tabV rs f)[i]? with
  | none => rw [e] at h1; cases h1
  | some p =>
    obtain ⟨a, b⟩ := p
    rw [e] at h1 h2
    obtain ⟨st, e1, rfl, rfl⟩ := tab_get e
    cases h1
    cases h2
    exact ⟨T, st, ex, hT, eH, e1⟩
def cnV (g : List Bool → Nat) : List Bool → V := fun st => .int (g st : Nat)
structure spCtBeh (vs : List V) (H : Hp) (Q : VK) (_ : XK) : Prop where
  h : ∃ (p q : Addr) (od : Obj) (bs : List Bar) (n : Nat) (rs : List (List Bool)) (f : List Bool → V) (g : List Bool → Nat), vs = [.ref p, .ref q] ∧ n ≤ 7 ∧ H p = some (.frz od (.dK (tabV rs f))) ∧ Reach bs n rs ∧ PulsAt H bs rs f ∧ H q = some (.dK (tabV rs (cnV g))) ∧
    ∀ (a : Addr) (H' : Hp), H a = none → H' a = some (.dK (tabV rs (cnV fun b => nSum (rs.map fun st => g st * (nextL bs st).count b)))) → But q H H' → Q (.ref a) H'
section
variable {P : Program} {w : World} {K : PySem.W.Frag} {mg : Str → Option Value} {base : Heap}
abbrev nCB : List Str := ["pulls", "counts", "standing", "longer", "many", "_", "beyond"]
theorem scCB : FnScope nCB ["pulls", "counts"] (defScope s_counts_behind) := ⟨rfl, rfl, rfl, by decide +kernel, rfl, by decide +kernel, by decide +kernel⟩
theorem ok_countsBehind {f : Addr} {fd : FuncData} (F : Fun K "counts_behind" "counts_behind" s_counts_behind f fd) :
    FnOk P w K mg base CX0 1 f fd ["pulls", "counts"] spCtBeh := by
  refine F.ok scCB (fun vs H Q E h => ?_) (fun cdv A outer s H vs Q E hr h => ?_)
  · obtain ⟨p, q, _, _, _, _, _, _, rfl, _⟩ := h.h
    rfl
  · obtain ⟨p, q, od, bs, n, rs, f, g, rfl, n7, hp, RR, PA, hq, k⟩ := h.h
    have hu := hu_of hr
    refine ⟨_, pss_cons (ps_setDc (j := 3) (own := [("standing", 2)]) (g := gName 2) (tt := tYes) (by rfl) scCB.nd rfl rfl (by rfl) (pi_keys (pv 0)) (blkOk_by (N := nCB) (sc := defScope s_counts_behind) (by decide +kernel)) (fun _ _ _ _ _ => pg_name (i := 2) scCB.nd rfl (Or.inl rfl)) (fun _ _ _ _ _ => pts_nil) (fun _ _ _ _ _ => pv 2) (fun _ _ _ _ _ => pe_int))
      (pss_cons (ps_for PassesOwn.never rfl (pi_items (pe_frz (pv 1))) (pg_tup (by rfl) (pgs_cons (pg_name (i := 2) scCB.nd rfl (Or.inl rfl)) (pgs_cons (pg_name (i := 4) scCB.nd rfl (Or.inl rfl)) pgs_nil)))
        (pss_one (ps_for PassesOwn.never rfl (pi_list (pe_dget hu (pv 0) (pv 2) (fun _ _ => rfl))) (pg_tup (by rfl) (pgs_cons (pg_name (i := 5) scCB.nd rfl (Or.inl rfl)) (pgs_cons (pg_name (i := 6) scCB.nd rfl (Or.inl rfl)) pgs_nil)))
          (pss_one (ps_augS (pv 3) (pv 6) (pget_dct hu) (pv 4) ip_add (set_dict hu))))))
      (pss_one (ps_ret (pv 3)))), ?_⟩
    refine ⟨_, rfl, p, od, rfl, .inl ⟨_, hp, fun D hD => ?_⟩⟩
    have hfew := RR.few
    refine dc_it (walk_keys (d := p) (o := od) (kvs := tabV rs f)) (fun i H' => Same H H' ∧ H' D = some (.dK (tabV (rs.take i) (cnV fun _ => 0)))) ⟨same_upd hD, upd_same⟩ (fun i H' _ z => z.1 _ _ hp) ?_ ?_
    · rintro i x H3 H3' hi ⟨s3, hD3⟩ ⟨rfl, key, v, ekv, rfl⟩
      obtain ⟨st, est, rfl, rfl⟩ := tab_get ekv
      obtain ⟨hil, e⟩ := List.getElem?_eq_some_iff.mp est
      have htk : rs.take (i + 1) = rs.take i ++ [st] := by rw [List.take_succ_eq_append_getElem hil, e]
      have hni : st ∉ rs.take i := by
        have : (rs.take (i + 1)).Nodup := RR.nd.sublist (List.take_sublist _ _)
        rw [htk, List.nodup_append] at this
        intro h
        exact this.2.2 _ h _ (List.mem_singleton.mpr rfl) rfl
      refine ⟨rfl, tYes_of (iteT ?_)⟩
      refine ⟨_, rfl, _, .inr (sstr st), rfl, hD3, by rw [tab_len, List.length_take]; exact small1000 (by omega), fun b o e => ?_, ?_⟩
      · rw [upd_ne (ne_of_none e hD)]
        exact s3 b o e
      · rw [upd_same, htk, tab_snoc hni]
        refine congrArg some (congrArg HO.dK ?_)
        unfold tabV
        refine List.map_congr_left fun z _ => ?_
        show ((.inr (sstr z) : Key), if z = st then (.int 0) else cnV (fun _ => 0) z) = (_, cnV (fun _ => 0) z)
        by_cases ez : z = st
        · rw [if_pos ez]
          rfl
        · rw [if_neg ez]
    · rintro H3 ⟨s3, hD3⟩
      rw [tab_len, List.take_length] at hD3
      have hq3 := s3 _ _ hq
      have hDq : D ≠ q := (ne_of_none hq hD).symm
      have hDp : D ≠ p := (ne_of_none hp hD).symm
      have hpq : p ≠ q := ne_of hp hq (by intro z; cases z)
      refine ⟨_, rfl, q, _, rfl, hq3, trivial, fun oq => ?_⟩
      have hq4 : (upd H3 q (.frz oq (.dK (tabV rs (cnV g))))) q = some (.frz oq (.dK (tabV rs (cnV g)))) := upd_same
      have hp4 : (upd H3 q (.frz oq (.dK (tabV rs (cnV g))))) p = some (.frz od (.dK (tabV rs f))) := by
        rw [upd_ne hpq]
        exact s3 _ _ hp
      have hD4 : (upd H3 q (.frz oq (.dK (tabV rs (cnV g))))) D = some (.dK (tabV rs (cnV fun _ => 0))) := by
        rw [upd_ne hDq]
        exact hD3
      have PA4 : PulsAt (upd H3 q (.frz oq (.dK (tabV rs (cnV g))))) bs rs f := (PA.same s3).upd hq3
      have B4 : But q H (upd H3 q (.frz oq (.dK (tabV rs (cnV g))))) := fun b o hb e => by
        rw [upd_ne hb]
        exact s3 b o e
      generalize (upd H3 q (.frz oq (.dK (tabV rs (cnV g))))) = H4 at hq4 hp4 hD4 PA4 B4 ⊢
      refine ⟨q, oq, _, rfl, hq4, ?_⟩
      refine for_it walk_itemsT (fun i σ H' => (∃ u2 u4 u5 u6 : Option V, σ = [some (.ref p), some (.ref q), u2, some (.ref D), u4, u5, u6]) ∧ But D H4 H' ∧ H' D = some (.dK (tabV rs (cnV fun b => nSum ((rs.take i).map fun st => g st * (nextL bs st).count b)))))
        ⟨⟨_, _, _, _, rfl⟩, But.refl _ _, hD4⟩ (fun i σ H' _ z => z.2.1 _ _ hDq.symm hq4) ?_ ?_
      · rintro i x σ H5 H6 hi ⟨⟨u2, u4, u5, u6, rfl⟩, B5, hD5⟩ ⟨T', st, rfl, hT, rfl, est⟩
        have hm : st ∈ rs := List.mem_of_getElem? est
        obtain ⟨s6, f6⟩ := new_at (o := .tup [.str (sstr st), cnV g st]) hT
        generalize upd H5 T' (.tup [.str (sstr st), cnV g st]) = H6 at s6 f6 ⊢
        refine ⟨T', _, rfl, SqT.of' f6, rfl, _, _, rfl, _, _, rfl, rfl, ?_⟩
        have B6 := B5.trans (sbut s6)
        have hD6 := s6 _ _ hD5
        have hp6 := B6 _ _ hDp.symm hp4
        obtain ⟨l, el, pl⟩ := PA4 st hm
        obtain ⟨ts, hl4, ets, hts⟩ := pl.h
        have hl6 := B6 _ _ (ne_of hl4 hD4 (by intro z; cases z)) hl4
        have dg := dget_frz (.inr (sstr st)) hp6
        rw [tab_val, if_pos hm, el] at dg
        refine ⟨_, rfl, _, rfl, p, _, rfl, dg, l, rfl, ⟨_, SqL.of hl6⟩, ?_⟩
        refine for_list (K := K) (a := l) (xs := ts.map fun t => V.ref t.1) (fun m σ H' => (∃ u5 u6 : Option V, σ = [some (.ref p), some (.ref q), some (.str (sstr st)), some (.ref D), some (cnV g st), u5, u6]) ∧ But D H4 H' ∧
            H' D = some (.dK (tabV rs (cnV fun b => nSum ((rs.take i).map fun st => g st * (nextL bs st).count b) + g st * ((nextL bs st).take m).count b))))
          ⟨⟨_, _, rfl⟩, B6, hD6⟩ (fun m σ H' _ z => SqL.of (z.2.1 _ _ (ne_of hl4 hD4 (by intro z; cases z)) hl4)) ?_ ?_
        · rintro m x σ H7 hx ⟨⟨u5, u6, rfl⟩, B7, hD7⟩
          rw [List.getElem?_map] at hx
          cases et : ts[m]? with
          | none => rw [et] at hx; cases hx
          | some t =>
            rw [et] at hx
            cases hx
            have htm := List.mem_of_getElem? et
            have ht4 := hts t htm
            have ht7 := B7 _ _ (ne_of ht4 hD4 (by intro z; cases z)) ht4
            have en : (nextL bs st)[m]? = some (flip st t.2) := by
              unfold nextL
              rw [← ets, List.map_map, List.getElem?_map, et]
              rfl
            have hb : flip st t.2 ∈ rs := RR.ex st hm t.2 (by rw [← ets]; exact List.mem_map_of_mem (f := (·.2)) htm)
            refine ⟨t.1, _, rfl, SqT.of' ht7, rfl, _, _, rfl, _, _, rfl, rfl, ?_⟩
            have dg7 := DGet.k (k := .inr (sstr (flip st t.2))) hD7
            rw [tab_val, if_pos hb] at dg7
            refine ⟨_, rfl, _, rfl, D, _, rfl, dg7, _, rfl, _, _, rfl, rfl, D, _, rfl, DPut.k (k := .inr (sstr (flip st t.2))) hD7 (by rw [tab_len]; exact small1000 (by omega)), ?_⟩
            refine ⟨⟨_, _, rfl⟩, fun b o hbD e => ?_, ?_⟩
            · rw [upd_ne hbD]
              exact B7 b o hbD e
            · rw [upd_same, tab_put hb]
              refine congrArg some (congrArg HO.dK ?_)
              unfold tabV
              refine List.map_congr_left fun z _ => congrArg (Prod.mk _) ?_
              simp only [cnV]
              rw [count_take z en]
              by_cases ez : z = flip st t.2
              · subst ez
                rw [if_pos rfl, if_pos rfl, Nat.mul_add, Nat.mul_one]
                refine congrArg V.int ?_
                omega
              · rw [if_neg ez, if_neg (fun h => ez h.symm), Nat.add_zero]
        · rintro σ H7 ⟨⟨u5, u6, rfl⟩, B7, hD7⟩
          refine ⟨⟨_, _, _, _, rfl⟩, B7, ?_⟩
          rw [hD7]
          refine congrArg some (congrArg HO.dK (congrArg (tabV rs) (congrArg cnV (funext fun b => ?_))))
          rw [nSum_take _ _ est, List.length_map, List.take_of_length_le (l := nextL bs st)]
          unfold nextL
          rw [List.length_map, ← ets, List.length_map]
          exact Nat.le_refl _
      · rintro σ H5 ⟨⟨u2, u4, u5, u6, rfl⟩, B5, hD5⟩
        rw [List.take_length] at hD5
        refine ⟨_, rfl, k D H5 hD hD5 fun b o hb e => B5 b o ?_ (B4 b o hb e)⟩
        exact ne_of_none e hD
end
end DL

set_option Elab.async false
set_option maxRecDepth 100000
set_option maxHeartbeats 2000000
namespace DL
open PySem L2 HT TL RZ
structure spCkNum0 (vs : List V) (H : Hp) (Q : VK) (_ : XK) : Prop where
  h : ∃ i lo m : Int, vs = [.int i, .int lo, .int m] ∧ lo ≤ i ∧ i ≤ m ∧ Q .non H
structure spByEnd (C : Addr) (vs : List V) (H : Hp) (Q : VK) (_ : XK) : Prop where
  h : ∃ (c : Addr) (bs : List Bar) (n t : Nat), vs = [.ref c, .int t] ∧ CabOk C H c n bs ∧ t ≤ 60 ∧
    ∀ (a : Addr) (rs : List (List Bool)) (H' : Hp), H a = none → Same H H' → H' a = some (.dK (tabV rs (cnV fun b => (lvl bs n t).count b))) → Reach bs n rs → Q (.ref a) H'
structure spCtRows (C : Addr) (vs : List V) (H : Hp) (Q : VK) (_ : XK) : Prop where
  h : ∃ (c : Addr) (bs : List Bar) (n t : Nat), vs = [.ref c, .int t] ∧ CabOk C H c n bs ∧ t ≤ 60 ∧ ∀ H', Same H H' → Q (.int ((lvl bs n t).length : Nat)) H'
structure spCtTo (C : Addr) (vs : List V) (H : Hp) (Q : VK) (_ : XK) : Prop where
  h : ∃ (c : Addr) (bs : List Bar) (t : Nat) (cs : List Nat), vs = [.ref c, .int t, .str (pstr cs)] ∧ CabOk C H c cs.length bs ∧ PatOk cs ∧ t ≤ 60 ∧ ∀ H', Same H H' → Q (.int (((lvl bs cs.length t).filter fun st => fitB st cs).length : Nat)) H'
section
variable {P : Program} {w : World} {K : PySem.W.Frag} {mg : Str → Option Value} {base : Heap}
theorem scCkNum0 : FnScope ["value", "least", "most"] ["value", "least", "most"] (defScope s_check_number) := ⟨rfl, rfl, rfl, by decide +kernel, rfl, by decide +kernel, by decide +kernel⟩
theorem ok_ckNum0 {f f1 : Addr} {fd fd1 : FuncData} (F : Fun K "check_number" "check_number" s_check_number f fd)
    (G : FnOk P w K mg base CX0 1 f1 fd1 ["value"] (spIsInt K)) (g1 : mg "is_integer" = some (.ref f1)) (k1 : PySem.W.keepIn K (.ref f1) = true) (b1 : Binds K fd1 ["value"] []) :
    FnOk P w K mg base CX0 2 f fd ["value", "least", "most"] spCkNum0 := by
  refine F.ok scCkNum0 (fun vs H Q E h => ?_) (fun cdv A outer s H vs Q E hr h => ?_)
  · obtain ⟨i, lo, m, rfl, _⟩ := h.h
    rfl
  · obtain ⟨i, lo, m, rfl, i0, im, k⟩ := h.h
    refine ⟨_, pss_one (ps_if (PW.pt (pw_or (pt_not (pt_val (pe_call G (hr.mono (by decide)) rfl g1 k1 b1 .nil pass0 (pa_cons (pv 0) pa_nil)))) (pw_or1 (pt_not (pt_chain op_le op_le (pv 1) (pv 0) (pv 2)))))) (pss_one ps_never) pss_nil), ?_⟩
    refine ⟨_, rfl, ⟨.int i, .type "int", true, false, rfl, .base (.int i), kit_ty (by decide +kernel), kit_ty (by decide +kernel), _, rfl, iteF ?_⟩⟩
    refine ⟨_, rfl, _, rfl, _, _, rfl, rfl, _, rfl, ?_⟩
    rw [decide_eq_true i0]
    refine iteT ⟨_, rfl, _, _, rfl, rfl, _, rfl, ?_⟩
    rw [decide_eq_true im]
    exact iteF k
abbrev nCE : List Str := ["cabinet", "length", "pulls", "counts", "_", "standing"]
theorem scCE : FnScope nCE ["cabinet", "length"] (defScope s_counts_by_end) := ⟨rfl, rfl, rfl, by decide +kernel, rfl, by decide +kernel, by decide +kernel⟩
theorem ok_countsByEnd {f f1 f2 f3 C : Addr} {fd fd1 fd2 fd3 : FuncData} (F : Fun K "counts_by_end" "counts_by_end" s_counts_by_end f fd) (T : Bt mg) (CP : CabP P w K mg base C)
    (G1 : FnOk P w K mg base CX0 14 f1 fd1 ["cabinet"] (spPulls C)) (g1 : mg "reached_pulls" = some (.ref f1)) (k1 : PySem.W.keepIn K (.ref f1) = true) (b1 : Binds K fd1 ["cabinet"] [])
    (G2 : FnOk P w K mg base CX0 1 f2 fd2 ["drawers"] spFirst) (g2 : mg "first_standing" = some (.ref f2)) (k2 : PySem.W.keepIn K (.ref f2) = true) (b2 : Binds K fd2 ["drawers"] [])
    (G3 : FnOk P w K mg base CX0 1 f3 fd3 ["pulls", "counts"] spCtBeh) (g3 : mg "counts_behind" = some (.ref f3)) (k3 : PySem.W.keepIn K (.ref f3) = true) (b3 : Binds K fd3 ["pulls", "counts"] []) :
    FnOk P w K mg base CX0 16 f fd ["cabinet", "length"] (spByEnd C) := by
  refine F.ok scCE (fun vs H Q E h => ?_) (fun cdv A outer s H vs Q E hr h => ?_)
  · obtain ⟨c, bs, n, t, rfl, _⟩ := h.h
    rfl
  · obtain ⟨c, bs, n, t, rfl, B, t60, k⟩ := h.h
    have hu := hu_of hr
    obtain ⟨tc, ⟨dx, hc⟩, n7⟩ := B.cab
    have n1 : 1 ≤ n := by
      obtain ⟨_, _, _, _, _, _, q, _⟩ := B.h
      omega
    obtain ⟨pD, gD, fdD, hpD, GD, bD⟩ := CP.d
    refine ⟨_, pss_cons (ps_set (i := 2) scCE.nd rfl (Or.inl rfl) (pe_call G1 (hr.mono (by decide)) rfl g1 k1 b1 .nil pass0 (pa_cons (pv 0) pa_nil)))
      (pss_cons (ps_setDc (j := 3) (own := [("standing", 5)]) (g := gName 5) (tt := tYes) (by rfl) scCE.nd rfl rfl (by rfl) (pi_keys (pe_frz (pv 2))) (blkOk_by (N := nCE) (sc := defScope s_counts_by_end) (by decide +kernel)) (fun _ _ _ _ _ => pg_name (i := 5) scCE.nd rfl (Or.inl rfl)) (fun _ _ _ _ _ => pts_nil) (fun _ _ _ _ _ => pv 5) (fun _ _ _ _ _ => pe_int))
      (pss_cons (ps_asg pe_int (pg_sub (pv 3) (pe_call G2 (hr.mono (by decide)) rfl g2 k2 b2 .nil pass0 (pa_cons (pe_prop (pv 0) CP.cl hpD GD (hr.mono (by decide)) bD .nil pass0 rfl) pa_nil)) (set_dict hu)))
      (pss_cons (ps_for PassesOwn.never rfl (pi_range1 (by rfl) T.range (pa_cons (pv 1) pa_nil)) (pg_name (i := 4) scCE.nd rfl (Or.inl rfl))
        (pss_one (ps_set (i := 3) scCE.nd rfl (Or.inl rfl) (pe_call G3 (hr.mono (by decide)) rfl g3 k3 b3 .nil pass0 (pa_cons (pv 2) (pa_cons (pv 3) pa_nil))))))
      (pss_one (ps_ret (pv 3)))))), ?_⟩
    refine ⟨_, rfl, ⟨⟨c, bs, n, rfl, B, fun p rs f H1 hp0 s1 hp1 RR PA1 => ?_⟩⟩⟩
    refine ⟨_, rfl, p, _, rfl, hp1, trivial, fun od => ?_⟩
    have s2 : Same H (upd H1 p (.frz od (.dK (tabV rs f)))) := fun b o e => by
      rw [upd_ne (ne_of_none e hp0)]
      exact s1 b o e
    have hp : (upd H1 p (.frz od (.dK (tabV rs f)))) p = some (.frz od (.dK (tabV rs f))) := upd_same
    have PA : PulsAt (upd H1 p (.frz od (.dK (tabV rs f)))) bs rs f := PA1.upd hp1
    generalize (upd H1 p (.frz od (.dK (tabV rs f)))) = H2 at s2 hp PA ⊢
    refine ⟨p, od, rfl, .inl ⟨_, hp, fun D hD => ?_⟩⟩
    have hfew := RR.few
    refine dc_it (walk_keys (d := p) (o := od) (kvs := tabV rs f)) (fun i H' => Same H2 H' ∧ H' D = some (.dK (tabV (rs.take i) (cnV fun _ => 0)))) ⟨same_upd hD, upd_same⟩ (fun i H' _ z => z.1 _ _ hp) ?_ ?_
    · rintro i x H3 H3' hi ⟨s3, hD3⟩ ⟨rfl, key, v, ekv, rfl⟩
      obtain ⟨st, est, rfl, rfl⟩ := tab_get ekv
      obtain ⟨hil, e⟩ := List.getElem?_eq_some_iff.mp est
      have htk : rs.take (i + 1) = rs.take i ++ [st] := by rw [List.take_succ_eq_append_getElem hil, e]
      have hni : st ∉ rs.take i := by
        have : (rs.take (i + 1)).Nodup := RR.nd.sublist (List.take_sublist _ _)
        rw [htk, List.nodup_append] at this
        intro h
        exact this.2.2 _ h _ (List.mem_singleton.mpr rfl) rfl
      refine ⟨rfl, tYes_of (iteT ?_)⟩
      refine ⟨_, rfl, _, .inr (sstr st), rfl, hD3, by rw [tab_len, List.length_take]; exact small1000 (by omega), fun b o e => ?_, ?_⟩
      · rw [upd_ne (ne_of_none e hD)]
        exact s3 b o e
      · rw [upd_same, htk, tab_snoc hni]
        refine congrArg some (congrArg HO.dK ?_)
        unfold tabV
        refine List.map_congr_left fun z _ => ?_
        show ((.inr (sstr z) : Key), if z = st then (.int 0) else cnV (fun _ => 0) z) = (_, cnV (fun _ => 0) z)
        by_cases ez : z = st
        · rw [if_pos ez]
          rfl
        · rw [if_neg ez]
    · rintro H3 ⟨s3, hD3⟩
      rw [tab_len, List.take_length] at hD3
      have s23 := s2.trans s3
      have hc3 := s23 _ _ hc
      refine ⟨_, rfl, _, rfl, c, dx, _, rfl, hc3, ⟨⟨c, dx, _, tc, rfl, hc3, ⟨⟨n, rfl, n1, by omega, ?_⟩⟩⟩⟩⟩
      refine ⟨D, _, rfl, DPut.k (k := .inr (sstr (shutS n))) hD3 (by rw [tab_len]; exact small1000 (by omega)), ?_⟩
      rw [tab_put RR.root]
      have e0 : (tabV rs fun z => if z = shutS n then V.int 1 else cnV (fun _ => 0) z) = tabV rs (cnV fun b => (lvl bs n 0).count b) := by
        unfold tabV
        refine List.map_congr_left fun z _ => congrArg (Prod.mk _) ?_
        show (if z = shutS n then V.int 1 else V.int ((0 : Nat) : Int)) = V.int (([shutS n].count z : Nat) : Int)
        rw [List.count_cons, List.count_nil]
        by_cases ez : z = shutS n
        · subst ez
          simp
        · rw [if_neg ez]
          simp [Ne.symm ez]
      rw [e0]
      have Bd : ∀ {b : Addr} {o : HO}, H2 b = some o → (upd H3 D (.dK (tabV rs (cnV fun b => (lvl bs n 0).count b)))) b = some o := fun {b o} e => by
        rw [upd_ne (ne_of_none e hD)]
        exact s3 b o e
      have hD4 : (upd H3 D (.dK (tabV rs (cnV fun b => (lvl bs n 0).count b)))) D = some (.dK (tabV rs (cnV fun b => (lvl bs n 0).count b))) := upd_same
      generalize (upd H3 D (.dK (tabV rs (cnV fun b => (lvl bs n 0).count b)))) = H4 at Bd hD4 ⊢
      have Bd : Same H2 H4 := fun b o e => Bd e
      refine ⟨_, rfl, _, rfl, by omega, by omega, ?_⟩
      rw [Int.toNat_natCast]
      have hHD : H D = none := none_back s2 hD
      refine for_range (lo := 0) (n := t) (fun i σ H' => ∃ (q : Addr) (u4 u5 : Option V), σ = [some (.ref c), some (.int t), some (.ref p), some (.ref q), u4, u5] ∧ H2 q = none ∧ Same H2 H' ∧ H' q = some (.dK (tabV rs (cnV fun b => (lvl bs n i).count b))))
        ⟨D, _, _, rfl, hD, Bd, hD4⟩ ?_ ?_
      · rintro i σ H5 hi ⟨q, u4, u5, rfl, hq2, s5, hq5⟩
        refine ⟨_, rfl, _, rfl, ⟨⟨p, q, od, bs, n, rs, f, fun b => (lvl bs n i).count b, rfl, by omega, s5 _ _ hp, RR, PA.same s5, hq5, fun a H6 ha hA B6 => ?_⟩⟩⟩
        refine ⟨a, _, _, rfl, none_back s5 ha, fun b o e => B6 b o (ne_of_none e hq2) (s5 b o e), ?_⟩
        rw [hA]
        exact congrArg some (congrArg HO.dK (congrArg (tabV rs) (congrArg cnV (funext fun b => lvl_next RR.nd RR.root RR.ex i b))))
      · rintro σ H5 ⟨q, u4, u5, rfl, hq2, s5, hq5⟩
        exact ⟨_, rfl, k q rs H5 (none_back s2 hq2) (s2.trans s5) hq5 RR⟩
theorem sum_boot : bootBuiltins ("sum" : Str) = some (.builtin "sum") := by decide +kernel
theorem scCR : FnScope ["cabinet", "length"] ["cabinet", "length"] (defScope s_count_rows) := ⟨rfl, rfl, rfl, by decide +kernel, rfl, by decide +kernel, by decide +kernel⟩
theorem ok_countRows {f f1 f2 f3 C : Addr} {fd fd1 fd2 fd3 : FuncData} (F : Fun K "count_rows" "count_rows" s_count_rows f fd) (zS : mg "sum" = none) (zL : mg "list" = none) (gM : ∃ t, mg "MOST_PULLS" = some (.int 60 t))
    (G1 : FnOk P w K mg base CX0 1 f1 fd1 ["cabinet"] (spCkCab C)) (g1 : mg "check_cabinet" = some (.ref f1)) (k1 : PySem.W.keepIn K (.ref f1) = true) (b1 : Binds K fd1 ["cabinet"] [])
    (G2 : FnOk P w K mg base CX0 2 f2 fd2 ["value", "least", "most"] spCkNum0) (g2 : mg "check_number" = some (.ref f2)) (k2 : PySem.W.keepIn K (.ref f2) = true) (b2 : Binds K fd2 ["value", "least", "most"] [])
    (G3 : FnOk P w K mg base CX0 16 f3 fd3 ["cabinet", "length"] (spByEnd C)) (g3 : mg "counts_by_end" = some (.ref f3)) (k3 : PySem.W.keepIn K (.ref f3) = true) (b3 : Binds K fd3 ["cabinet", "length"] []) :
    FnOk P w K mg base CX0 18 f fd ["cabinet", "length"] (spCtRows C) := by
  refine F.ok scCR (fun vs H Q E h => ?_) (fun cdv A outer s H vs Q E hr h => ?_)
  · obtain ⟨c, bs, n, t, rfl, _⟩ := h.h
    rfl
  · obtain ⟨c, bs, n, t, rfl, B, t60, k⟩ := h.h
    obtain ⟨tc, hc, n7⟩ := B.cab
    obtain ⟨tM, gM⟩ := gM
    refine ⟨_, pss_cons (ps_expr (pe_call G1 (hr.mono (by decide)) rfl g1 k1 b1 .nil pass0 (pa_cons (pv 0) pa_nil)))
      (pss_cons (ps_expr (pe_call G2 (hr.mono (by decide)) rfl g2 k2 b2 .nil pass0 (pa_cons (pv 1) (pa_cons pe_int (pa_cons (pe_glob (v := .int 60) rfl gM ⟨_, rfl⟩) pa_nil)))))
      (pss_one (ps_ret (pe_callB (cr_sum rfl) (by rfl) zS sum_boot (pa_cons (pe_callTy (cr_listVw rfl) (by rfl) zL (by decide +kernel) (pa_cons (pe_vw (pe_frz (pe_call G3 (hr.mono (by decide)) rfl g3 k3 b3 .nil pass0 (pa_cons (pv 0) (pa_cons (pv 1) pa_nil))))) pa_nil)) pa_nil))))), ?_⟩
    refine ⟨_, rfl, ⟨⟨c, _, tc, rfl, hc, ?_⟩⟩⟩
    refine ⟨_, rfl, ⟨⟨t, 0, 60, rfl, by omega, by omega, ?_⟩⟩⟩
    refine ⟨_, rfl, _, rfl, ⟨⟨c, bs, n, t, rfl, B, t60, fun a rs H1 ha s1 hA RR => ?_⟩⟩⟩
    refine ⟨a, _, rfl, hA, trivial, fun od => ?_⟩
    have s2 : Same H (upd H1 a (.frz od (.dK (tabV rs (cnV fun b => (lvl bs n t).count b))))) := fun b o e => by
      rw [upd_ne (ne_of_none e ha)]
      exact s1 b o e
    have f2 : (upd H1 a (.frz od (.dK (tabV rs (cnV fun b => (lvl bs n t).count b))))) a = some (.frz od (.dK (tabV rs (cnV fun b => (lvl bs n t).count b)))) := upd_same
    generalize (upd H1 a (.frz od (.dK (tabV rs (cnV fun b => (lvl bs n t).count b))))) = H2 at s2 f2 ⊢
    have hfew := RR.few
    refine ⟨a, od, _, rfl, f2, fun v nv => ?_⟩
    obtain ⟨s3, f3⟩ := new_at (o := viewO "dict_values" v a) nv
    generalize upd H2 v (viewO "dict_values" v a) = H3 at s3 f3 ⊢
    refine ⟨v, a, od, _, rfl, f3, s3 _ _ f2, by rw [tab_len]; exact Nat.le_of_lt (small1000 (by omega)), fun l nl => ?_⟩
    rw [tab_snd]
    obtain ⟨s4, f4⟩ := new_at (o := .lst (rs.map (cnV fun b => (lvl bs n t).count b))) nl
    generalize upd H3 l (.lst (rs.map (cnV fun b => (lvl bs n t).count b))) = H4 at s4 f4 ⊢
    refine ⟨l, (rs.map fun b => (lvl bs n t).count b).map fun x : Nat => (x : Int), rfl, SqL.of (by rw [f4, List.map_map, List.map_map]; rfl), ?_⟩
    rw [int_sum, lvl_all RR.nd RR.root RR.ex]
    exact k H4 ((s2.trans s3).trans s4)
abbrev nCT : List Str := ["cabinet", "length", "pattern", "counts", "standing", "many"]
theorem scCT : FnScope nCT ["cabinet", "length", "pattern"] (defScope s_count_to) := ⟨rfl, rfl, rfl, by decide +kernel, rfl, by decide +kernel, by decide +kernel⟩
theorem ok_countTo {f f1 f2 f3 f4 f5 C : Addr} {fd fd1 fd2 fd3 fd4 fd5 : FuncData} (F : Fun K "count_to" "count_to" s_count_to f fd) (zS : mg "sum" = none) (gM : ∃ t, mg "MOST_PULLS" = some (.int 60 t))
    (G1 : FnOk P w K mg base CX0 1 f1 fd1 ["cabinet"] (spCkCab C)) (g1 : mg "check_cabinet" = some (.ref f1)) (k1 : PySem.W.keepIn K (.ref f1) = true) (b1 : Binds K fd1 ["cabinet"] [])
    (G2 : FnOk P w K mg base CX0 2 f2 fd2 ["value", "least", "most"] spCkNum0) (g2 : mg "check_number" = some (.ref f2)) (k2 : PySem.W.keepIn K (.ref f2) = true) (b2 : Binds K fd2 ["value", "least", "most"] [])
    (G3 : FnOk P w K mg base CX0 3 f3 fd3 ["cabinet", "pattern"] (spCkPat C)) (g3 : mg "check_pattern" = some (.ref f3)) (k3 : PySem.W.keepIn K (.ref f3) = true) (b3 : Binds K fd3 ["cabinet", "pattern"] [])
    (G4 : FnOk P w K mg base CX0 16 f4 fd4 ["cabinet", "length"] (spByEnd C)) (g4 : mg "counts_by_end" = some (.ref f4)) (k4 : PySem.W.keepIn K (.ref f4) = true) (b4 : Binds K fd4 ["cabinet", "length"] [])
    (G5 : FnOk P w K mg base CX0 1 f5 fd5 ["standing", "pattern"] spFits) (g5 : mg "fits" = some (.ref f5)) (k5 : PySem.W.keepIn K (.ref f5) = true) (b5 : Binds K fd5 ["standing", "pattern"] []) :
    FnOk P w K mg base CX0 18 f fd ["cabinet", "length", "pattern"] (spCtTo C) := by
  refine F.ok scCT (fun vs H Q E h => ?_) (fun cdv A outer s H vs Q E hr h => ?_)
  · obtain ⟨c, bs, t, cs, rfl, _⟩ := h.h
    rfl
  · obtain ⟨c, bs, t, cs, rfl, B, hp, t60, k⟩ := h.h
    obtain ⟨tc, hc, n7⟩ := B.cab
    obtain ⟨tM, gM⟩ := gM
    refine ⟨_, pss_cons (ps_expr (pe_call G1 (hr.mono (by decide)) rfl g1 k1 b1 .nil pass0 (pa_cons (pv 0) pa_nil)))
      (pss_cons (ps_expr (pe_call G2 (hr.mono (by decide)) rfl g2 k2 b2 .nil pass0 (pa_cons (pv 1) (pa_cons pe_int (pa_cons (pe_glob (v := .int 60) rfl gM ⟨_, rfl⟩) pa_nil)))))
      (pss_cons (ps_expr (pe_call G3 (hr.mono (by decide)) rfl g3 k3 b3 .nil pass0 (pa_cons (pv 0) (pa_cons (pv 2) pa_nil))))
      (pss_cons (ps_set (i := 3) scCT.nd rfl (Or.inl rfl) (pe_call G4 (hr.mono (by decide)) rfl g4 k4 b4 .nil pass0 (pa_cons (pv 0) (pa_cons (pv 1) pa_nil))))
      (pss_one (ps_ret (pe_callB (cr_sum rfl) (by rfl) zS sum_boot (pa_cons
        (pe_lc (own := [("standing", 4), ("many", 5)]) (g := gTup K 2 (gCons (gName 4) (gCons (gName 5) gNil))) (by rfl) scCT.nd (pi_items (pe_frz (pv 3))) (blkOk_by (N := nCT) (sc := defScope s_count_to) (by decide +kernel))
          (fun _ _ _ _ _ => pg_tupK (K := K) rfl rfl (pgs_cons (pg_name (i := 4) scCT.nd rfl (Or.inl rfl)) (pgs_cons (pg_name (i := 5) scCT.nd rfl (Or.inl rfl)) pgs_nil)))
          (fun _ _ _ _ _ => pts_one (pt_val (pe_call G5 (hr.mono (by decide)) rfl g5 k5 b5 .nil pass0 (pa_cons (pv 4) (pa_cons (pv 2) pa_nil))))) (fun _ _ _ _ _ => pv 5)) pa_nil))))))), ?_⟩
    refine ⟨_, rfl, ⟨⟨c, _, tc, rfl, hc, ?_⟩⟩⟩
    refine ⟨_, rfl, ⟨⟨t, 0, 60, rfl, by omega, by omega, ?_⟩⟩⟩
    refine ⟨_, rfl, _, rfl, ⟨⟨c, cs, tc, rfl, hc, by omega, hp, fun H0 s0 => ?_⟩⟩⟩
    refine ⟨_, rfl, _, rfl, ⟨⟨c, bs, cs.length, t, rfl, B.same s0, t60, fun a rs H1 ha s1 hA RR => ?_⟩⟩⟩
    refine ⟨_, rfl, a, _, rfl, hA, trivial, fun od => ?_⟩
    have s2 : Same H (upd H1 a (.frz od (.dK (tabV rs (cnV fun b => (lvl bs cs.length t).count b))))) := fun b o e => by
      have e0 := s0 b o e
      rw [upd_ne (ne_of_none e0 ha)]
      exact s1 b o e0
    have f2 : (upd H1 a (.frz od (.dK (tabV rs (cnV fun b => (lvl bs cs.length t).count b))))) a = some (.frz od (.dK (tabV rs (cnV fun b => (lvl bs cs.length t).count b)))) := upd_same
    generalize (upd H1 a (.frz od (.dK (tabV rs (cnV fun b => (lvl bs cs.length t).count b))))) = H2 at s2 f2 ⊢
    have hfew := RR.few
    refine ⟨a, od, _, rfl, f2, fun D hD => ?_⟩
    refine lc_pick walk_itemsT rs rfl (by omega) (fun st => fitB st cs) (fun st => cnV (fun b => (lvl bs cs.length t).count b) st) hD (fun H' s => s _ _ f2) ?_ ?_
    · rintro i x z H4 H4' Tk Nk ez s4 ⟨Tt, st, rfl, hT, rfl, est⟩ kT kF
      rw [ez] at est
      cases est
      have hl := RR.len z (List.mem_of_getElem? ez)
      have s5 := same_upd (o := .tup [.str (sstr z), cnV (fun b => (lvl bs cs.length t).count b) z]) hT
      refine ⟨Tt, _, rfl, SqT.of' upd_same, rfl, _, _, rfl, _, _, rfl, rfl, rfl, ?_⟩
      refine ⟨_, rfl, _, rfl, ⟨⟨z, cs, rfl, hl, by omega, fun H5 s6 => ?_⟩⟩⟩
      refine ⟨_, rfl, ?_⟩
      cases e : fitB z cs with
      | true => exact iteT ⟨_, rfl, kT _ e (s5.trans s6)⟩
      | false => exact iteF (kF _ e (s5.trans s6))
    · intro H3 s3 hD3
      refine ⟨D, ((rs.filter fun st => fitB st cs).map fun b => (lvl bs cs.length t).count b).map fun x : Nat => (x : Int), rfl, SqL.of (by rw [hD3, List.map_map, List.map_map]; rfl), ?_⟩
      rw [int_sum, lvl_fits RR.nd RR.root RR.ex]
      exact k H3 (s2.trans s3)
end
end DL

set_option Elab.async false
set_option maxRecDepth 100000
set_option maxHeartbeats 1000000
namespace DL
open PySem L2 HT TL RZ
/-! ### a dict that counts -/
structure Acc (ks : List (List Bool)) (F : List Bool → Nat) : Prop where
  nd : ks.Nodup
  iff : ∀ b, b ∈ ks ↔ 0 < F b
theorem Acc.val {ks : List (List Bool)} {F : List Bool → Nat} (A : Acc ks F) (x : List Bool) : (valV (tabV ks (cnV F)) (.inr (sstr x))).getD (.int 0) = .int (F x : Nat) := by
  rw [tab_val]
  by_cases m : x ∈ ks
  · rw [if_pos m]
    rfl
  · rw [if_neg m]
    have e : F x = 0 := by
      have : ¬ 0 < F x := fun h => m ((A.iff x).mpr h)
      omega
    rw [e]
    rfl
theorem Acc.put {ks : List (List Bool)} {F : List Bool → Nat} (A : Acc ks F) (x : List Bool) {m : Nat} (hm : 0 < m) :
    ∃ ks', putK (tabV ks (cnV F)) (.inr (sstr x)) (.int ((F x : Nat) + (m : Nat))) = tabV ks' (cnV fun z => if z = x then F z + m else F z) ∧ Acc ks' (fun z => if z = x then F z + m else F z) := by
  have ev : ∀ l : List (List Bool), (tabV l fun z => if z = x then V.int ((F x : Nat) + (m : Nat)) else cnV F z) = tabV l (cnV fun z => if z = x then F z + m else F z) := fun l => by
    unfold tabV
    refine List.map_congr_left fun z _ => congrArg (Prod.mk _) ?_
    simp only [cnV]
    by_cases e : z = x
    · subst e
      rw [if_pos rfl, if_pos rfl]
      exact congrArg V.int (by omega)
    · rw [if_neg e, if_neg e]
  by_cases hx : x ∈ ks
  · refine ⟨ks, by rw [tab_put hx, ev], A.nd, fun b => ?_⟩
    by_cases e : b = x
    · subst e
      simp only [if_pos]
      exact ⟨fun _ => by omega, fun _ => hx⟩
    · simp only [if_neg e]
      exact A.iff b
  · refine ⟨ks ++ [x], by rw [tab_snoc hx, ev], ?_, fun b => ?_⟩
    · rw [List.nodup_append]
      refine ⟨A.nd, by simp, fun a ha b hb e => ?_⟩
      rw [List.mem_singleton.mp hb] at e
      exact hx (e ▸ ha)
    · rw [List.mem_append, List.mem_singleton]
      by_cases e : b = x
      · subst e
        simp only [if_pos]
        exact ⟨fun _ => by omega, fun _ => .inr trivial⟩
      · simp only [if_neg e]
        rw [← A.iff b]
        exact ⟨fun h => h.resolve_right e, .inl⟩
theorem Acc.small {ks : List (List Bool)} {n : Nat} {F : List Bool → Nat} (A : Acc ks F) (hl : ∀ b, 0 < F b → b.length = n) (n7 : n ≤ 7) : ks.length ≤ 128 := by
  have := few n ks A.nd fun x hx => hl x ((A.iff x).mp hx)
  have h2 : 2 ^ n ≤ 2 ^ 7 := Nat.pow_le_pow_right (by decide) n7
  have h3 : (2 : Nat) ^ 7 = 128 := rfl
  omega
/-! ### counts that are refused -/
end DL

set_option Elab.async false
set_option maxRecDepth 100000
set_option maxHeartbeats 2000000
namespace DL
open PySem PySem.Spec PyProof.Rows L2
/-! ### sets of ints and texts that can be walked -/
/-- what stands in a row of the table for a key -/
structure RowFor (P : Program) (w : World) (k : Key) (e : Int × Value) : Prop where
  val : RelV (kV k) e.2
  hash : e.1 = (mixKind P w).hash k
theorem RowFor.elem {P : Program} {w : World} : ∀ {L : List Key} {l : List (Int × Value)}, Paired (RowFor P w) L l → ElemsOf (mixKind P w) l
  | _, _, .nil => fun e he => by cases he
  | k :: _, _, .cons r t => fun e he => by
    rcases List.mem_cons.mp he with rfl | he
    · exact ⟨⟨k, kV_is r.val, r.hash⟩, key_scan r.val⟩
    · exact RowFor.elem t e he
theorem pair_mem {α β : Type} {R : α → β → Prop} : ∀ {xs : List α} {ys : List β}, Paired R xs ys → ∀ x ∈ xs, ∃ y ∈ ys, R x y
  | _, _, .nil => fun x hx => by cases hx
  | _, _, .cons r t => fun x hx => by
    rcases List.mem_cons.mp hx with rfl | hx
    · exact ⟨_, List.mem_cons_self, r⟩
    · obtain ⟨y, hy, q⟩ := pair_mem t x hx
      exact ⟨y, List.mem_cons_of_mem _ hy, q⟩
theorem pair_mem' {α β : Type} {R : α → β → Prop} : ∀ {xs : List α} {ys : List β}, Paired R xs ys → ∀ y ∈ ys, ∃ x ∈ xs, R x y
  | _, _, .nil => fun x hx => by cases hx
  | _, _, .cons r t => fun x hx => by
    rcases List.mem_cons.mp hx with rfl | hx
    · exact ⟨_, List.mem_cons_self, r⟩
    · obtain ⟨y, hy, q⟩ := pair_mem' t x hx
      exact ⟨y, List.mem_cons_of_mem _ hy, q⟩
theorem pair_perm {α β : Type} {R : α → β → Prop} {ys zs : List β} (p : ys.Perm zs) : ∀ {xs : List α}, Paired R xs ys → ∃ ws, ws.Perm xs ∧ Paired R ws zs := by
  induction p with
  | nil => exact fun h => ⟨_, List.Perm.refl _, h⟩
  | cons y _ ih =>
    intro xs h
    cases h with
    | cons r t =>
      obtain ⟨ws, q, u⟩ := ih t
      exact ⟨_, q.cons _, .cons r u⟩
  | swap y z l =>
    intro xs h
    cases h with
    | cons r t =>
      cases t with
      | cons r2 t2 => exact ⟨_, List.Perm.swap _ _ _, .cons r2 (.cons r t2)⟩
  | trans _ _ ih1 ih2 =>
    intro xs h
    obtain ⟨ws, q, u⟩ := ih1 h
    obtain ⟨vs, q2, u2⟩ := ih2 u
    exact ⟨vs, q2.trans q, u2⟩
theorem pair_len {α β : Type} {R : α → β → Prop} : ∀ {xs : List α} {ys : List β}, Paired R xs ys → xs.length = ys.length
  | _, _, .nil => rfl
  | _, _, .cons _ t => by rw [List.length_cons, List.length_cons, pair_len t]
theorem rows_vals {P : Program} {w : World} : ∀ {L : List Key} {l : List (Int × Value)}, Paired (RowFor P w) L l → Vals (L.map kV) (l.map (·.2))
  | _, _, .nil => .nil
  | _, _, .cons r t => .cons r.val (rows_vals t)
/-- L2 holds k besides -/
structure Adds (k : Key) (L L2 : List Key) : Prop where
  old : k ∈ L → L2 = L
  new : k ∉ L → L2.Perm (k :: L)
/-- at a: a set of the keys L, in some order, each once -/
structure SetW (P : Program) (w : World) (h : Heap) (a : Addr) (L : List Key) : Prop where
  h : ∃ (o : Obj) (es : Array (Int × Value)) (ep : Nat) (t : SetTable), h.get? a = some o ∧ o.ExactSet ∧ o.data = .set es ep t ∧ Paired (RowFor P w) L es.toList ∧ L.Nodup ∧ L.length < scanBound ∧
    t.fits es.size = true ∧ Ris t.place.toList ∧ (w.params.followText "set-order" = true ∨ t.led = true)
section
variable {P : Program} {w : World} {A : Around} {E : Value → Shared → Prop} {s : Shared} {a : Addr} {L : List Key}
theorem SetW.of {h : Heap} {o : Obj} {es : Array (Int × Value)} {ep : Nat} {t : SetTable} (g : h.get? a = some o) (x : o.ExactSet) (d : o.data = .set es ep t) (p : Paired (RowFor P w) L es.toList) (nd : L.Nodup) (few : L.length < scanBound)
    (f : t.fits es.size = true) (r : Ris t.place.toList) (l : w.params.followText "set-order" = true ∨ t.led = true) : SetW P w h a L := ⟨⟨o, es, ep, t, g, x, d, p, nd, few, f, r, l⟩⟩
theorem SetW.keep {h h' : Heap} (R : SetW P w h a L) (k : ∀ o, h.get? a = some o → h'.get? a = some o) : SetW P w h' a L := by
  obtain ⟨o, es, ep, t, g, rest⟩ := R.h
  exact ⟨⟨o, es, ep, t, k o g, rest⟩⟩
theorem size_of {es : Array (Int × Value)} (p : Paired (RowFor P w) L es.toList) : es.size = L.length := by
  rw [← Array.length_toList]
  exact (pair_len p).symm
/-- the store behind a new member -/
theorem lay_w {say : Bool → Sem Unit} (hsay : ∀ (b : Bool) (s1 : Shared) (R1 : Unit → Shared → Prop), R1 () s1 → wpAny (model P w) A (say b) R1 E s1)
    {o : Obj} {es rows : Array (Int × Value)} {ep : Nat} {t tab : SetTable} {L1 : List Key} {deaf : Bool} {R : Option Bool → Shared → Prop} (ho : s.heap.get? a = some o) (hx : o.ExactSet) (hd : o.data = .set es ep t)
    (hp : Paired (RowFor P w) L1 rows.toList) (nd : L1.Nodup) (few : L1.length < scanBound) (hf : tab.fits rows.size = true) (hr : Ris tab.place.toList) (hl : w.params.followText "set-order" = true ∨ tab.led = true)
    (hR : ∀ h' L2, Heap.SameBut a s.heap h' → L2.Perm L1 → SetW P w h' a L2 → R (some true) { s with heap := h' }) :
    wpAny (model P w) A (do
        storeSet a rows tab
        if (!deaf && tab.tooFull) = true then do
            say (relayAll tab rows (SetTable.grown rows.size)).2.2
            storeSet a (relayAll tab rows (SetTable.grown rows.size)).1 (relayAll tab rows (SetTable.grown rows.size)).2.1
            pure (some true)
          else pure (some true)) R E s := by
  have few1 : rows.size < scanBound := by rw [size_of hp]; exact few
  refine wpAny_bind (wpAny_storeSet_of ho hd ?_ (fits_of_scanBound few1))
  have at1 := PpSet.storeB_at (es' := rows) (t' := tab) ho hd
  have but1 : Heap.SameBut a s.heap (s.heap.update a (Obj.putSet rows tab)) := Heap.SameBut.update s.heap a (Obj.putSet rows tab)
  by_cases q : (!deaf && tab.tooFull) = true
  · rw [if_pos q]
    have e1 := relayAll_perm tab rows (SetTable.grown rows.size)
    have e2 := relayAll_fits tab rows (SetTable.grown rows.size)
    have e3 := relayAll_ris tab rows (SetTable.grown rows.size)
    have e4 := relayAll_led tab rows (SetTable.grown rows.size)
    generalize relayAll tab rows (SetTable.grown rows.size) = all at e1 e2 e3 e4 ⊢
    obtain ⟨rows2, tab2, told⟩ := all
    obtain ⟨L2, p2, hp2⟩ := pair_perm e1.symm hp
    have few2 : rows2.size < scanBound := by rw [size_of hp2, p2.length_eq]; exact few
    refine wpAny_bind (hsay _ _ _ (wpAny_bind (wpAny_storeSet_of at1 rfl ?_ (fits_of_scanBound few2))))
    have at2 := PpSet.storeB_at (es' := rows2) (t' := tab2) at1 rfl
    exact wpAny_pure (hR _ L2 (but1.trans (Heap.SameBut.update _ a _)) p2 (.of at2 hx rfl hp2 (p2.nodup_iff.mpr nd) (by rw [p2.length_eq]; exact few) e2 e3 (hl.imp id fun z => e4.trans z)))
  · rw [if_neg q]
    exact wpAny_pure (hR _ L1 but1 (List.Perm.refl _) (.of at1 hx rfl hp nd few hf hr hl))
/-- one key more, its hash known -/
theorem put_w {k : Key} {u : Value} {R : Bool → Shared → Prop} (S : SetW P w s.heap a L) (hu : RelV (kV k) u) (room : L.length + 1 < scanBound)
    (hR : ∀ (b : Bool) h' L2, Heap.SameBut a s.heap h' → Adds k L L2 → SetW P w h' a L2 → R b { s with heap := h' }) :
    wpAny (model P w) A (setAddHashed a u ((mixKind P w).hash k)) R E s := by
  obtain ⟨o, es, ep, t, ho, hx, hd, hp, nd, few, hf, hr, hl⟩ := S.h
  have is := kV_is (P := P) (w := w) hu
  have sc := key_scan hu
  have el := RowFor.elem hp
  have few1 : es.size < scanBound := by rw [size_of hp]; exact few
  unfold setAddHashed setAddHashedIn
  refine wpAny_holding (wpAny_bind (wpAny_setState_of ho hd hf ?_))
  simp only [byScan_of sc few1 el, if_true]
  unfold setAddByScan
  refine wpAny_bind (wpAny_bind (wpAny_rule (wpAny_bind (wpAny_setScan_of is ho hd hf el ?_))))
  have inL : k ∈ L ↔ ∃ e ∈ es.toList, (mixKind P w).is k e.2 = true := by
    constructor
    · intro m
      obtain ⟨e, he, r⟩ := pair_mem hp k m
      exact ⟨e, he, kV_is r.val⟩
    · rintro ⟨e, he, q⟩
      obtain ⟨k2, hk2, r⟩ := pair_mem' hp e he
      rw [(mixKind P w).inj e.2 k k2 q (kV_is r.val)]
      exact hk2
  cases found : List.findIdx? (fun e => (mixKind P w).is k e.2) es.toList with
  | some j =>
    obtain ⟨lt, here, _⟩ := List.findIdx?_eq_some_iff_getElem.mp found
    have m : k ∈ L := inL.mpr ⟨_, List.getElem_mem lt, here⟩
    have z := hR false s.heap L (Heap.SameBut.refl a s.heap) ⟨fun _ => rfl, fun z => absurd m z⟩ S
    exact wpAny_pure (wpAny_pure z)
  | none =>
    have m : k ∉ L := fun z => by
      obtain ⟨e, he, q⟩ := inL.mp z
      have c := List.findIdx?_eq_none_iff.mp found e he
      rw [q] at c
      cases c
    have says : ∀ (b : Bool) {s1 : Shared} {R1 : Unit → Shared → Prop}, R1 () s1 → wpAny (model P w) A (match b with | true => rule "set.scan.the-table-gave-way" | false => pure ()) R1 E s1 := fun b s1 R1 q => by
      cases b with
      | true => exact wpAny_rule q
      | false => exact wpAny_pure q
    have e1 := layNew_perm t es ((mixKind P w).hash k) u
    have e2 := layNew_fits t es ((mixKind P w).hash k) u
    have e3 := layNew_ris t es ((mixKind P w).hash k) u hr
    have e4 := layNew_led t es ((mixKind P w).hash k) u
    generalize layNew t es ((mixKind P w).hash k) u = new at e1 e2 e3 e4 ⊢
    obtain ⟨rows, tab, deaf, told⟩ := new
    rw [Array.toList_push] at e1
    obtain ⟨L1, p1, hp1⟩ := pair_perm (e1.trans (List.perm_append_singleton _ _)).symm (.cons ⟨hu, rfl⟩ hp)
    have nd1 : L1.Nodup := p1.nodup_iff.mpr (List.nodup_cons.mpr ⟨m, nd⟩)
    have few2 : L1.length < scanBound := by rw [p1.length_eq]; exact room
    have lead : w.params.followText "set-order" = true ∨ tab.led = true := hl.imp id fun z => e4.trans z
    have fin : ∀ h' L2, Heap.SameBut a s.heap h' → L2.Perm L1 → SetW P w h' a L2 → R true { s with heap := h' } := fun h' L2 sb p S2 => hR true h' L2 sb ⟨fun z => absurd z m, fun _ => p.trans p1⟩ S2
    refine wpAny_bind (says _ ?_)
    split
    · rw [hashByValue_scannable 8 sc]
      refine wpAny_bind (wpAny_pure (lay_w (fun b s1 R1 q => says b q) ho hx hd hp1 nd1 few2 ?_ ?_ ?_ fun h' L2 sb p S2 => wpAny_pure (fin h' L2 sb p S2)))
      · split
        · exact e2
        · exact SetTable.fits_plain_off e2
      · split <;> exact e3
      · split <;> exact lead
    · refine wpAny_bind (wpAny_pure ?_)
      simp only [if_true]
      exact lay_w (fun b s1 R1 q => says b q) ho hx hd hp1 nd1 few2 e2 e3 lead fun h' L2 sb p S2 => wpAny_pure (fin h' L2 sb p S2)
end
end DL

set_option Elab.async false
set_option maxRecDepth 100000
set_option maxHeartbeats 2000000
namespace DL
open PySem PySem.Spec PyProof.Rows L2
/-- the set of the keys L at a, tracked -/
def SetWO (P : Program) (w : World) (a : Addr) (L : List Key) : HO := .ext fun h => SetW P w h a L
theorem setWO_ok {P : Program} {w : World} {H : Hp} {h : Heap} {a : Addr} {L : List Key} (R : SetW P w h a L) : ObjOk P w H h a (SetWO P w a L) := by
  obtain ⟨o, _, _, _, g, _⟩ := id R.h
  exact ⟨R, ⟨o, g⟩, fun _ _ p k => SetW.keep p k⟩
theorem setW_fresh {P : Program} {h : Heap} (w : World) : SetW P w (h.push { cls := .type "set", dict := none, data := .set #[] 0 (.fresh 0 0 (!w.params.followText "set-order")) }) h.objs.size [] := by
  refine .of (Heap.get?_push_size _ rfl) ⟨rfl, rfl, rfl⟩ rfl .nil List.nodup_nil (by decide) (by rfl) List.Pairwise.nil ?_
  cases q : w.params.followText "set-order" with
  | true => exact .inl rfl
  | false => exact .inr rfl
section
variable {X : Cx}
theorem setW_at {pins : List (Addr × Obj)} {σ : L2.St} {H : Hp} {s : Shared} {a : Addr} {L : List Key} (I : Inv X pins σ H s) (ha : H a = some (SetWO X.prog X.w a L)) : SetW X.prog X.w s.heap a L := (I.hok a _ ha).1
/-- D.add(u) -/
theorem addW {pins : List (Addr × Obj)} {σ : L2.St} {H : Hp} {s : Shared} {E : Value → Shared → Prop} {D : Addr} {L : List Key} {k : Key} {u : Value} {Q : Value → Shared → Prop} (I : Inv X pins σ H s) (hD : H D = some (SetWO X.prog X.w D L)) (hu : RelV (kV k) u) (room : L.length + 1 < scanBound)
    (h : ∀ L2 s', Adds k L L2 → Inv X pins σ (upd H D (SetWO X.prog X.w D L2)) s' → Q .none s') : wpAny (model X.prog X.w) X.A (call (.builtin "set.add") [.ref D, u]) Q E s := by
  have S := setW_at I hD
  obtain ⟨o, _, _, _, g, cl, _⟩ := id S.h
  refine wpAny_call_entry F.slot_set_add ⟨o, g, cl.1⟩ F.entry_set_add ?_ (F.args_set_add_2 _ _)
  unfold Builtin.«set.add» Builtin.Frozenset.oneOther
  simp only [List.isEmpty_nil, bind_assoc]
  unfold Builtin.Frozenset.addrOf setAdd
  refine wpAny_bind (wpAny_pure (wpAny_bind (wpAny_pure (wpAny_bind (wpAny_holding (wpAny_bind ((mixKind X.prog X.w).pyHash (kV_is hu) ?_)))))))
  refine put_w (s := { s with toks := s.toks + 1 }) S hu room fun b h' L2 sb hL S2 => ?_
  obtain ⟨o2, _, _, _, g2, _⟩ := id S2.h
  show wpAny _ _ (ret Value.none) _ _ _
  refine wpAny_pure ⟨_, rfl, h L2 _ hL ?_⟩
  exact I.write (e := D) (t' := s.toks + 1) (by rw [hD]; trivial) (.inl rfl) (fun c z hc hz => (sb.2 c hc).trans hz) ⟨o2, g2⟩ (setWO_ok S2)
end
/-! ### {e for x in xs if t} -/
def ScEl (P : Program) (w : World) (D : Addr) (Nx : Hp → Prop) : VK := fun y H4 => ∃ (k : Key) (L : List Key), y = kV k ∧ H4 D = some (SetWO P w D L) ∧ L.length + 1 < scanBound ∧ ∀ L2, Adds k L L2 → Nx (upd H4 D (SetWO P w D L2))
def tScW (P : Program) (w : World) (wi : TI) (g : TG) (tt : TT) (te : TE) (vs : List Nat) : TE := fun σ H Q => wi σ H fun J H1 => ∀ D, H1 D = none → ∃ W : Nat → Nat → Hp → Prop, (∃ m, W 0 m (upd H1 D (SetWO P w D []))) ∧ ∀ i m H2, W i m H2 →
  (J.stop i H2 ∧ Q (.ref D) H2) ∨ (J.go i H2 ∧ ∃ Nx : Hp → Prop, (∀ H3, Nx H3 → ∃ m', m' < m ∧ W (i + 1) m' H3) ∧ ∀ x H3, J.yld i H2 x H3 → g x (wipe σ vs) H3 fun σ2 H4 => wipe σ2 vs = wipe σ vs ∧ tt σ2 H4 fun b H5 =>
    if b = true then te σ2 H5 (ScEl P w D Nx) else Nx H5)
section
variable {X : Cx}
theorem pe_scW {elt tg iter : Expr} {ifs : List Expr} {scope : Scope} {own : List (PySem.Str × Nat)} {pos : Pos} {wi : TI} {g : TG} {tt : TT} {te : TE} (calm : X.calm = true) (nd : X.N.Nodup) (hi : PI X tg iter wi) (blk : BlkOk X.N X.env.scope scope own)
    (hg : ∀ (s : Shared) (H : Hp) (C : Addr) (cl : List (PySem.Str × Addr)) (fp : List Addr), PG (X.blk s H scope (compEnvC scope cl C X.env) fp) tg g)
    (ht : ∀ (s : Shared) (H : Hp) (C : Addr) (cl : List (PySem.Str × Addr)) (fp : List Addr), PTs (X.blk s H scope (compEnvC scope cl C X.env) fp) ifs tt)
    (he : ∀ (s : Shared) (H : Hp) (C : Addr) (cl : List (PySem.Str × Addr)) (fp : List Addr), PE (X.blk s H scope (compEnvC scope cl C X.env) fp) elt te) (fold : ∀ x, foldedSetIterable iter X.env x = pure x := by intro _; rfl) :
    PE X (.SetComp elt [⟨tg, iter, ifs, 0⟩] scope pos) (tScW X.prog X.w wi g tt te (own.map (·.2))) := by
  refine ⟨fun pins s σ H Q I0 want => ?_⟩
  rw [PpSet.eval_SetComp]
  have cells : ∀ y ∈ scope.names, y.2 = .free → ∃ c, X.env.cells.lookup y.1 = some c := fun y hy e => (blk.free y hy e).elim (fun k => I0.ok.has _ (.inl k)) fun k => I0.ok.has _ (.inr k)
  refine wpAny_comprehension_free rfl fold (closure_ok cells) blk.kind (fun y hy e => by rw [blk.uniq y hy, e]) (thn (hi.run pins s σ H _ I0 want) fun _ s1 made => thn made fun _ s2 walk => ?_)
  obtain ⟨it, fp, tn, J, Hw, rfl, Iw, T, st, fpok, q⟩ := walk
  refine PpSet.newSet_ok (newEnv_comp ?_)
  obtain ⟨D, eD⟩ : ∃ D, s2.heap.objs.size = D := ⟨_, rfl⟩
  rw [eD]
  have noD : Hw D = none := Iw.hok.fresh (Nat.le_of_eq eD)
  obtain ⟨W, ⟨m0, begin0⟩, turn⟩ := q D noD
  generalize eS : ({ s2 with heap := s2.heap.push { cls := .type "set", dict := none, data := .set #[] 0 (.fresh 0 0 (!X.w.params.followText "set-order")) } } : Shared) = sN
  have hpS : sN.heap = s2.heap.push { cls := .type "set", dict := none, data := .set #[] 0 (.fresh 0 0 (!X.w.params.followText "set-order")) } := by rw [← eS]
  have IN : Inv X pins σ (upd Hw D (SetWO X.prog X.w D [])) sN := by
    rw [← eS]
    refine Iw.laid (t' := s2.toks) (fun c z e => Heap.get?_push_of_some _ e) (Nat.le_of_eq eD) ?_
    rw [← eD]
    exact setWO_ok (setW_fresh X.w)
  have old : ∀ b ∈ fp, b < s2.heap.objs.size := fun b hb => by
    obtain ⟨z, e, _⟩ := T.obj _ _ st b hb
    exact Heap.lt_size e
  have fpN : ∀ b ∈ fp, FpOk X pins (upd Hw D (SetWO X.prog X.w D [])) b ∧ b < sN.heap.objs.size := fun b hb => by
    have lt := old b hb
    have ne : b ≠ D := by rw [← eD]; exact Nat.ne_of_lt lt
    exact ⟨⟨by rw [upd_ne ne]; exact (fpok b hb).1, (fpok b hb).2⟩, by rw [hpS, Heap.size_push]; exact Nat.lt_succ_of_lt lt⟩
  have stN : tn 0 sN.heap := T.keep _ _ _ st fun b _ z e => by rw [hpS]; exact Heap.get?_push_of_some _ e
  have IB := block_start IN blk nd fpN
  obtain ⟨C, eC⟩ : ∃ C, sN.heap.objs.size = C := ⟨_, rfl⟩
  rw [eC] at IB ⊢
  show codeAny _ _ (.compStart (.SetComp elt [⟨tg, iter, ifs, 0⟩] scope pos) 0 (.ref it) (.ref D) (compEnvC scope (cellsFrom (C + 1) scope.names (cloFrom X.env.cells scope.names [])) C X.env)) _ { sN with heap := pushCells (sN.heap.push { cls := .type "dict", data := .dict #[] }) scope.names }
  have G := hg sN (upd Hw D (SetWO X.prog X.w D [])) C (cellsFrom (C + 1) scope.names (cloFrom X.env.cells scope.names [])) fp
  have Te := ht sN (upd Hw D (SetWO X.prog X.w D [])) C (cellsFrom (C + 1) scope.names (cloFrom X.env.cells scope.names [])) fp
  have El := he sN (upd Hw D (SetWO X.prog X.w D [])) C (cellsFrom (C + 1) scope.names (cloFrom X.env.cells scope.names [])) fp
  generalize eE : compEnvC scope (cellsFrom (C + 1) scope.names (cloFrom X.env.cells scope.names [])) C X.env = ce at IB G Te El ⊢
  have locals : ce.locals = C := by rw [← eE]; rfl
  have noFp : ∀ b ∈ fp, (upd Hw D (SetWO X.prog X.w D [])) b = none := fun b hb => (fpN b hb).1.1
  generalize eH : upd Hw D (SetWO X.prog X.w D []) = HN at IN IB G Te El begin0 noFp fpN
  generalize eB : ({ sN with heap := pushCells (sN.heap.push { cls := .type "dict", data := .dict #[] }) scope.names } : Shared) = sB at IB ⊢
  have stB : tn 0 sB.heap := T.keep _ _ _ stN fun b _ z e => by rw [← eB]; exact pushCells_keeps _ _ _ _ (Heap.get?_push_of_some _ e)
  have inside : ∀ {σ' : L2.St} {H' : Hp} {s' : Shared}, Inv (X.blk sN HN scope ce fp) [] σ' H' s' → (∀ b ∈ fp, H' b = none) → ∀ b ∈ fp, FpOk (X.blk sN HN scope ce fp) [] H' b := fun I' no b hb =>
    ⟨no b hb, (I'.ok.exf b hb).1, I'.ok.exfs b hb, .inl hb, fun x c e => (I'.ok.exf b hb).2 x c e, fun p hp => absurd (show p ∈ ([] : List (Addr × Obj)) ++ [] from hp) (by simp)⟩
  refine PpSet.codeAny_compStart_set ?main (T.self X.A 0 _ _ _ stB ?main)
  refine PpSet.compLoopS_any (fun n s' => ∃ i H', Inv (X.blk sN HN scope ce fp) [] (wipe σ (own.map (·.2))) H' s' ∧ tn i s'.heap ∧ (∀ b ∈ fp, H' b = none) ∧ W i n H') ?_ m0 ⟨0, HN, IB, stB, noFp, begin0⟩
  rintro n sT ⟨i, HT, IT, stT, noT, wT⟩
  rcases turn i n HT wT with ⟨stop, qq⟩ | ⟨go, Nx, next, step⟩
  · refine thnF (T.done (X.blk sN HN scope ce fp) rfl rfl rfl calm i [] sT _ HT (fun _ _ => False) IT (inside IT noT) stT stop) fun _ sF ⟨er, IF⟩ => ?_
    subst er
    have IO : Inv X pins σ HT sF := IN.call' (ch := fp) IF.os IF.base IF.hok IF.bare fun b hb => ⟨(fpN b hb).1.2.2.2.1, (fpN b hb).1.2.1, (fpN b hb).1.2.2.2.2.1, (fpN b hb).1.2.2.2.2.2⟩
    have noC : HT C = none := by rw [← locals]; exact IF.free
    obtain ⟨m, ns, _⟩ := IF.loc
    have ns : sF.heap.Ns ce.locals m := ns
    rw [locals] at ns
    obtain ⟨f0, f1, f2, f3, f4, f5⟩ := IN.fpOk (Nat.le_of_eq eC) noC
    exact ⟨m, ns, fun h'' sb => ⟨.ref D, HT, IO.turned (t' := sF.toks) (fun b z hb e => (sb.2 b hb).trans e) f0 f1 f3 f4 f5, rfl, qq⟩⟩
  · refine thnF (T.item (X.blk sN HN scope ce fp) rfl rfl rfl calm i [] sT _ HT (fun _ _ => False) IT (inside IT noT) stT go) fun _ s5 ⟨u, er, got⟩ => ?_
    subst er
    refine thnF got fun _ s6 ⟨x, H6, I6, r6, y6, st6, no6⟩ => ?_
    have I6' := I6.pinned (inside I6 no6) (T.obj _ _ st6)
    refine thnF (G.run _ s6 _ H6 x u _ I6' r6 (step x H6 y6)) fun _ s7 ⟨σ7, H7, I7, w7, q7⟩ => ?_
    refine thnF (Te.run _ s7 σ7 H7 _ I7 q7) fun b s8 ⟨H8, I8, q8⟩ => ?_
    have close : ∀ {s' : Shared} {H' : Hp}, Inv (X.blk sN HN scope ce fp) ([] ++ pinsAt fp s6.heap) σ7 H' s' → Nx H' → ∃ m, m < n ∧ ∃ i H', Inv (X.blk sN HN scope ce fp) [] (wipe σ (own.map (·.2))) H' s' ∧ tn i s'.heap ∧ (∀ b ∈ fp, H' b = none) ∧ W i m H' := fun {s' H'} I' nx => by
      obtain ⟨m', lt, w'⟩ := next H' nx
      have pins' : ∀ b ∈ fp, ∀ z, s6.heap.get? b = some z → s'.heap.get? b = some z ∧ H' b = none := fun b hb z e => by
        have p := I'.pin (b, z) (List.mem_append_right _ (List.mem_append_right _ (mem_pinsAt hb e)))
        exact ⟨p.1, p.2.1⟩
      have len : (wipe σ (own.map (·.2))).length = σ7.length := by rw [← w7, wipe_length]
      refine ⟨m', lt, i + 1, H', (I'.unpinned (pins := [])).weak len (fun j v e => ?_), T.keep _ _ _ st6 fun b hb z e => (pins' b hb z e).1, fun b hb => ?_, w'⟩
      · rw [← w7] at e
        exact (wipe_some e).1
      · obtain ⟨z, e, _⟩ := T.obj _ _ st6 b hb
        exact (pins' b hb z e).2
    cases b with
    | false =>
      simp only [Bool.false_eq_true, if_false] at q8 ⊢
      exact close I8 q8
    | true =>
      simp only [if_true] at q8 ⊢
      refine thnF (El.run _ s8 σ7 H8 _ I8 q8) fun z s9 ⟨y, H9, I9, r9, k, L, ey, hD9, room, nx⟩ => ?_
      subst ey
      exact addW (X := X.blk sN HN scope ce fp) I9 hD9 r9 room fun L2 s10 eL I10 => close I10 (nx L2 eL)
end
section
open HT TL
/-- a set comprehension that picks, over a walk -/
theorem sc_pick {P : Program} {w : World} {α : Type} {J : It} {n : Nat} {G : Hp → Prop} {Y : Nat → Hp → V → Hp → Prop} (wk : Walk J n G Y) (l : List α) (hl : l.length = n) (hn : n ≤ 3000) (p : α → Bool) (v : α → Key) {g : TG} {tt : TT} {te : TE} {vs : List Nat} {σ : L2.St} {H1 : Hp} {D : Addr} {Qd : Hp → Prop}
    (hD : H1 D = none) (hG : ∀ H, Same H1 H → G H)
    (hs : ∀ i x z H H' (Tk : V → Hp → Prop) (Nk : Hp → Prop), l[i]? = some z → Same H1 H → Y i H x H' → (∀ H4, p z = true → Same H H4 → Tk (kV (v z)) H4) → (∀ H4, p z = false → Same H H4 → Nk H4) →
      g x (wipe σ vs) H' fun σ2 H2 => wipe σ2 vs = wipe σ vs ∧ tt σ2 H2 fun b H3 => if b = true then te σ2 H3 Tk else Nk H3)
    (hd : ∀ H (L : List Key), Same H1 H → L.Nodup → (∀ k, k ∈ L ↔ ∃ z ∈ l, p z = true ∧ v z = k) → H D = some (SetWO P w D L) → Qd H) :
    ∃ W : Nat → Nat → Hp → Prop, (∃ m, W 0 m (upd H1 D (SetWO P w D []))) ∧ ∀ i m H2, W i m H2 →
      (J.stop i H2 ∧ Qd H2) ∨ (J.go i H2 ∧ ∃ Nx : Hp → Prop, (∀ H3, Nx H3 → ∃ m', m' < m ∧ W (i + 1) m' H3) ∧ ∀ x H3, J.yld i H2 x H3 → g x (wipe σ vs) H3 fun σ2 H4 => wipe σ2 vs = wipe σ vs ∧ tt σ2 H4 fun b H5 =>
        if b = true then te σ2 H5 (ScEl P w D Nx) else Nx H5) := by
  refine ⟨fun i m H => m = n - i ∧ i ≤ n ∧ Same H1 H ∧ ∃ L : List Key, L.Nodup ∧ L.length ≤ i ∧ (∀ k, k ∈ L ↔ ∃ z ∈ l.take i, p z = true ∧ v z = k) ∧ H D = some (SetWO P w D L), ⟨n, rfl, Nat.zero_le _, same_upd hD, [], List.nodup_nil, Nat.le_refl _, fun k => ⟨fun h => (by cases h), fun ⟨_, hz, _⟩ => (by cases hz)⟩, upd_same⟩, ?_⟩
  rintro i m H ⟨rfl, hi, s1, L, nd, len, mem, hD1⟩
  rcases Nat.lt_or_ge i n with lt | ge
  · have lt' : i < l.length := by omega
    obtain ⟨z, ez⟩ : ∃ z, l[i]? = some z := ⟨_, List.getElem?_eq_getElem lt'⟩
    have etk : l.take (i + 1) = l.take i ++ [z] := by
      obtain ⟨h1, h2⟩ := List.getElem?_eq_some_iff.mp ez
      rw [List.take_succ_eq_append_getElem h1, h2]
    refine .inr ⟨wk.goes i H lt (hG H s1), fun H' => i + 1 ≤ n ∧ Same H1 H' ∧ ∃ L : List Key, L.Nodup ∧ L.length ≤ i + 1 ∧ (∀ k, k ∈ L ↔ ∃ z ∈ l.take (i + 1), p z = true ∧ v z = k) ∧ H' D = some (SetWO P w D L), fun H' nx => ⟨n - (i + 1), by omega, rfl, nx⟩, fun x H' y => ?_⟩
    refine hs i x z H H' _ _ ez s1 (wk.yields i H x H' lt (hG H s1) y) (fun H4 hp s4 => ?_) (fun H4 hp s4 => ?_)
    · refine ⟨v z, L, rfl, s4 _ _ hD1, ?_, fun L2 hL => ⟨lt, fun b o e => ?_, L2, ?_, ?_, fun k => ?_, upd_same⟩⟩
      · have h2 : (3001 : Nat) < scanBound := by decide
        omega
      · rw [upd_ne (ne_of_none e hD)]
        exact s4 _ _ (s1 b o e)
      · by_cases q : v z ∈ L
        · rw [hL.old q]
          exact nd
        · exact (hL.new q).nodup_iff.mpr (List.nodup_cons.mpr ⟨q, nd⟩)
      · by_cases q : v z ∈ L
        · rw [hL.old q]
          omega
        · rw [(hL.new q).length_eq, List.length_cons]
          omega
      · rw [etk]
        have side : (∃ y ∈ l.take i ++ [z], p y = true ∧ v y = k) ↔ k ∈ L ∨ k = v z := by
          rw [mem k]
          constructor
          · rintro ⟨y, hy, h1, h2⟩
            rcases List.mem_append.mp hy with h | h
            · exact .inl ⟨y, h, h1, h2⟩
            · rw [List.mem_singleton.mp h] at h2
              exact .inr h2.symm
          · rintro (⟨y, hy, h1, h2⟩ | h)
            · exact ⟨y, List.mem_append_left _ hy, h1, h2⟩
            · exact ⟨z, List.mem_append_right _ (List.mem_singleton.mpr rfl), hp, h.symm⟩
        rw [side]
        by_cases q : v z ∈ L
        · rw [hL.old q]
          exact ⟨.inl, fun h => h.elim id fun e => e ▸ q⟩
        · rw [(hL.new q).mem_iff, List.mem_cons]
          exact Or.comm
    · refine ⟨lt, s1.trans s4, L, nd, by omega, fun k => ?_, s4 _ _ hD1⟩
      rw [mem k, etk]
      constructor
      · rintro ⟨y, hy, h⟩
        exact ⟨y, List.mem_append_left _ hy, h⟩
      · rintro ⟨y, hy, h⟩
        rcases List.mem_append.mp hy with h' | h'
        · exact ⟨y, h', h⟩
        · rw [List.mem_singleton.mp h', hp] at h
          exact absurd h.1 Bool.false_ne_true
  · obtain rfl : i = n := by omega
    rw [← hl, List.take_length] at mem
    exact .inl ⟨wk.stops H (hG H s1), hd H L s1 nd mem hD1⟩
end
/-! ### sorted of such a set -/
section
variable {X : Cx}
theorem perm_inl {xs : List Int} {ks : List Key} (h : ks.Perm (xs.map Sum.inl)) : ∃ ys : List Int, ks = ys.map Sum.inl ∧ ys.Perm xs := by
  obtain ⟨ys, p, e⟩ := pair_perm (R := fun (x : Int) (k : Key) => k = Sum.inl x) h.symm (xs := xs) (by
    clear h
    induction xs with
    | nil => exact .nil
    | cons x xs ih => exact .cons rfl ih)
  refine ⟨ys, ?_, p⟩
  clear p h
  induction e with
  | nil => rfl
  | cons r _ ih => rw [List.map_cons, r, ih]
theorem vals_back {L : List Key} : ∀ {us ws : List Value}, Vals (L.map kV) us → us.Perm ws → ∃ L2 : List Key, L2.Perm L ∧ Vals (L2.map kV) ws := fun {us ws} h p => by
  have q : Paired (fun (k : Key) (u : Value) => RelV (kV k) u) L us := by
    clear p
    induction L generalizing us with
    | nil => cases h; exact .nil
    | cons k L ih =>
      cases h with
      | cons r t => exact .cons r (ih t)
  obtain ⟨L2, p2, q2⟩ := pair_perm p q
  refine ⟨L2, p2, ?_⟩
  clear p2 q h p
  induction q2 with
  | nil => exact .nil
  | cons r _ ih => exact .cons r ih
end
end DL

set_option Elab.async false
set_option maxRecDepth 100000
set_option maxHeartbeats 2000000
namespace DL
open PySem L2 HT TL RZ
/-! ### comprehensions whose elements are new things -/
/-! ### dicts by standings, made by a comprehension -/
theorem dc_tab {J : It} {n : Nat} {G : Hp → Prop} {Y : Nat → Hp → V → Hp → Prop} (wk : Walk J n G Y) (rs : List (List Bool)) (hl : rs.length = n) (nd : rs.Nodup) (hn : n ≤ 3000) (p : List Bool → Bool) (R : List Bool → V → Hp → Prop) {g : TG} {tt : TT} {tk tv : TE} {vs : List Nat} {σ : L2.St} {H1 : Hp} {D : Addr} {Qd : Hp → Prop}
    (hD : H1 D = none) (hG : ∀ H, Same H1 H → G H) (rS : ∀ st v H H', Same H H' → R st v H → R st v H') (rU : ∀ st v H kvs o, H D = some (.dK kvs) → R st v H → R st v (upd H D o))
    (hs : ∀ i x st H H' (Tk : V → VK) (Nk : Hp → Prop), rs[i]? = some st → Same H1 H → Y i H x H' → (∀ v H5, p st = true → Same H H5 → R st v H5 → Tk (.str (sstr st)) v H5) → (∀ H4, p st = false → Same H H4 → Nk H4) →
      g x (wipe σ vs) H' fun σ2 H2 => wipe σ2 vs = wipe σ vs ∧ tt σ2 H2 fun b H3 => if b = true then tk σ2 H3 (fun y H4 => tv σ2 H4 (Tk y)) else Nk H3)
    (hd : ∀ H (f : List Bool → V), Same H1 H → H D = some (.dK (tabV (rs.filter p) f)) → (∀ st ∈ rs.filter p, R st (f st) H) → Qd H) :
    ∃ W : Nat → Nat → Hp → Prop, (∃ m, W 0 m (upd H1 D (.dK []))) ∧ ∀ i m H, W i m H →
      (J.stop i H ∧ Qd H) ∨ (J.go i H ∧ ∃ Nx : Hp → Prop, (∀ H', Nx H' → ∃ m', m' < m ∧ W (i + 1) m' H') ∧ ∀ x H', J.yld i H x H' → g x (wipe σ vs) H' fun σ2 H2 => wipe σ2 vs = wipe σ vs ∧ tt σ2 H2 fun b H3 =>
        if b = true then tk σ2 H3 fun y H4 => tv σ2 H4 fun z H5 => ∃ kvs k, y = kV k ∧ H5 D = some (.dK kvs) ∧ kvs.length < sizeLine ∧ Nx (upd H5 D (.dK (putK kvs k z))) else Nx H3) := by
  refine dc_it wk (fun i H' => Same H1 H' ∧ ∃ f : List Bool → V, H' D = some (.dK (tabV ((rs.take i).filter p) f)) ∧ ∀ st ∈ (rs.take i).filter p, R st (f st) H') ⟨same_upd hD, fun _ => .non, upd_same, fun st h => by cases h⟩ (fun i H' _ q => hG H' q.1) ?_ ?_
  · rintro i x H H' hi ⟨s1, f, hD1, hf⟩ y
    have hi' : i < rs.length := by omega
    have ez : rs[i]? = some rs[i] := List.getElem?_eq_getElem hi'
    have etk : rs.take (i + 1) = rs.take i ++ [rs[i]] := List.take_succ_eq_append_getElem hi'
    have hni : rs[i] ∉ rs.take i := by
      have := nd.sublist (List.take_sublist (i + 1) rs)
      rw [etk, List.nodup_append] at this
      exact fun h => this.2.2 _ h _ (List.mem_singleton.mpr rfl) rfl
    have hnf : rs[i] ∉ (rs.take i).filter p := fun h => hni (List.mem_filter.mp h).1
    refine hs i x rs[i] H H' _ _ ez s1 y (fun v H5 hp s5 hv => ?_) (fun H4 hp s4 => ?_)
    · have hD5 := s5 _ _ hD1
      refine ⟨_, .inr (sstr rs[i]), rfl, hD5, ?_, fun b o e => ?_, fun z => if z = rs[i] then v else f z, ?_, fun st hst => ?_⟩
      · rw [tab_len]
        have h1 := List.length_filter_le p (rs.take i)
        rw [List.length_take] at h1
        have h2 : (3000 : Nat) < sizeLine := by decide
        omega
      · rw [upd_ne (ne_of_none e hD)]
        exact s5 _ _ (s1 b o e)
      · rw [upd_same, etk, List.filter_append, List.filter_cons_of_pos hp, List.filter_nil, tab_snoc hnf]
      · rw [etk, List.filter_append, List.filter_cons_of_pos hp, List.filter_nil] at hst
        rcases List.mem_append.mp hst with h | h
        · have e : st ≠ rs[i] := fun e => hnf (e ▸ h)
          show R st (if st = rs[i] then v else f st) _
          rw [if_neg e]
          exact rU _ _ _ _ _ hD5 (rS _ _ _ _ s5 (hf st h))
        · rw [List.mem_singleton.mp h]
          show R _ (if rs[i] = rs[i] then v else f rs[i]) _
          rw [if_pos rfl]
          exact rU _ _ _ _ _ hD5 hv
    · have e2 : (rs.take (i + 1)).filter p = (rs.take i).filter p := by rw [etk, List.filter_append, List.filter_cons_of_neg (by rw [hp]; exact Bool.false_ne_true), List.filter_nil, List.append_nil]
      rw [e2]
      exact ⟨s1.trans s4, f, s4 _ _ hD1, fun st hst => rS _ _ _ _ s4 (hf st hst)⟩
  · rintro H ⟨s1, f, hD1, hf⟩
    rw [← hl, List.take_length] at hD1 hf
    exact hd H f s1 hD1 hf
/-- keys of a locked dict by standings -/
theorem walk_tabK {d : Addr} {o : Obj} {rs : List (List Bool)} {f : List Bool → V} : Walk (Itk d o (tabV rs f)) rs.length (fun H => H d = some (.frz o (.dK (tabV rs f)))) (fun i H x H' => H' = H ∧ ∃ st, rs[i]? = some st ∧ x = .str (sstr st)) := by
  rw [← tab_len rs f]
  refine (walk_keys (d := d) (o := o) (kvs := tabV rs f)).mono (fun H h => h) fun i H x H' _ _ y => ⟨y.1, ?_⟩
  obtain ⟨_, k, v, e, rfl⟩ := y
  obtain ⟨st, e1, rfl, rfl⟩ := tab_get e
  exact ⟨st, e1, rfl⟩
/-! ### pulls by standings, any of them -/
abbrev Pl := Int × List Bool
def plO (e : Pl) : HO := .tup [.int e.1, .str (sstr e.2)]
structure PulG (H : Hp) (L : List Pl) (l : Addr) : Prop where
  h : ∃ ts : List (Addr × Pl), H l = some (.lst (ts.map fun t => V.ref t.1)) ∧ ts.map (·.2) = L ∧ ∀ t ∈ ts, H t.1 = some (plO t.2)
def LstTup : HO → Prop
  | .lst _ => True
  | .tup _ => True
  | _ => False
theorem PulG.keep {H H' : Hp} {L : List Pl} {l : Addr} (p : PulG H L l) (k : ∀ b o, LstTup o → H b = some o → H' b = some o) : PulG H' L l := by
  obtain ⟨ts, a, b, c⟩ := p.h
  exact ⟨⟨ts, k _ _ True.intro a, b, fun t ht => k _ _ True.intro (c t ht)⟩⟩
theorem PulG.same {H H' : Hp} {L : List Pl} {l : Addr} (p : PulG H L l) (s : Same H H') : PulG H' L l := p.keep fun b o _ e => s b o e
theorem lstTup_ne {H : Hp} {D b : Addr} {o u : HO} (hD : H D = some u) (hu : ¬ LstTup u) (t : LstTup o) (e : H b = some o) : b ≠ D := fun z => by
  subst z
  rw [e] at hD
  injection hD with hD
  exact hu (hD ▸ t)
theorem PulG.upd {H : Hp} {L : List Pl} {l D : Addr} {o u : HO} (p : PulG H L l) (hD : H D = some u) (hu : ¬ LstTup u) : PulG (upd H D o) L l := p.keep fun b z t e => by
  rw [upd_ne (lstTup_ne hD hu t e)]
  exact e
def PulsG (H : Hp) (rs : List (List Bool)) (F : List Bool → List Pl) (f : List Bool → V) : Prop := ∀ st ∈ rs, ∃ l, f st = .ref l ∧ PulG H (F st) l
theorem PulsG.keep {H H' : Hp} {rs : List (List Bool)} {F : List Bool → List Pl} {f : List Bool → V} (p : PulsG H rs F f) (k : ∀ b o, LstTup o → H b = some o → H' b = some o) : PulsG H' rs F f := fun st h => by
  obtain ⟨l, e, q⟩ := p st h
  exact ⟨l, e, q.keep k⟩
theorem PulsG.same {H H' : Hp} {rs : List (List Bool)} {F : List Bool → List Pl} {f : List Bool → V} (p : PulsG H rs F f) (s : Same H H') : PulsG H' rs F f := p.keep fun b o _ e => s b o e
theorem PulsG.upd {H : Hp} {rs : List (List Bool)} {F : List Bool → List Pl} {f : List Bool → V} {D : Addr} {o u : HO} (p : PulsG H rs F f) (hD : H D = some u) (hu : ¬ LstTup u) : PulsG (upd H D o) rs F f := p.keep fun b z t e => by
  rw [upd_ne (lstTup_ne hD hu t e)]
  exact e
def allP (bs : List Bar) (st : List Bool) : List Pl := (freeL bs st).map fun d => (d, flip st d)
theorem PulsAt.toG {H : Hp} {bs : List Bar} {rs : List (List Bool)} {f : List Bool → V} (p : PulsAt H bs rs f) : PulsG H rs (allP bs) f := fun st h => by
  obtain ⟨l, e, q⟩ := p st h
  obtain ⟨ts, h1, h2, h3⟩ := q.h
  refine ⟨l, e, ⟨⟨ts.map fun t => (t.1, (t.2, flip st t.2)), ?_, ?_, fun t ht => ?_⟩⟩⟩
  · rw [List.map_map]
    exact h1
  · unfold allP
    rw [← h2, List.map_map, List.map_map]
    rfl
  · obtain ⟨u, hu, rfl⟩ := List.mem_map.mp ht
    exact h3 u hu
/-- the standings are closed under the pulls F -/
structure Clo (rs : List (List Bool)) (F : List Bool → List Pl) : Prop where
  nd : rs.Nodup
  few : rs.length ≤ 128
  ex : ∀ st ∈ rs, ∀ e ∈ F st, e.2 ∈ rs
  fewP : ∀ st ∈ rs, (F st).length ≤ 7
theorem Reach.clo {bs : List Bar} {n : Nat} {rs : List (List Bool)} (R : Reach bs n rs) (n7 : n ≤ 7) : Clo rs (allP bs) := by
  refine ⟨R.nd, R.few, fun st h e he => ?_, fun st h => ?_⟩
  · obtain ⟨d, hd, rfl⟩ := List.mem_map.mp he
    exact R.ex st h d hd
  · unfold allP
    rw [List.length_map]
    have := free_len bs st
    have := R.len st h
    omega
theorem Clo.filter {rs : List (List Bool)} {F : List Bool → List Pl} (C : Clo rs F) (q : List Bool → Pl → Bool) : Clo rs fun st => (F st).filter (q st) := by
  refine ⟨C.nd, C.few, fun st h e he => C.ex st h e (List.mem_filter.mp he).1, fun st h => ?_⟩
  exact Nat.le_trans (List.length_filter_le _ _) (C.fewP st h)
end DL

set_option Elab.async false
set_option maxRecDepth 100000
set_option maxHeartbeats 2000000
namespace DL
open PySem L2 HT TL RZ
/-! ### the first row that ends in none of told standings -/
def txS (S : List (List Bool)) : List V := (S.map sstr).map V.str
theorem txS_len (S : List (List Bool)) : (txS S).length = S.length := by unfold txS; rw [List.length_map, List.length_map]
theorem txS_in (st : List Bool) (S : List (List Bool)) : inV (.str (sstr st)) (txS S) = decide (st ∈ S) := by
  unfold txS
  rw [inV_strs]
  refine decide_eq_decide.mpr ⟨fun h => ?_, fun h => List.mem_map_of_mem (f := sstr) h⟩
  obtain ⟨x, hx, e⟩ := List.mem_map.mp h
  exact sstr_inj e ▸ hx
theorem txS_at (S : List (List Bool)) (i : Nat) : (txS S)[i]? = S[i]?.map fun st => V.str (sstr st) := by
  unfold txS
  rw [List.getElem?_map, List.getElem?_map, Option.map_map]
  rfl
theorem txS_snoc (S : List (List Bool)) (st : List Bool) : txS (S ++ [st]) = txS S ++ [V.str (sstr st)] := by
  unfold txS
  rw [List.map_append, List.map_append]
  rfl
structure spBeside (C : Addr) (vs : List V) (H : Hp) (Q : VK) (_ : XK) : Prop where
  h : ∃ (c l : Addr) (bs : List Bar) (n : Nat) (S : List (List Bool)), vs = [.ref c, .ref l] ∧ CabOk C H c n bs ∧ H l = some (.lst (txS S)) ∧
    ∀ (ks : List KEnt) (H' : Hp), Same H H' → RowsEl H' ks → BI bs (shutS n) ks.length (ks.map (·.2)) → Q (match ks.find? (fun k => !decide (k.2.1 ∈ S)) with | some k => .ref k.1 | none => .non) H'
theorem op_notInK {X : Cx} {K : PySem.W.Frag} (hK : X.K = K) : OpR X (compareOp .NotIn) (rIn K true) := by subst hK; exact op_notIn_seq
def tTruthS (K : PySem.W.Frag) (ta : TE) : TT := fun σ H Q => ta σ H fun x H' => ∃ k, TruV K x H' k ∧ Q k H'
theorem pt_truthS {X : Cx} {K : PySem.W.Frag} {a : Expr} {ta : TE} (hK : X.K = K) (ha : PE X a ta) (he : ∀ whole, isTrue a X.env whole = (do let v ← whole; standAt a.pos; holding [v] (truthy v)) := by intro _; rfl) : PT X a (tTruthS K ta) := by subst hK; exact pt_truth ha he
/-- from there a row leads to one of the goals -/
inductive LeadTo (F : List Bool → List Pl) (G : List (List Bool)) : List Bool → Prop
  | goal {st : List Bool} : st ∈ G → LeadTo F G st
  | step {st : List Bool} {e : Pl} : e ∈ F st → LeadTo F G e.2 → LeadTo F G st
structure spLeading (vs : List V) (H : Hp) (Q : VK) (_ : XK) : Prop where
  h : ∃ (p q : Addr) (od : Obj) (rs : List (List Bool)) (F : List Bool → List Pl) (f : List Bool → V) (G : List (List Bool)), vs = [.ref p, .ref q] ∧ H p = some (.frz od (.dK (tabV rs f))) ∧ Clo rs F ∧ PulsG H rs F f ∧
    H q = some (.lst (txS G)) ∧ G.Nodup ∧ (∀ g ∈ G, g ∈ rs) ∧
    ∀ (l : Addr) (L : List (List Bool)) (H' : Hp), H l = none → Same H H' → H' l = some (.lst (txS L)) → (∀ st ∈ rs, st ∈ L ↔ LeadTo F G st) → Q (.ref l) H'
section
variable {P : Program} {w : World} {K : PySem.W.Frag} {mg : Str → Option Value} {base : Heap}
abbrev nFB : List Str := ["cabinet", "standings", "standing", "row"]
theorem scFB : FnScope nFB ["cabinet", "standings"] (defScope s_first_row_beside) := ⟨rfl, rfl, rfl, by decide +kernel, rfl, by decide +kernel, by decide +kernel⟩
theorem ok_beside {f f1 C : Addr} {fd fd1 : FuncData} (F : Fun K "first_row_beside" "first_row_beside" s_first_row_beside f fd)
    (G1 : FnOk P w K mg base CX0 12 f1 fd1 ["cabinet"] (spFirstRows C)) (g1 : mg "first_rows" = some (.ref f1)) (k1 : PySem.W.keepIn K (.ref f1) = true) (b1 : Binds K fd1 ["cabinet"] []) :
    FnOk P w K mg base CX0 14 f fd ["cabinet", "standings"] (spBeside C) := by
  refine F.ok scFB (fun vs H Q E h => ?_) (fun cdv A outer s H vs Q E hr h => ?_)
  · obtain ⟨c, l, bs, n, S, rfl, _⟩ := h.h
    rfl
  · obtain ⟨c, l, bs, n, S, rfl, B, hl, k⟩ := h.h
    refine ⟨_, pss_cons (ps_for PassesOwn.never rfl (pi_items (pe_frz (pe_call G1 (hr.mono (by decide)) rfl g1 k1 b1 .nil pass0 (pa_cons (pv 0) pa_nil)))) (pg_tup (by rfl) (pgs_cons (pg_name (i := 2) scFB.nd rfl (Or.inl rfl)) (pgs_cons (pg_name (i := 3) scFB.nd rfl (Or.inl rfl)) pgs_nil)))
        (pss_one (ps_if (pt_cmpR (op_notInK (K := K) rfl) (pv 2) (pv 1) (by rfl)) (pss_one (ps_ret (pv 3))) pss_nil)))
      (pss_one (ps_ret pe_non)), ?_⟩
    refine ⟨_, rfl, ⟨⟨c, bs, n, rfl, B, fun a ks H1 ha s1 hA hE I => ?_⟩⟩⟩
    refine ⟨a, _, rfl, hA, trivial, fun od => ?_⟩
    obtain ⟨s2, R2⟩ := rows_lock od ha s1 hA hE
    generalize (upd H1 a (.frz od (.dK (kvsOf ks)))) = H2 at s2 R2 ⊢
    refine ⟨a, od, _, rfl, R2.at', ?_⟩
    refine for_it walk_itemsE (fun i σ H' => ∃ u3 u4 : Option V, σ = [some (.ref c), some (.ref l), u3, u4] ∧ Same H2 H' ∧ ∀ k ∈ ks.take i, (!decide (k.2.1 ∈ S)) = false) ⟨_, _, rfl, Same.refl _, fun k hk => by cases hk⟩ (fun i σ H' _ ⟨_, _, _, s3, _⟩ => s3 _ _ R2.at') ?_ ?_
    · rintro i x σ H3 H4 hi ⟨u3, u4, rfl, s3, hno⟩ ⟨T, kk, rfl, hT, rfl, ek⟩
      have s4 := s3.trans (same_upd (o := .tup [.str (sstr kk.2.1), .ref kk.1]) hT)
      refine ⟨T, _, rfl, SqT.of' upd_same, rfl, _, _, rfl, _, _, rfl, rfl, ?_⟩
      refine ⟨_, rfl, _, rfl, l, _, rfl, .inl (SqL.of (s4 _ _ (s2 _ _ hl))), rfl, flat_strs _, ?_⟩
      rw [if_pos rfl, txS_in]
      refine ⟨_, rfl, ?_⟩
      cases ef : (!decide (kk.2.1 ∈ S)) with
      | true =>
        refine iteT ⟨_, rfl, ?_⟩
        have := k ks _ (s2.trans s4) (R2.el.same s4) I
        have hf : ks.find? (fun k => !decide (k.2.1 ∈ S)) = some kk := by
          obtain ⟨hil, e⟩ := List.getElem?_eq_some_iff.mp ek
          have : ks = ks.take i ++ kk :: ks.drop (i + 1) := by
            rw [← e, ← List.drop_eq_getElem_cons hil, List.take_append_drop]
          rw [this, List.find?_append, List.find?_eq_none.mpr (fun k hk => by rw [hno k hk]; exact Bool.false_ne_true), Option.none_or, List.find?_cons, ef]
        rw [hf] at this
        exact this
      | false =>
        refine iteF ⟨_, _, rfl, s4, fun k hk => ?_⟩
        rcases mem_take_succ ek hk with hk | rfl
        · exact hno k hk
        · exact ef
    · rintro σ H3 ⟨u3, u4, rfl, s3, hno⟩
      rw [List.take_length] at hno
      have := k ks H3 (s2.trans s3) (R2.el.same s3) I
      rw [List.find?_eq_none.mpr (fun k hk => by rw [hno k hk]; exact Bool.false_ne_true)] at this
      exact this
abbrev nLT : List Str := ["pulls", "goals", "standing", "ahead", "_", "beyond", "leading", "queue", "place", "goal"]
theorem scLT : FnScope nLT ["pulls", "goals"] (defScope s_leading_to) := ⟨rfl, rfl, rfl, by decide +kernel, rfl, by decide +kernel, by decide +kernel⟩
/-- at D: for each standing a list of its own of those ahead of it -/
structure AheadAt (H0 H : Hp) (D : Addr) (rs : List (List Bool)) (A : List Bool → List (List Bool)) (a : List Bool → Addr) : Prop where
  d : H D = some (.dK (tabV rs fun st => .ref (a st)))
  el : ∀ st ∈ rs, H (a st) = some (.lst (txS (A st)))
  inj : ∀ x ∈ rs, ∀ y ∈ rs, a x = a y → x = y
  new : ∀ st ∈ rs, H0 (a st) = none
theorem AheadAt.same {H0 H H' : Hp} {D : Addr} {rs : List (List Bool)} {A : List Bool → List (List Bool)} {a : List Bool → Addr} (p : AheadAt H0 H D rs A a) (s : Same H H') : AheadAt H0 H' D rs A a :=
  ⟨s _ _ p.d, fun st h => s _ _ (p.el st h), p.inj, p.new⟩
theorem tab_congr {rs : List (List Bool)} {f g : List Bool → V} (h : ∀ st ∈ rs, f st = g st) : tabV rs f = tabV rs g := List.map_congr_left fun st hs => by rw [h st hs]
theorem txS_eq (S : List (List Bool)) : txS S = S.map fun st => V.str (sstr st) := by unfold txS; rw [List.map_map]; rfl
theorem AheadAt.push {H0 H : Hp} {D : Addr} {rs : List (List Bool)} {A : List Bool → List (List Bool)} {a : List Bool → Addr} (p : AheadAt H0 H D rs A a) {x : List Bool} (hx : x ∈ rs) (s : List Bool) :
    AheadAt H0 (upd H (a x) (.lst (txS (A x) ++ [.str (sstr s)]))) D rs (fun z => if z = x then A z ++ [s] else A z) a := by
  refine ⟨?_, fun st h => ?_, p.inj, p.new⟩
  · rw [upd_ne (ne_of p.d (p.el x hx) (by intro z; cases z))]
    exact p.d
  · by_cases e : st = x
    · subst e
      rw [upd_same]
      show _ = some (HO.lst (txS (if st = st then A st ++ [s] else A st)))
      rw [if_pos rfl, txS_snoc]
    · have ne : a st ≠ a x := fun z => e (p.inj st h x hx z)
      rw [upd_ne ne, p.el st h]
      show _ = some (HO.lst (txS (if st = x then A st ++ [s] else A st)))
      rw [if_neg e]
theorem nd_le {α : Type} [DecidableEq α] : ∀ {L rs : List α}, L.Nodup → (∀ x ∈ L, x ∈ rs) → L.length ≤ rs.length
  | [], _, _, _ => Nat.zero_le _
  | a :: L, rs, nd, h => by
    rw [List.nodup_cons] at nd
    have ha := h a List.mem_cons_self
    have := nd_le (rs := rs.erase a) nd.2 fun x hx => (List.mem_erase_of_ne (fun e : x = a => nd.1 (by rw [← e]; exact hx))).mpr (h x (List.mem_cons_of_mem _ hx))
    rw [List.length_erase_of_mem ha] at this
    have : 0 < rs.length := List.length_pos_of_mem ha
    rw [List.length_cons]
    omega
/-- the search back: L is found, W is to be gone on from -/
structure LeadI (F : List Bool → List Pl) (A : List Bool → List (List Bool)) (G rs L W : List (List Bool)) : Prop where
  nd : L.Nodup
  ndW : W.Nodup
  ok : ∀ x ∈ L, x ∈ rs ∧ LeadTo F G x
  sub : ∀ x ∈ W, x ∈ L
  goal : ∀ x ∈ G, x ∈ L
  clo : ∀ x ∈ L, x ∈ W ∨ ∀ s ∈ A x, s ∈ L
def muL (d q : Addr) (H : Hp) : Nat := 2 * (128 - (match H d with | some (.dK kvs) => kvs.length | _ => 0)) + (match H q with | some (.lst xs) => xs.length | _ => 0)
theorem muL_of {d q : Addr} {H : Hp} {kvs : List (Key × V)} {xs : List V} (h1 : H d = some (.dK kvs)) (h2 : H q = some (.lst xs)) : muL d q H = 2 * (128 - kvs.length) + xs.length := by unfold muL; rw [h1, h2]
theorem ok_leading {f : Addr} {fd : FuncData} (F : Fun K "leading_to" "leading_to" s_leading_to f fd) (zL : mg "list" = none) :
    FnOk P w K mg base CX0 1 f fd ["pulls", "goals"] spLeading := by
  refine F.ok scLT (fun vs H Q E h => ?_) (fun cdv A outer s H vs Q E hr h => ?_)
  · obtain ⟨p, q, _, _, _, _, _, rfl, _⟩ := h.h
    rfl
  · obtain ⟨p, q, od, rs, Fp, f, G, rfl, hp, CC, PG, hq, ndG, inG, k⟩ := h.h
    have hu := hu_of hr
    refine ⟨_, pss_cons (ps_setDc (j := 3) (own := [("standing", 2)]) (g := gName 2) (tt := tYes) (by rfl) scLT.nd rfl rfl (by rfl) (pi_keys (pv 0)) (blkOk_by (N := nLT) (sc := defScope s_leading_to) (by decide +kernel)) (fun _ _ _ _ _ => pg_name (i := 2) scLT.nd rfl (Or.inl rfl)) (fun _ _ _ _ _ => pts_nil) (fun _ _ _ _ _ => pv 2) (fun _ _ _ _ _ => pe_lst pa_nil))
      (pss_cons (ps_for PassesOwn.never rfl (pi_keys (pv 0)) (pg_name (i := 2) scLT.nd rfl (Or.inl rfl))
        (pss_one (ps_for PassesOwn.never rfl (pi_list (pe_dget hu (pv 0) (pv 2) (fun _ _ => rfl))) (pg_tup (by rfl) (pgs_cons (pg_name (i := 4) scLT.nd rfl (Or.inl rfl)) (pgs_cons (pg_name (i := 5) scLT.nd rfl (Or.inl rfl)) pgs_nil)))
          (pss_one (ps_expr (pe_bm PySem.F.plainAttrs_list PySem.F.slot_list_append PySem.F.type_list_append mt_append (pe_dget hu (pv 3) (pv 5) (fun _ _ => rfl)) (pa_cons (pv 2) pa_nil)))))))
      (pss_cons (ps_setDc (j := 6) (own := [("goal", 9)]) (g := gName 9) (tt := tYes) (by rfl) scLT.nd rfl rfl (by rfl) (pi_list (pv 1)) (blkOk_by (N := nLT) (sc := defScope s_leading_to) (by decide +kernel)) (fun _ _ _ _ _ => pg_name (i := 9) scLT.nd rfl (Or.inl rfl)) (fun _ _ _ _ _ => pts_nil) (fun _ _ _ _ _ => pv 9) (fun _ _ _ _ _ => pe_bl))
      (pss_cons (ps_set (i := 7) scLT.nd rfl (Or.inl rfl) (pe_callTy call_list_of (by rfl) zL (by decide +kernel) (pa_cons (pv 1) pa_nil)))
      (pss_cons (ps_while PassesOwn.never (pt_truthS (K := K) rfl (pv 7))
        (pss_cons (ps_set (i := 8) scLT.nd rfl (Or.inl rfl) (pe_bm0 PySem.F.plainAttrs_list PySem.F.slot_list_pop PySem.F.type_list_pop mt_pop (pv 7)))
        (pss_one (ps_for PassesOwn.never rfl (pi_list (pe_dget hu (pv 3) (pv 8) (fun _ _ => rfl))) (pg_name (i := 2) scLT.nd rfl (Or.inl rfl))
          (pss_one (ps_if (pt_cmp (pc_dnotin hu (pv 2) (pv 6)))
            (pss_cons (ps_dput hu (pv 6) (pv 2) pe_bl rfl)
            (pss_one (ps_expr (pe_bm PySem.F.plainAttrs_list PySem.F.slot_list_append PySem.F.type_list_append mt_append (pv 7) (pa_cons (pv 2) pa_nil))))) pss_nil))))))
      (pss_one (ps_ret (pe_callTy (call_listD rfl) (by rfl) zL (by decide +kernel) (pa_cons (pv 6) pa_nil)))))))), ?_⟩
    have hfew := CC.few
    refine ⟨_, rfl, p, od, rfl, .inl ⟨_, hp, fun D hD => ?_⟩⟩
    refine dc_it (walk_tabK (d := p) (o := od) (rs := rs) (f := f)) (fun i H' => Same H H' ∧ ∃ a : List Bool → Addr, AheadAt H H' D (rs.take i) (fun _ => []) a) ⟨same_upd hD, fun _ => D, ⟨upd_same, fun st h => (by cases h), fun x h => (by cases h), fun st h => (by cases h)⟩⟩ (fun i H' _ q => q.1 _ _ hp) ?_ ?_
    · rintro i x H3 H3' hi ⟨s3, a, AA⟩ ⟨rfl, st, est, rfl⟩
      obtain ⟨hil, e⟩ := List.getElem?_eq_some_iff.mp est
      have htk : rs.take (i + 1) = rs.take i ++ [st] := by rw [List.take_succ_eq_append_getElem hil, e]
      have hni : st ∉ rs.take i := by
        have := CC.nd.sublist (List.take_sublist (i + 1) rs)
        rw [htk, List.nodup_append] at this
        exact fun h => this.2.2 _ h _ (List.mem_singleton.mpr rfl) rfl
      have ne : ∀ z ∈ rs.take i, ¬ z = st := fun z hz e => hni (by rw [← e]; exact hz)
      refine ⟨rfl, tYes_of (iteT ?_)⟩
      refine ⟨_, rfl, ?_⟩
      refine ⟨(by show 0 ≤ sizeLine; decide), fun r nr => ?_⟩
      have nrD : D ≠ r := ne_of_none AA.d nr
      have nra : ∀ z ∈ rs.take i, a z ≠ r := fun z hz => ne_of_none (AA.el z hz) nr
      refine ⟨_, .inr (sstr st), rfl, by rw [upd_ne nrD]; exact AA.d, by rw [tab_len, List.length_take]; exact small1000 (by omega), fun b o eb => ?_, fun z => if z = st then r else a z, ?_⟩
      · rw [upd_ne (ne_of_none eb hD), upd_ne (ne_of_none (s3 _ _ eb) nr)]
        exact s3 _ _ eb
      · rw [htk]
        refine ⟨?_, fun z hz => ?_, fun x hx y hy e2 => ?_, fun z hz => ?_⟩
        · rw [upd_same, tab_snoc hni]
          refine congrArg some (congrArg HO.dK (tab_congr fun z _ => ?_))
          show (if z = st then V.ref r else V.ref (a z)) = V.ref (if z = st then r else a z)
          by_cases q : z = st
          · rw [if_pos q, if_pos q]
          · rw [if_neg q, if_neg q]
        · show (upd _ D _) (if z = st then r else a z) = _
          rcases List.mem_append.mp hz with h | h
          · rw [if_neg (ne _ h), upd_ne (ne_of (AA.el z h) AA.d (by intro z; cases z)), upd_ne (nra z h)]
            exact AA.el z h
          · rw [if_pos (List.mem_singleton.mp h), upd_ne nrD.symm, upd_same]
            rfl
        · have e2 : (if x = st then r else a x) = (if y = st then r else a y) := e2
          rcases List.mem_append.mp hx with h1 | h1 <;> rcases List.mem_append.mp hy with h2 | h2
          · rw [if_neg (ne _ h1), if_neg (ne _ h2)] at e2
            exact AA.inj x h1 y h2 e2
          · rw [if_neg (ne _ h1), if_pos (List.mem_singleton.mp h2)] at e2
            exact absurd e2 (nra x h1)
          · rw [if_neg (ne _ h2), if_pos (List.mem_singleton.mp h1)] at e2
            exact absurd e2.symm (nra y h2)
          · rw [List.mem_singleton.mp h1, List.mem_singleton.mp h2]
        · show H (if z = st then r else a z) = none
          rcases List.mem_append.mp hz with h | h
          · rw [if_neg (ne _ h)]
            exact AA.new z h
          · rw [if_pos (List.mem_singleton.mp h)]
            exact none_back s3 nr
    rintro H3 ⟨s3, a, AA⟩
    rw [List.take_length] at AA
    refine ⟨_, rfl, p, od, rfl, .inl ⟨_, s3 _ _ hp, ?_⟩⟩
    refine for_it (walk_tabK (d := p) (o := od) (rs := rs) (f := f)) (fun i σ H' => ∃ (A : List Bool → List (List Bool)) (u2 u4 u5 : Option V), σ = [some (.ref p), some (.ref q), u2, some (.ref D), u4, u5, none, none, none, none] ∧ Same H H' ∧ AheadAt H H' D rs A a ∧
        (∀ x s, s ∈ A x ↔ s ∈ rs.take i ∧ ∃ e ∈ Fp s, e.2 = x) ∧ ∀ x, (A x).length ≤ 7 * i)
      ⟨fun _ => [], _, _, _, rfl, s3, AA, fun x s => ⟨fun h => (by cases h), fun h => (by cases h.1)⟩, fun x => Nat.zero_le _⟩ (fun i σ H' _ ⟨_, _, _, _, _, s4, _⟩ => s4 _ _ hp) ?_ ?_
    · rintro i x σ H4 H4' hi ⟨A, u2, u4, u5, rfl, s4, A4, mA, lA⟩ ⟨rfl, st, est, rfl⟩
      obtain ⟨hil, e⟩ := List.getElem?_eq_some_iff.mp est
      have htk : rs.take (i + 1) = rs.take i ++ [st] := by rw [List.take_succ_eq_append_getElem hil, e]
      have hm := List.mem_of_getElem? est
      obtain ⟨l1, el1, pl⟩ := PG st hm
      obtain ⟨ts, hl, ets, hts⟩ := pl.h
      have dg := dget_frz (.inr (sstr st)) (s4 _ _ hp)
      rw [tab_val, if_pos hm, el1] at dg
      have f7 := CC.fewP st hm
      have tsl : ts.length = (Fp st).length := by rw [← ets, List.length_map]
      refine ⟨_, rfl, _, rfl, p, _, rfl, dg, l1, rfl, ⟨_, SqL.of (s4 _ _ hl)⟩, ?_⟩
      refine for_list (K := K) (a := l1) (xs := ts.map fun t => V.ref t.1) (fun j σ H' => ∃ (A' : List Bool → List (List Bool)) (u4 u5 : Option V), σ = [some (.ref p), some (.ref q), some (.str (sstr st)), some (.ref D), u4, u5, none, none, none, none] ∧ Same H H' ∧ AheadAt H H' D rs A' a ∧
          (∀ x s, s ∈ A' x ↔ s ∈ A x ∨ (s = st ∧ ∃ e ∈ (Fp st).take j, e.2 = x)) ∧ ∀ x, (A' x).length ≤ 7 * i + j)
        ⟨A, _, _, rfl, s4, A4, fun x s => ⟨.inl, fun h => h.elim id fun z => (by obtain ⟨_, _, h, _⟩ := z; cases h)⟩, lA⟩ (fun j σ H' _ ⟨_, _, _, _, s5, _⟩ => SqL.of (s5 _ _ hl)) ?_ ?_
      · rintro j x σ H5 hx ⟨A', u4, u5, rfl, s5, A5, mA', lA'⟩
        rw [List.getElem?_map] at hx
        cases et : ts[j]? with
        | none => rw [et] at hx; cases hx
        | some t =>
          rw [et] at hx
          cases hx
          have htm := List.mem_of_getElem? et
          have ht5 := s5 _ _ (hts t htm)
          have ep : (Fp st)[j]? = some t.2 := by rw [← ets, List.getElem?_map, et]; rfl
          have hb : t.2.2 ∈ rs := CC.ex st hm t.2 (List.mem_of_getElem? ep)
          obtain ⟨hjl, ej⟩ := List.getElem?_eq_some_iff.mp ep
          have etk : (Fp st).take (j + 1) = (Fp st).take j ++ [t.2] := by rw [List.take_succ_eq_append_getElem hjl, ej]
          refine ⟨t.1, _, rfl, SqT.of' ht5, rfl, _, _, rfl, _, _, rfl, rfl, ?_⟩
          have dg2 := DGet.k (k := .inr (sstr t.2.2)) A5.d
          rw [tab_val, if_pos hb] at dg2
          have hax := A5.el _ hb
          refine ⟨_, rfl, _, rfl, D, _, rfl, dg2, .inl ⟨rfl, _, .inl (.inl hax)⟩, _, rfl, a t.2.2, _, _, rfl, rfl, hax, by rw [txS_len]; have := lA' t.2.2; exact small1000 (by omega), ?_⟩
          refine ⟨_, _, _, rfl, fun b o eb => ?_, A5.push hb st, fun x s => ?_, fun x => ?_⟩
          · rw [upd_ne (ne_of_none eb (A5.new _ hb))]
            exact s5 _ _ eb
          · have side : (s = st ∧ ∃ e ∈ (Fp st).take (j + 1), e.2 = x) ↔ (s = st ∧ ∃ e ∈ (Fp st).take j, e.2 = x) ∨ (s = st ∧ x = t.2.2) := by
              rw [etk]
              constructor
              · rintro ⟨h1, e, he, h2⟩
                rcases List.mem_append.mp he with h | h
                · exact .inl ⟨h1, e, h, h2⟩
                · rw [List.mem_singleton.mp h] at h2
                  exact .inr ⟨h1, h2.symm⟩
              · rintro (⟨h1, e, he, h2⟩ | ⟨h1, h2⟩)
                · exact ⟨h1, e, List.mem_append_left _ he, h2⟩
                · exact ⟨h1, t.2, List.mem_append_right _ (List.mem_singleton.mpr rfl), h2.symm⟩
            rw [side, ← or_assoc, ← mA' x s]
            show s ∈ (if x = t.2.2 then A' x ++ [st] else A' x) ↔ _
            by_cases q : x = t.2.2
            · rw [if_pos q, List.mem_append, List.mem_singleton]
              exact ⟨fun h => h.imp id fun z => ⟨z, q⟩, fun h => h.imp id fun z => z.1⟩
            · rw [if_neg q]
              exact ⟨.inl, fun h => h.elim id fun z => absurd z.2 q⟩
          · show (if x = t.2.2 then A' x ++ [st] else A' x).length ≤ _
            have := lA' x
            split
            · rw [List.length_append, List.length_singleton]
              omega
            · omega
      · rintro σ H5 ⟨A', u4, u5, rfl, s5, A5, mA', lA'⟩
        rw [List.length_map, tsl] at mA' lA'
        refine ⟨A', _, _, _, rfl, s5, A5, fun x s => ?_, fun x => ?_⟩
        · rw [mA', List.take_length, mA, htk, List.mem_append, List.mem_singleton]
          constructor
          · rintro (h | ⟨h1, h2⟩)
            · exact ⟨.inl h.1, h.2⟩
            · subst h1
              exact ⟨.inr rfl, h2⟩
          · rintro ⟨h1 | h1, h2⟩
            · exact .inl ⟨h1, h2⟩
            · subst h1
              exact .inr ⟨rfl, h2⟩
        · have := lA' x
          omega
    rintro σ H4 ⟨A, u2, u4, u5, rfl, s4, A4, mA, lA⟩
    rw [List.take_length] at mA
    have lG : G.length ≤ 128 := Nat.le_trans (nd_le ndG inG) hfew
    have hq4 := s4 _ _ hq
    refine ⟨_, rfl, q, rfl, ⟨_, SqL.of hq4⟩, fun D2 hD2 => ?_⟩
    rw [txS_eq] at hq4
    refine dc_tab (walk_lst (K := K) (a := q) (l := G) (f := fun st => V.str (sstr st))) G rfl ndG (by omega) (fun _ => true) (fun st v H => v = .bl true) hD2 (fun H' s => SqL.of (s _ _ hq4)) (fun _ _ _ _ _ e => e) (fun _ _ _ _ _ _ e => e) ?_ ?_
    · rintro j z st H7 H7' Tk Nk est s7 ⟨rfl, st', est', rfl⟩ kT kF
      rw [est] at est'
      cases est'
      refine ⟨rfl, tYes_of (iteT ?_)⟩
      exact ⟨_, rfl, kT _ _ rfl (Same.refl _) rfl⟩
    intro H5 f5 s5 hD5 h5
    rw [List.filter_eq_self.mpr fun _ _ => rfl] at hD5 h5
    rw [tab_congr h5] at hD5
    have A5 := A4.same s5
    have s05 := s4.trans s5
    refine ⟨_, rfl, q, _, rfl, .inl (SqL.of (s05 _ _ hq)), fun qq hqq => ?_⟩
    have nq2 : D2 ≠ qq := ne_of_none hD5 hqq
    have hqH : H qq = none := none_back s05 hqq
    have hD2H : H D2 = none := none_back s4 hD2
    have nA : ∀ x ∈ rs, a x ≠ qq ∧ a x ≠ D2 := fun x hx => ⟨ne_of_none (A5.el x hx) hqq, ne_of (A5.el x hx) hD5 (by intro z; cases z)⟩
    have nD : D ≠ qq ∧ D ≠ D2 := ⟨ne_of_none A5.d hqq, ne_of_none A4.d hD2⟩
    refine while_by (fun σ H' => ∃ (L W : List (List Bool)) (u2 u8 : Option V), σ = [some (.ref p), some (.ref q), u2, some (.ref D), u4, u5, some (.ref D2), some (.ref qq), u8, none] ∧ Same H H' ∧ AheadAt H H' D rs A a ∧ H' D2 = some (.dK (tabV L fun _ => .bl true)) ∧ H' qq = some (.lst (txS W)) ∧
        LeadI Fp A G rs L W) (fun _ H' => muL D2 qq H') ?_ ?_ ?_
    · refine ⟨G, G, _, _, rfl, s05.trans (same_upd hqq), A5.same (same_upd hqq), by rw [upd_ne nq2]; exact hD5, upd_same, ⟨ndG, ndG, fun x h => ⟨inG x h, .goal h⟩, fun _ h => h, fun _ h => h, fun _ h => .inl h⟩⟩
    · rintro σ H6 ⟨L, W, u2, u8, rfl, s6, A6, hL, hW, I⟩
      refine ⟨_, rfl, _, .inl ⟨_, SqL.of hW, rfl⟩, ?_⟩
      have hL128 : L.length ≤ 128 := Nat.le_trans (nd_le I.nd fun x h => (I.ok x h).1) hfew
      obtain rfl | ⟨W1, x, rfl⟩ : W = [] ∨ ∃ W1 x, W = W1 ++ [x] := by
        rcases List.eq_nil_or_concat W with h | ⟨y, b, h⟩
        · exact .inl h
        · exact .inr ⟨y, b, by simpa using h⟩
      · refine iteF ?_
        refine ⟨_, rfl, D2, _, rfl, .inl hL, fun l hl => ?_⟩
        have e1 : ((tabV L fun _ => V.bl true).map fun kv => kV kv.1) = txS L := by
          unfold tabV
          rw [List.map_map, txS_eq]
          rfl
        refine k l L _ (none_back s6 hl) (s6.trans (same_upd hl)) (by rw [upd_same, e1]) fun st hst => ⟨fun h => (I.ok st h).2, fun h => ?_⟩
        induction h with
        | goal h => exact I.goal _ h
        | step he _ ih =>
          have hin := ih (CC.ex _ hst _ he)
          rcases I.clo _ hin with h | h
          · cases h
          · exact h _ ((mA _ _).mpr ⟨hst, _, he, rfl⟩)
      · have e0 : (!(txS (W1 ++ [x])).isEmpty) = true := by
          rw [txS_snoc]
          cases txS W1 <;> rfl
        rw [e0]
        refine iteT ?_
        have hxL : x ∈ L := I.sub x (List.mem_append_right _ (List.mem_singleton.mpr rfl))
        have hxr := (I.ok x hxL).1
        refine ⟨_, rfl, .inl ⟨rfl, _, .inl (.inl hW)⟩, qq, _, .str (sstr x), rfl, rfl, hW, ?_, ?_⟩
        · rw [txS_snoc, List.length_append, List.length_singleton, Nat.add_sub_cancel, List.getElem?_append_right (Nat.le_refl _), Nat.sub_self]
          rfl
        rw [txS_snoc, List.dropLast_concat]
        have hW1 : (upd H6 qq (.lst (txS W1))) qq = some (.lst (txS W1)) := upd_same
        have s7 : Same H (upd H6 qq (.lst (txS W1))) := fun b o eb => by
          rw [upd_ne (ne_of_none eb hqH)]
          exact s6 _ _ eb
        have keepA : ∀ (H7 : Hp) (o : HO) (y : Addr), (y = qq ∨ y = D2) → AheadAt H H7 D rs A a → AheadAt H (upd H7 y o) D rs A a := fun H7 o y hy p => by
          have nn : ∀ b, b ≠ qq ∧ b ≠ D2 → b ≠ y := fun b nb => hy.elim (fun e => e ▸ nb.1) fun e => e ▸ nb.2
          exact ⟨by rw [upd_ne (nn _ nD)]; exact p.d, fun z hz => by rw [upd_ne (nn _ (nA z hz))]; exact p.el z hz, p.inj, p.new⟩
        have A7 := keepA _ (.lst (txS W1)) qq (.inl rfl) A6
        have hL7 : (upd H6 qq (.lst (txS W1))) D2 = some (.dK (tabV L fun _ => .bl true)) := by
          rw [upd_ne nq2]
          exact hL
        have hmu : muL D2 qq H6 = 2 * (128 - L.length) + W1.length + 1 := by
          rw [muL_of hL hW, tab_len, txS_len, List.length_append, List.length_singleton]
          omega
        generalize upd H6 qq (.lst (txS W1)) = H7 at hW1 s7 A7 hL7 ⊢
        have dg := DGet.k (k := .inr (sstr x)) A7.d
        rw [tab_val, if_pos hxr] at dg
        have lAx : (A x).length ≤ 896 := Nat.le_trans (lA x) (by omega)
        have nW1 : x ∉ W1 ∧ W1.Nodup := by
          have := I.ndW
          rw [List.nodup_append] at this
          exact ⟨fun h => this.2.2 _ h _ (List.mem_singleton.mpr rfl) rfl, this.1⟩
        refine ⟨_, rfl, _, rfl, D, _, rfl, dg, a x, rfl, ⟨_, SqL.of (A7.el x hxr)⟩, ?_⟩
        refine for_list (K := K) (a := a x) (xs := txS (A x)) (fun t σ H' => ∃ (L2 W2 : List (List Bool)) (u2 : Option V), σ = [some (.ref p), some (.ref q), u2, some (.ref D), u4, u5, some (.ref D2), some (.ref qq), some (.str (sstr x)), none] ∧ Same H H' ∧ AheadAt H H' D rs A a ∧
            H' D2 = some (.dK (tabV L2 fun _ => .bl true)) ∧ H' qq = some (.lst (txS W2)) ∧ L2.Nodup ∧ W2.Nodup ∧ (∀ y ∈ L2, y ∈ rs ∧ LeadTo Fp G y) ∧ (∀ y ∈ W2, y ∈ L2) ∧ (∀ y ∈ L, y ∈ L2) ∧ (∀ y ∈ L2, y ∈ W2 ∨ y = x ∨ ∀ s ∈ A y, s ∈ L2) ∧ (∀ s ∈ (A x).take t, s ∈ L2) ∧
            2 * (128 - L2.length) + W2.length ≤ 2 * (128 - L.length) + W1.length)
          ⟨L, W1, _, rfl, s7, A7, hL7, hW1, I.nd, nW1.2, I.ok, fun y h => I.sub y (List.mem_append_left _ h), fun _ h => h, fun y h => ?_, fun s h => (by cases h), Nat.le_refl _⟩ (fun t σ H' _ ⟨_, _, _, _, _, p, _⟩ => SqL.of (p.el x hxr)) ?_ ?_
        · rcases I.clo y h with z | z
          · rcases List.mem_append.mp z with z | z
            · exact .inl z
            · exact .inr (.inl (List.mem_singleton.mp z))
          · exact .inr (.inr z)
        · rintro t z σ H8 hz ⟨L2, W2, u2, rfl, s8, A8, hL8, hW8, n1, n2, ok2, sub2, mono2, clo2, tk2, mu2⟩
          rw [txS_at] at hz
          cases est : (A x)[t]? with
          | none => rw [est] at hz; cases hz
          | some st =>
            rw [est] at hz
            cases hz
            have hst := (mA x st).mp (List.mem_of_getElem? est)
            obtain ⟨e, he, ex⟩ := hst.2
            have hlead : LeadTo Fp G st := .step he (by rw [ex]; exact (I.ok x hxL).2)
            have l2 : L2.length ≤ 128 := Nat.le_trans (nd_le n1 fun y h => (ok2 y h).1) hfew
            have w2 : W2.length ≤ 128 := Nat.le_trans (nd_le n2 fun y h => (ok2 y (sub2 y h)).1) hfew
            obtain ⟨htl, et⟩ := List.getElem?_eq_some_iff.mp est
            have etk : (A x).take (t + 1) = (A x).take t ++ [st] := by rw [List.take_succ_eq_append_getElem htl, et]
            refine ⟨_, rfl, _, rfl, D2, _, rfl, DGet.k (k := .inr (sstr st)) hL8, _, rfl, ?_⟩
            rw [tab_val]
            by_cases hin : st ∈ L2
            · rw [if_pos hin]
              refine iteF ⟨L2, W2, _, rfl, s8, A8, hL8, hW8, n1, n2, ok2, sub2, mono2, clo2, fun s hs => ?_, mu2⟩
              rw [etk] at hs
              rcases List.mem_append.mp hs with h | h
              · exact tk2 s h
              · rw [List.mem_singleton.mp h]
                exact hin
            · rw [if_neg hin]
              refine iteT ?_
              have nd1 : (L2 ++ [st]).Nodup := by
                rw [List.nodup_append]
                exact ⟨n1, by simp, fun y hy z hz e => hin (by rw [← List.mem_singleton.mp hz, ← e]; exact hy)⟩
              have nd2 : (W2 ++ [st]).Nodup := by
                rw [List.nodup_append]
                exact ⟨n2, by simp, fun y hy z hz e => hin (sub2 _ (by rw [← List.mem_singleton.mp hz, ← e]; exact hy))⟩
              have ok3 : ∀ y ∈ L2 ++ [st], y ∈ rs ∧ LeadTo Fp G y := fun y hy => by
                rcases List.mem_append.mp hy with h | h
                · exact ok2 y h
                · rw [List.mem_singleton.mp h]
                  exact ⟨hst.1, hlead⟩
              have l3 : (L2 ++ [st]).length ≤ 128 := Nat.le_trans (nd_le nd1 fun y h => (ok3 y h).1) hfew
              rw [List.length_append, List.length_singleton] at l3
              refine ⟨_, rfl, _, rfl, D2, _, rfl, DPut.k (k := Sum.inr (sstr st)) hL8 (by rw [tab_len]; exact small1000 (by omega)), ?_⟩
              have hW9 : (upd H8 D2 (.dK (putK (tabV L2 fun _ => V.bl true) (.inr (sstr st)) (.bl true)))) qq = some (.lst (txS W2)) := by
                rw [upd_ne nq2.symm]
                exact hW8
              refine ⟨_, rfl, .inl ⟨rfl, _, .inl (.inl hW9)⟩, _, rfl, qq, _, _, rfl, rfl, hW9, by rw [txS_len]; exact small1000 (by omega), ?_⟩
              refine ⟨L2 ++ [st], W2 ++ [st], _, rfl, fun b o eb => ?_, keepA _ _ qq (.inl rfl) (keepA _ _ D2 (.inr rfl) A8), ?_, ?_, nd1, nd2, ok3, fun y hy => ?_, fun y hy => List.mem_append_left _ (mono2 y hy), fun y hy => ?_, fun s hs => ?_, ?_⟩
              · rw [upd_ne (ne_of_none eb hqH), upd_ne (ne_of_none eb hD2H)]
                exact s8 _ _ eb
              · rw [upd_ne nq2, upd_same, tab_snoc hin]
                exact congrArg some (congrArg HO.dK (tab_congr fun z _ => ite_self _))
              · rw [upd_same, txS_snoc]
              · rcases List.mem_append.mp hy with h | h
                · exact List.mem_append_left _ (sub2 y h)
                · exact List.mem_append_right _ h
              · rcases List.mem_append.mp hy with h | h
                · rcases clo2 y h with z | z | z
                  · exact .inl (List.mem_append_left _ z)
                  · exact .inr (.inl z)
                  · exact .inr (.inr fun s hs => List.mem_append_left _ (z s hs))
                · exact .inl (List.mem_append_right _ h)
              · rw [etk] at hs
                rcases List.mem_append.mp hs with h | h
                · exact List.mem_append_left _ (tk2 s h)
                · exact List.mem_append_right _ h
              · rw [List.length_append, List.length_append, List.length_singleton]
                omega
        · rintro σ H8 ⟨L2, W2, u2, rfl, s8, A8, hL8, hW8, n1, n2, ok2, sub2, mono2, clo2, tk2, mu2⟩
          rw [txS_len, List.take_length] at tk2
          refine ⟨⟨L2, W2, _, _, rfl, s8, A8, hL8, hW8, ⟨n1, n2, ok2, sub2, fun g hg => mono2 g (I.goal g hg), fun y hy => ?_⟩⟩, ?_⟩
          · rcases clo2 y hy with z | rfl | z
            · exact .inl z
            · exact .inr tk2
            · exact .inr z
          · rw [hmu, muL_of hL8 hW8, tab_len, txS_len]
            omega
    · rintro σ H1 Q1 Q2 m ⟨x, e1, b, t, hq⟩
      exact ⟨x, e1, b, t, m _ _ hq⟩
end
end DL

set_option Elab.async false
set_option maxRecDepth 100000
set_option maxHeartbeats 1000000
namespace DL
open PySem L2 HT TL RZ
/-! ### tables -/
structure spPaper (K : PySem.W.Frag) (C : Addr) (vs : List V) (H : Hp) (Q : VK) (_ : XK) : Prop where
  h : ∃ (c a : Addr) (bs : List Bar) (n : Nat) (ns : List Int), vs = [.ref c, .ref a] ∧ CabOk C H c n bs ∧ SetAt K H n a ns ∧
    ∀ (es : List Ent) (H' : Hp), Same H H' → BI bs (shutS n) es.length es →
      ((es.any fun e => ns.all fun d => sat e.1 d) = true → Q .non H') ∧
      ((es.any fun e => ns.all fun d => sat e.1 d) = false → ∀ (q : Addr) (sts : List (List Bool)), sts.Perm (es.map (·.1)) → H' q = some (.tup (sts.map fun st => V.str (sstr st))) → Q (.ref q) H')
theorem strs_map (sts : List (List Bool)) : (sts.map fun st => V.str (sstr st)) = (sts.map sstr).map V.str := by rw [List.map_map]; rfl
section
variable {P : Program} {w : World} {K : PySem.W.Frag} {mg : Str → Option Value} {base : Heap}
theorem scPap : FnScope ["cabinet", "some", "standings"] ["cabinet", "some"] (defScope s_paper) := ⟨rfl, rfl, rfl, by decide +kernel, rfl, by decide +kernel, by decide +kernel⟩
theorem ok_paper {f f1 f2 f3 f4 f5 C : Addr} {fd fd1 fd2 fd3 fd4 fd5 : FuncData} (F : Fun K "paper" "paper" s_paper f fd) (T : Bt mg)
    (G1 : FnOk P w K mg base CX0 1 f1 fd1 ["cabinet"] (spCkCab C)) (g1 : mg "check_cabinet" = some (.ref f1)) (k1 : PySem.W.keepIn K (.ref f1) = true) (b1 : Binds K fd1 ["cabinet"] [])
    (G2 : FnOk P w K mg base CX0 6 f2 fd2 ["cabinet", "some"] (spCkSet K C)) (g2 : mg "check_set" = some (.ref f2)) (k2 : PySem.W.keepIn K (.ref f2) = true) (b2 : Binds K fd2 ["cabinet", "some"] [])
    (G3 : FnOk P w K mg base CX0 14 f3 fd3 ["cabinet"] (spReachedA C)) (g3 : mg "reached" = some (.ref f3)) (k3 : PySem.W.keepIn K (.ref f3) = true) (b3 : Binds K fd3 ["cabinet"] [])
    (G4 : FnOk P w K mg base CX0 4 f4 fd4 ["standings", "pattern"] (spAnyFits K)) (g4 : mg "any_fits" = some (.ref f4)) (k4 : PySem.W.keepIn K (.ref f4) = true) (b4 : Binds K fd4 ["standings", "pattern"] [])
    (G5 : FnOk P w K mg base CX0 4 f5 fd5 ["cabinet", "some"] (spOpenPat K C)) (g5 : mg "open_pattern" = some (.ref f5)) (k5 : PySem.W.keepIn K (.ref f5) = true) (b5 : Binds K fd5 ["cabinet", "some"] []) :
    FnOk P w K mg base CX0 16 f fd ["cabinet", "some"] (spPaper K C) := by
  refine F.ok scPap (fun vs H Q E h => ?_) (fun cdv A outer s H vs Q E hr h => ?_)
  · obtain ⟨c, a, bs, n, ns, rfl, _⟩ := h.h
    rfl
  · obtain ⟨c, a, bs, n, ns, rfl, B, S, k⟩ := h.h
    obtain ⟨t, hc, n7⟩ := B.cab
    have n7' : n ≤ 7 := by omega
    refine ⟨_, pss_cons (ps_expr (pe_call G1 (hr.mono (by decide)) rfl g1 k1 b1 .nil pass0 (pa_cons (pv 0) pa_nil))) (pss_cons (ps_expr (pe_call G2 (hr.mono (by decide)) rfl g2 k2 b2 .nil pass0 (pa_cons (pv 0) (pa_cons (pv 1) pa_nil))))
      (pss_cons (ps_set (i := 2) scPap.nd rfl (Or.inl rfl) (pe_call G3 (hr.mono (by decide)) rfl g3 k3 b3 .nil pass0 (pa_cons (pv 0) pa_nil)))
      (pss_cons (ps_if (pt_val (pe_call G4 (hr.mono (by decide)) rfl g4 k4 b4 .nil pass0 (pa_cons (pv 2) (pa_cons (pe_call G5 (hr.mono (by decide)) rfl g5 k5 b5 .nil pass0 (pa_cons (pv 0) (pa_cons (pv 1) pa_nil))) pa_nil)))) (pss_one (ps_ret pe_non)) pss_nil)
      (pss_one (ps_ret (pe_callTy call_tuple_of (by rfl) T.tuple (by decide +kernel) (pa_cons (pv 2) pa_nil))))))), ?_⟩
    refine ⟨_, rfl, ⟨⟨c, _, t, rfl, hc, ?_⟩⟩⟩
    refine ⟨_, rfl, _, rfl, ⟨⟨c, a, n, t, ns, rfl, hc, n7', S, fun H1 s1 => ?_⟩⟩⟩
    refine ⟨_, rfl, ⟨⟨c, bs, n, rfl, B.same s1, fun p es ys H2 s2 I hp hs np h2 => ?_⟩⟩⟩
    have s12 := s1.trans s2
    obtain ⟨sts, rfl, hperm⟩ := any_perm hp
    have hshut : (shutS n).length = n := List.length_replicate
    have hlen : ∀ st ∈ sts, st.length = n := fun st hm => by
      obtain ⟨e, he, rfl⟩ := List.mem_map.mp (hperm.mem_iff.mp hm)
      rw [(I.led e he).2.2, hshut]
    have hfew : sts.length ≤ 128 := by
      have := led_few I.nd I.led (by rw [hshut]; exact n7')
      rw [hperm.length_eq, List.length_map]
      exact this
    rw [← strs_map] at h2
    obtain ⟨t2, hc2, _⟩ := (B.same s12).cab
    refine ⟨_, rfl, _, rfl, _, rfl, ⟨⟨c, a, n, t2, ns, rfl, hc2, n7', SqT.same s12 S.at', fun H3 s3 => ?_⟩⟩⟩
    have s13 := s12.trans s3
    refine ⟨⟨p, sts, _, rfl, .inl (SqL.of (s3 _ _ h2)), fun st hm => by rw [opat_len]; exact hlen st hm, by rw [opat_len]; exact n7', by omega, fun H4 s4 => ?_⟩⟩
    have s14 := s13.trans s4
    have ea : (sts.any fun st => fitB st (opat n ns)) = es.any fun e => ns.all fun d => sat e.1 d := by
      rw [Bool.eq_iff_iff, List.any_eq_true, List.any_eq_true]
      constructor
      · rintro ⟨st, hm, hf⟩
        rw [fit_opat (hlen st hm) S.low] at hf
        obtain ⟨e, he, rfl⟩ := List.mem_map.mp (hperm.mem_iff.mp hm)
        exact ⟨e, he, hf⟩
      · rintro ⟨e, he, hf⟩
        have hm := hperm.mem_iff.mpr (List.mem_map_of_mem (f := (·.1)) he)
        exact ⟨e.1, hm, by rw [fit_opat (hlen _ hm) S.low]; exact hf⟩
    rw [ea]
    refine ⟨_, rfl, ?_⟩
    cases eb : es.any fun e => ns.all fun d => sat e.1 d with
    | true => exact iteT ((k es H4 s14 I).1 eb)
    | false =>
      refine iteF ?_
      refine ⟨_, rfl, p, _, rfl, .inl ⟨SqL.of (s4 _ _ (s3 _ _ h2)), fun q nq => ?_⟩⟩
      exact (k es _ (s14.trans (same_upd nq)) I).2 eb q sts hperm upd_same
end
end DL

set_option Elab.async false
set_option maxRecDepth 100000
set_option maxHeartbeats 1000000

set_option Elab.async false
set_option maxRecDepth 100000

set_option Elab.async false
set_option maxRecDepth 100000
set_option maxHeartbeats 2000000
set_option linter.all false
namespace DL
open PySem PySem.Spec PyProof.Rows L2
/-! ### comprehensions of as many clauses as there are: the loops -/
abbrev compE (st : Bool) (elt : Expr) (gens : List Comprehension) (scope : Scope) (pos : Pos) : Expr := match st with
  | false => .ListComp elt gens scope pos
  | true => .SetComp elt gens scope pos
def emitN (st : Bool) (elt : Expr) (acc : Value) (env : Env) : Sem Unit := match st with
  | false => do let _ ← call (.builtin "list.append") [acc, ← eval elt env]
  | true => do let v ← eval elt env; standAt elt.pos; let _ ← call (.builtin "set.add") [acc, v]
def deeper (e : Expr) (d : Nat) (g' : Comprehension) (acc : Value) (env : Env) : Sem Unit := do
  let x ← eval g'.iter env
  standAt g'.iter.pos
  let x ← foldedSetIterable g'.iter env x
  let _ ← runOwn (.compStart e d (← holding [x] (pyIter x)) acc env) env
def bodyN (st : Bool) (elt : Expr) (gens : List Comprehension) (scope : Scope) (pos : Pos) (d : Nat) (acc : Value) (env : Env) : Sem Unit := match gens[d]? with
  | some g' => deeper (compE st elt gens scope pos) d g' acc env
  | none => emitN st elt acc env
theorem turnN_eq {st : Bool} {elt t i : Expr} {ifs : List Expr} {gens : List Comprehension} {scope : Scope} {pos : Pos} {d : Nat} {it acc : Value} {env : Env} (h : gens[d]? = some ⟨t, i, ifs, 0⟩) (h0 : ∀ g', gens[d + 1]? = some g' → g'.is_async = 0) :
    compTurn (compE st elt gens scope pos) d it acc env = (do
      standAt i.pos
      match ← pyNext it with
      | none => pure (.done .next)
      | some v =>
        letOwnedTupleGo t it v
        assign t env v
        let mut ok := true
        for c in ifs do
          if ok then ok ← isTrue c env (eval c env)
        if ok then bodyN st elt gens scope pos (d + 1) acc env
        again (.compLoop (compE st elt gens scope pos) d it acc env)) := by
  cases h2 : gens[d + 1]? with
  | none =>
    have eb : bodyN st elt gens scope pos (d + 1) acc env = emitN st elt acc env := by unfold bodyN; rw [h2]
    rw [eb]
    cases st
    · unfold compTurn compE emitN
      simp only [h, h2, bind_assoc]
      rfl
    · unfold compTurn compE emitN
      simp only [h, h2, bind_assoc]
      rfl
  | some g' =>
    have eb : bodyN st elt gens scope pos (d + 1) acc env = deeper (compE st elt gens scope pos) (d + 1) g' acc env := by unfold bodyN; rw [h2]
    rw [eb]
    have h3 := h0 g' h2
    obtain ⟨t', i', ifs', a'⟩ := g'
    have h3 : a' = 0 := h3
    subst h3
    cases st
    · unfold compTurn compE deeper
      simp only [h, h2, bind_assoc]
      rfl
    · unfold compTurn compE deeper
      simp only [h, h2, bind_assoc]
      rfl
section
variable {prog : Program} {w : World} {A : Around} {R : Result → Shared → Prop} {s : Shared} {st : Bool} {elt t i : Expr} {ifs : List Expr} {gens : List Comprehension} {scope : Scope} {pos : Pos} {d : Nat} {it acc : Value} {env : Env}
theorem loopN (hg : gens[d]? = some ⟨t, i, ifs, 0⟩) (hg0 : ∀ g', gens[d + 1]? = some g' → g'.is_async = 0) (I : Nat → Shared → Prop)
    (turn : ∀ n s, I n s → wpAny (model prog w) A (pyNext it) (fun r s1 => match r with
      | none => R (.ok .next) s1
      | some v => wpAny (model prog w) A (letOwnedTupleGo t it v) (fun _ s2 => wpAny (model prog w) A (assign t env v) (fun _ s3 =>
          wpAny (model prog w) A (forIn ifs true fun c r => if r = true then do let ok ← isTrue c env (eval c env); pure (ForInStep.yield ok) else pure (ForInStep.yield r)) (fun ok s4 =>
            if ok = true then wpAny (model prog w) A (bodyN st elt gens scope pos (d + 1) acc env) (fun _ s5 => ∃ m, m < n ∧ I m s5) (fun _ _ => False) s4
            else ∃ m, m < n ∧ I m s4) (fun _ _ => False) s3) (fun _ _ => False) s2) (fun _ _ => False) s1) (fun _ _ => False) s)
    (n : Nat) (h : I n s) : codeAny (model prog w) A (.compLoop (compE st elt gens scope pos) d it acc env) R s := by
  have no : ∀ {α : Type} {m : Sem α} {Q Q' : α → Shared → Prop} {E' : Value → Shared → Prop} {s' : Shared}, wpAny (model prog w) A m Q (fun _ _ => False) s' → (∀ a z, Q a z → Q' a z) → wpAny (model prog w) A m Q' E' s' := fun q f => wpAny_mono q f fun _ _ z => z.elim
  refine codeAny_loop rfl I (fun n s hI => ?_) n h
  suffices key : wpAny (model prog w) A ((compTurn (compE st elt gens scope pos) d it acc env).onRaise (fun x => do noteFrame x env; theTreesLotGoes x)) (fun fin s' => match fin with
      | .done f => R (.ok f) s'
      | .again c' => c' = .compLoop (compE st elt gens scope pos) d it acc env ∧ ∃ m, m < n ∧ I m s') (fun e s' => R (.error e) s') s by cases st <;> exact key
  refine wpAny_noted ?_
  rw [turnN_eq hg hg0]
  refine wpAny_bind (wpAny_standAt (wpAny_bind (no (turn n s hI) fun r s1 h1 => ?_)))
  cases r with
  | none => exact wpAny_pure h1
  | some v =>
    refine wpAny_bind (no h1 fun _ s2 h2 => wpAny_bind (no h2 fun _ s3 h3 => wpAny_bind (no h3 fun ok s4 h4 => ?_)))
    cases ok with
    | false => exact wpAny_pure ⟨rfl, h4⟩
    | true =>
      rw [if_pos rfl] at h4 ⊢
      exact wpAny_bind (no h4 fun _ s5 h5 => wpAny_pure ⟨rfl, h5⟩)
theorem startN (hg : gens[d]? = some ⟨t, i, ifs, 0⟩) (h0 : codeAny (model prog w) A (.compLoop (compE st elt gens scope pos) d it acc env) R s)
    (h : wpAny (model prog w) A (pyIter it) (fun it' s' => codeAny (model prog w) A (.compLoop (compE st elt gens scope pos) d it' acc env) R s') (fun _ _ => False) s) :
    codeAny (model prog w) A (.compStart (compE st elt gens scope pos) d it acc env) R s := by
  have no : ∀ {α : Type} {m : Sem α} {Q Q' : α → Shared → Prop} {E' : Value → Shared → Prop} {s' : Shared}, wpAny (model prog w) A m Q (fun _ _ => False) s' → (∀ a z, Q a z → Q' a z) → wpAny (model prog w) A m Q' E' s' := fun q f => wpAny_mono q f fun _ _ z => z.elim
  have ec : (clausesOf (compE st elt gens scope pos))[d]? = some ⟨t, i, ifs, 0⟩ := by cases st <;> exact hg
  refine codeAny_of_tree ?_
  suffices key : wpAny (model prog w) A ((compStart (compE st elt gens scope pos) d it acc env).onRaise (fun x => do noteFrame x env; standAt theWindowsPlace)) (fun fin s' => match fin with
      | .done f => R (.ok f) s'
      | .again c' => c'.quiet = true ∧ codeAny (model prog w) A c' R s') (fun e s' => R (.error e) s') s by cases st <;> exact key
  refine wpAny_notedAt ?_
  unfold compStart
  rw [ec]
  show wpAny _ _ (ask >>= _) _ _ s
  refine wpAny_bind (wpAny_askSetting (wpAny_ite ?_))
  split
  · first
      | exact wpAny_bind (wpAny_pure (wpAny_pure (And.intro rfl h0)))
      | exact wpAny_pure (And.intro rfl h0)
  · refine wpAny_bind (wpAny_rule ?_)
    show wpAny _ _ (standAt i.pos >>= _) _ _ s
    exact wpAny_bind (wpAny_standAt (wpAny_bind (no h fun it' s' h' => wpAny_pure (And.intro rfl h'))))
/-- one clause further in -/
theorem deeperN (hg : gens[d]? = some ⟨t, i, ifs, 0⟩) (hs : ∀ x, foldedSetIterable i env x = pure x) {Q : Unit → Shared → Prop} {E : Value → Shared → Prop}
    (h : wpAny (model prog w) A (eval i env) (fun x s1 => wpAny (model prog w) A (pyIter x) (fun it1 s2 => codeAny (model prog w) A (.compStart (compE st elt gens scope pos) d it1 acc env) (fun r s' => match r with
      | .ok _ => Q () s'
      | .error _ => False) s2) (fun _ _ => False) s1) (fun _ _ => False) s) :
    wpAny (model prog w) A (bodyN st elt gens scope pos d acc env) Q E s := by
  have no : ∀ {α : Type} {m : Sem α} {Q Q' : α → Shared → Prop} {E' : Value → Shared → Prop} {s' : Shared}, wpAny (model prog w) A m Q (fun _ _ => False) s' → (∀ a z, Q a z → Q' a z) → wpAny (model prog w) A m Q' E' s' := fun q f => wpAny_mono q f fun _ _ z => z.elim
  unfold bodyN
  rw [hg]
  show wpAny _ _ (deeper _ d ⟨t, i, ifs, 0⟩ acc env) _ _ s
  unfold deeper
  refine wpAny_bind (no h fun x s1 h1 => ?_)
  refine wpAny_bind (wpAny_standAt (wpAny_bind (wpAny_of_eq (hs x) (wpAny_bind (wpAny_holding (no h1 fun it1 s2 h2 => ?_))))))
  refine wpAny_bind (wpAny_runOwn ?_)
  rw [Around.mark_none]
  refine codeAny_mono h2 fun r s' hr => ?_
  cases r with
  | ok f => exact wpAny_pure hr
  | error e => exact hr.elim
theorem emitS (hn : gens[d]? = none) {Q : Unit → Shared → Prop} {E : Value → Shared → Prop}
    (h : wpAny (model prog w) A (eval elt env) (fun x s1 => wpAny (model prog w) A (call (.builtin "set.add") [acc, x]) (fun _ s2 => Q () s2) (fun _ _ => False) s1) (fun _ _ => False) s) :
    wpAny (model prog w) A (bodyN true elt gens scope pos d acc env) Q E s := by
  have no : ∀ {α : Type} {m : Sem α} {Q Q' : α → Shared → Prop} {E' : Value → Shared → Prop} {s' : Shared}, wpAny (model prog w) A m Q (fun _ _ => False) s' → (∀ a z, Q a z → Q' a z) → wpAny (model prog w) A m Q' E' s' := fun q f => wpAny_mono q f fun _ _ z => z.elim
  unfold bodyN
  rw [hn]
  exact wpAny_bind (no h fun x s1 h1 => wpAny_bind (wpAny_standAt (wpAny_bind (no h1 fun _ s2 h2 => wpAny_pure h2))))
end
end DL

set_option Elab.async false
set_option maxRecDepth 100000
set_option maxHeartbeats 2000000
set_option linter.all false
namespace DL
open PySem PySem.Spec PyProof.Rows L2
/-! ### comprehensions of as many clauses as there are: how they are read -/
structure ClauseN where
  wi : TI
  g : TG
  tt : TT
  vs : List Nat
def inN (el : L2.St → Hp → (Hp → Prop) → Prop) : List ClauseN → L2.St → Hp → (Hp → Prop) → Prop
  | [], σ, H, Nx => el σ H Nx
  | c :: cs, σ, H, Nx => c.wi σ H fun J H4 => ∃ W : Nat → Nat → Hp → Prop, (∃ m, W 0 m H4) ∧ ∀ j k H, W j k H →
      (J.stop j H ∧ Nx H) ∨ (J.go j H ∧ ∃ Ny : Hp → Prop, (∀ H', Ny H' → ∃ k', k' < k ∧ W (j + 1) k' H') ∧ ∀ x H', J.yld j H x H' → c.g x (wipe σ c.vs) H' fun σ3 H5 => wipe σ3 c.vs = wipe σ c.vs ∧ c.tt σ3 H5 fun b H6 =>
        if b = true then inN el cs σ3 H6 Ny else Ny H6)
def ClOk (Y : Cx) : List Comprehension → List ClauseN → Prop
  | [], [] => True
  | g :: gs, c :: cs => g.is_async = 0 ∧ PI Y g.target g.iter c.wi ∧ PG Y g.target c.g ∧ PTs Y g.ifs c.tt ∧ (∀ x, foldedSetIterable g.iter Y.env x = pure x) ∧ ClOk Y gs cs
  | _, _ => False
def hv : List ClauseN → List Nat
  | [] => []
  | c :: _ => c.vs
def Nested : List ClauseN → Prop
  | [] => True
  | c :: cs => (∀ i ∈ hv cs, i ∈ c.vs) ∧ Nested cs
theorem ClOk.plain {Y : Cx} : ∀ {gs : List Comprehension} {cs : List ClauseN}, ClOk Y gs cs → ∀ g ∈ gs, g.is_async = 0
  | [], _, _, g, h => by cases h
  | a :: gs, [], h, g, _ => h.elim
  | a :: gs, c :: cs, h, g, hg => by
    rcases List.mem_cons.mp hg with rfl | hg
    · exact h.1
    · exact ClOk.plain h.2.2.2.2.2 g hg
section
variable {Y : Cx} {st : Bool} {elt : Expr} {gens : List Comprehension} {scope : Scope} {pos : Pos} {D : Addr} {el : L2.St → Hp → (Hp → Prop) → Prop}
theorem innerN (hc : Y.calm = true) (hx : Y.xe = fun _ _ => False) (hp : ∀ g ∈ gens, g.is_async = 0)
    (emit : ∀ (d : Nat) (pins : List (Addr × Obj)) (σ : L2.St) (s : Shared) (H : Hp) (Nx : Hp → Prop), gens[d]? = none → Inv Y pins σ H s → el σ H Nx →
      wpAny (model Y.prog Y.w) Y.A (bodyN st elt gens scope pos d (.ref D) Y.env) (fun _ s' => ∃ H', Inv Y pins σ H' s' ∧ Nx H') (fun _ _ => False) s) :
    ∀ (gs : List Comprehension) (cs : List ClauseN) (d : Nat), gens.drop d = gs → ClOk Y gs cs → Nested cs → ∀ (pins : List (Addr × Obj)) (σ : L2.St) (s : Shared) (H : Hp) (Nx : Hp → Prop), Inv Y pins σ H s → inN el cs σ H Nx →
      wpAny (model Y.prog Y.w) Y.A (bodyN st elt gens scope pos d (.ref D) Y.env) (fun _ s' => ∃ σ' H', Inv Y pins σ' H' s' ∧ σ'.length = σ.length ∧ (∀ (j : Nat) v, j ∉ hv cs → σ[j]? = some (some v) → σ'[j]? = some (some v)) ∧ Nx H') (fun _ _ => False) s
  | [], [], d, hd, _, _, pins, σ, s, H, Nx, I, h => by
    have hn : gens[d]? = none := List.getElem?_eq_none_iff.mpr (List.drop_eq_nil_iff.mp hd)
    exact thnF (emit d pins σ s H Nx hn I h) fun _ s' ⟨H', I', q⟩ => ⟨σ, H', I', rfl, fun j v _ e => e, q⟩
  | [], c :: cs, d, hd, ok, _, _, _, _, _, _, _, _ => ok.elim
  | g :: gs, [], d, hd, ok, _, _, _, _, _, _, _, _ => ok.elim
  | g :: gs, c :: cs, d, hd, ok, nest, pins, σ, s, H, Nx, I, h => by
    obtain ⟨a0, hi, hg, ht, hf, ok'⟩ := ok
    obtain ⟨t, i, ifs, a⟩ := g
    have a0 : a = 0 := a0
    subst a0
    have gd : gens[d]? = some ⟨t, i, ifs, 0⟩ := by
      have := congrArg (fun l => l[0]?) hd
      rw [List.getElem?_drop] at this
      exact this
    have hd' : gens.drop (d + 1) = gs := by
      rw [← List.drop_drop, hd]
      rfl
    have hp' : ∀ g', gens[d + 1]? = some g' → g'.is_async = 0 := fun g' h' => hp g' (List.mem_of_getElem? h')
    have thX : ∀ {α : Type} {m : Sem α} {Q Q' : α → Shared → Prop} {s' : Shared}, wpAny (model Y.prog Y.w) Y.A m Q Y.xe s' → (∀ a z, Q a z → Q' a z) → wpAny (model Y.prog Y.w) Y.A m Q' (fun _ _ => False) s' := fun q f => by
      rw [hx] at q
      exact thnF q f
    refine deeperN gd hf (thX (hi.run pins s σ H _ I h) fun xv s1 hxv => thX hxv fun itv s2 h2 => ?_)
    obtain ⟨it1, fp1, tn1, J1, H2, e1, I2, T1, st2, f2, W1, ⟨m1, w1⟩, turn1⟩ := h2
    subst e1
    have stat1 : ∀ {H' : Hp}, (∀ b ∈ fp1, H' b = none) → ∀ b ∈ fp1, FpOk Y pins H' b := fun hn b hb => ⟨hn b hb, (f2 b hb).2⟩
    have loop1 : codeAny (model Y.prog Y.w) Y.A (.compLoop (compE st elt gens scope pos) d (.ref it1) (.ref D) Y.env) (fun r s' => match r with
        | .ok _ => ∃ σ' H', Inv Y pins σ' H' s' ∧ σ'.length = σ.length ∧ (∀ (j : Nat) v, j ∉ hv (c :: cs) → σ[j]? = some (some v) → σ'[j]? = some (some v)) ∧ Nx H'
        | .error _ => False) s2 := by
      refine loopN gd hp' (fun k s' => ∃ j H', Inv Y pins (wipe σ c.vs) H' s' ∧ tn1 j s'.heap ∧ (∀ b ∈ fp1, H' b = none) ∧ W1 j k H') ?_ m1 ⟨0, H2, I2.weak (wipe_length _ _) (fun j v e => (wipe_some e).1), st2, fun b hb => (f2 b hb).1, w1⟩
      rintro k s3 ⟨j, H3, I3, st3, n3, w3⟩
      rcases turn1 j k H3 w3 with ⟨stop1, nx1⟩ | ⟨go1, Ny, hNy, step1⟩
      · refine thnF (T1.done Y rfl rfl rfl hc j _ s3 (wipe σ c.vs) H3 (fun _ _ => False) I3 (stat1 n3) st3 stop1) fun r s4 ⟨hr, I4⟩ => ?_
        subst hr
        refine ⟨wipe σ c.vs, H3, I4, wipe_length _ _, fun j v hj e => ?_, nx1⟩
        have hj : j ∉ c.vs := hj
        rw [wipe_out hj]
        exact e
      · refine thnF (T1.item Y rfl rfl rfl hc j _ s3 (wipe σ c.vs) H3 (fun _ _ => False) I3 (stat1 n3) st3 go1) fun r s4 ⟨u1, hr, h4⟩ => ?_
        subst hr
        refine thnF h4 fun _ s5 ⟨x1, H5, I5, r5, y5, st5, n5⟩ => ?_
        have I5' := I5.pinned (stat1 n5) (T1.obj _ _ st5)
        refine thX (hg.run _ s5 (wipe σ c.vs) H5 x1 u1 _ I5' r5 (step1 x1 H5 y5)) fun _ s6 ⟨σ6, H6, I6, hw6, q6⟩ => ?_
        refine thX (ht.run _ s6 σ6 H6 _ I6 q6) fun b1 s7 ⟨H7, I7, q7⟩ => ?_
        have fin1 : ∀ {s' : Shared} {H' : Hp} {σ' : L2.St}, Inv Y (pins ++ pinsAt fp1 s5.heap) σ' H' s' → σ'.length = σ6.length → (∀ (j : Nat) v, j ∉ c.vs → σ6[j]? = some (some v) → σ'[j]? = some (some v)) → Ny H' → ∃ m, m < k ∧ ∃ j H', Inv Y pins (wipe σ c.vs) H' s' ∧ tn1 j s'.heap ∧ (∀ b ∈ fp1, H' b = none) ∧ W1 j m H' := fun {s' H' σ'} I' el' ek' nx => by
          obtain ⟨m', hm, w'⟩ := hNy H' nx
          have pin' : ∀ b ∈ fp1, ∀ o, s5.heap.get? b = some o → s'.heap.get? b = some o ∧ H' b = none := fun b hb o e =>
            let z := I'.pin (b, o) (List.mem_append_right _ (List.mem_append_right _ (mem_pinsAt hb e)))
            ⟨z.1, z.2.1⟩
          refine ⟨m', hm, j + 1, H', I'.unpinned.weak (by rw [el', ← hw6, wipe_length]) (fun j v e => by
            rw [← hw6] at e
            obtain ⟨e1, e2⟩ := wipe_some e
            exact ek' j v e2 e1), T1.keep _ _ _ st5 fun b hb o e => (pin' b hb o e).1, fun b hb => ?_, w'⟩
          obtain ⟨o, e, _⟩ := T1.obj _ _ st5 b hb
          exact (pin' b hb o e).2
        cases b1 with
        | false =>
          simp only [Bool.false_eq_true, if_false] at q7 ⊢
          exact fin1 I7 rfl (fun j v _ e => e) q7
        | true =>
          simp only [if_true] at q7 ⊢
          refine thnF (innerN hc hx hp emit gs cs (d + 1) hd' ok' nest.2 _ σ6 s7 H7 Ny I7 q7) fun _ s8 ⟨σ8, H8, I8, l8, k8, nx⟩ => ?_
          exact fin1 I8 l8 (fun j v hj e => k8 j v (fun z => hj (nest.1 j z)) e) nx
    exact startN gd loop1 (T1.self Y.A 0 _ _ _ st2 loop1)
end
end DL

set_option Elab.async false
set_option maxRecDepth 100000
set_option maxHeartbeats 4000000
set_option linter.all false
namespace DL
open PySem PySem.Spec PyProof.Rows L2
/-- the first clause's walk, D the new list or set, that stands in Hn -/
def ReadN (J : It) (Hn : Hp) (g : TG) (tt : TT) (el : L2.St → Hp → (Hp → Prop) → Prop) (cs : List ClauseN) (vs : List Nat) (σ : L2.St) (Qd : Hp → Prop) : Prop :=
  ∃ W : Nat → Nat → Hp → Prop, (∃ m, W 0 m Hn) ∧ ∀ i m H, W i m H → (J.stop i H ∧ Qd H) ∨ (J.go i H ∧ ∃ Nx : Hp → Prop, (∀ H', Nx H' → ∃ m', m' < m ∧ W (i + 1) m' H') ∧ ∀ x H', J.yld i H x H' → g x (wipe σ vs) H' fun σ2 H2 => wipe σ2 vs = wipe σ vs ∧ tt σ2 H2 fun b H3 =>
    if b = true then inN el cs σ2 H3 Nx else Nx H3)
section
variable {X : Cx}
theorem coreN {st : Bool} {elt tg iter : Expr} {ifs : List Expr} {gs : List Comprehension} {scope : Scope} {own : List (PySem.Str × Nat)} {pos : Pos} {g : TG} {tt : TT} {cs : List ClauseN} {el : L2.St → Hp → (Hp → Prop) → Prop} {pins : List (Addr × Obj)} {σ : L2.St} {Hn : Hp} {sN : Shared} {D it : Addr} {fp : List Addr} {tn : Nat → Heap → Prop} {J : It} {Q : VK}
    (calm : X.calm = true) (nd : X.N.Nodup) (blk : BlkOk X.N X.env.scope scope own)
    (hg : ∀ (s : Shared) (H : Hp) (C : Addr) (cl : List (PySem.Str × Addr)) (fp : List Addr), PG (X.blk s H scope (compEnvC scope cl C X.env) fp) tg g)
    (ht : ∀ (s : Shared) (H : Hp) (C : Addr) (cl : List (PySem.Str × Addr)) (fp : List Addr), PTs (X.blk s H scope (compEnvC scope cl C X.env) fp) ifs tt)
    (hcs : ∀ (s : Shared) (H : Hp) (C : Addr) (cl : List (PySem.Str × Addr)) (fp : List Addr), ClOk (X.blk s H scope (compEnvC scope cl C X.env) fp) gs cs) (nest : Nested cs) (hvs : ∀ i ∈ hv cs, i ∈ own.map (·.2))
    (emit : ∀ (s : Shared) (H : Hp) (C : Addr) (cl : List (PySem.Str × Addr)) (fp : List Addr) (d : Nat) (pins : List (Addr × Obj)) (σ : L2.St) (s' : Shared) (H' : Hp) (Nx : Hp → Prop), ((⟨tg, iter, ifs, 0⟩ : Comprehension) :: gs)[d]? = none → Inv (X.blk s H scope (compEnvC scope cl C X.env) fp) pins σ H' s' → el σ H' Nx →
      wpAny (model X.prog X.w) X.A (bodyN st elt (⟨tg, iter, ifs, 0⟩ :: gs) scope pos d (.ref D) (compEnvC scope cl C X.env)) (fun _ s2 => ∃ H2, Inv (X.blk s H scope (compEnvC scope cl C X.env) fp) pins σ H2 s2 ∧ Nx H2) (fun _ _ => False) s')
    (IN : Inv X pins σ Hn sN) (T : Turn X.prog X.w X.K tg J fp it tn) (stN : tn 0 sN.heap) (fpN : ∀ b ∈ fp, FpOk X pins Hn b ∧ b < sN.heap.objs.size) (rd : ReadN J Hn g tt el cs (own.map (·.2)) σ fun H => Q (.ref D) H) :
    codeAny (model X.prog X.w) X.A (.compStart (compE st elt (⟨tg, iter, ifs, 0⟩ :: gs) scope pos) 0 (.ref it) (.ref D) (compEnvC scope (cellsFrom (sN.heap.objs.size + 1) scope.names (cloFrom X.env.cells scope.names [])) sN.heap.objs.size X.env))
      (compPost (model X.prog X.w) X.A X.xe none (EP X pins σ Q) (.ref D) sN.heap.objs.size) { sN with heap := pushCells (sN.heap.push { cls := .type "dict", data := .dict #[] }) scope.names } := by
  obtain ⟨W, ⟨m0, begin0⟩, turn⟩ := rd
  have IB := block_start IN blk nd fpN
  have G := hg sN Hn sN.heap.objs.size (cellsFrom (sN.heap.objs.size + 1) scope.names (cloFrom X.env.cells scope.names [])) fp
  have Te := ht sN Hn sN.heap.objs.size (cellsFrom (sN.heap.objs.size + 1) scope.names (cloFrom X.env.cells scope.names [])) fp
  have Ok := hcs sN Hn sN.heap.objs.size (cellsFrom (sN.heap.objs.size + 1) scope.names (cloFrom X.env.cells scope.names [])) fp
  have Em := emit sN Hn sN.heap.objs.size (cellsFrom (sN.heap.objs.size + 1) scope.names (cloFrom X.env.cells scope.names [])) fp
  have locals : (compEnvC scope (cellsFrom (sN.heap.objs.size + 1) scope.names (cloFrom X.env.cells scope.names [])) sN.heap.objs.size X.env).locals = sN.heap.objs.size := rfl
  generalize compEnvC scope (cellsFrom (sN.heap.objs.size + 1) scope.names (cloFrom X.env.cells scope.names [])) sN.heap.objs.size X.env = ce at IB G Te Ok Em locals ⊢
  have noFp : ∀ b ∈ fp, Hn b = none := fun b hb => (fpN b hb).1.1
  have stB : tn 0 (pushCells (sN.heap.push { cls := .type "dict", data := .dict #[] }) scope.names) := T.keep _ _ _ stN fun b _ z e => pushCells_keeps _ _ _ _ (Heap.get?_push_of_some _ e)
  generalize eB : ({ sN with heap := pushCells (sN.heap.push { cls := .type "dict", data := .dict #[] }) scope.names } : Shared) = sB at IB ⊢
  have stB : tn 0 sB.heap := by rw [← eB]; exact stB
  have inside : ∀ {σ' : L2.St} {H' : Hp} {s' : Shared}, Inv (X.blk sN Hn scope ce fp) [] σ' H' s' → (∀ b ∈ fp, H' b = none) → ∀ b ∈ fp, FpOk (X.blk sN Hn scope ce fp) [] H' b := fun I' no b hb =>
    ⟨no b hb, (I'.ok.exf b hb).1, I'.ok.exfs b hb, .inl hb, fun x c e => (I'.ok.exf b hb).2 x c e, fun p hp => absurd (show p ∈ ([] : List (Addr × Obj)) ++ [] from hp) (by simp)⟩
  have plain : ∀ g' ∈ ((⟨tg, iter, ifs, 0⟩ : Comprehension) :: gs), g'.is_async = 0 := fun g' hg' => by
    rcases List.mem_cons.mp hg' with rfl | hg'
    · rfl
    · exact Ok.plain g' hg'
  have main : codeAny (model X.prog X.w) X.A (.compLoop (compE st elt (⟨tg, iter, ifs, 0⟩ :: gs) scope pos) 0 (.ref it) (.ref D) ce) (compPost (model X.prog X.w) X.A X.xe none (EP X pins σ Q) (.ref D) sN.heap.objs.size) sB := by
    refine loopN (gens := ⟨tg, iter, ifs, 0⟩ :: gs) (d := 0) rfl (fun g' h' => plain g' (List.mem_of_getElem? h')) (fun n s' => ∃ i H', Inv (X.blk sN Hn scope ce fp) [] (wipe σ (own.map (·.2))) H' s' ∧ tn i s'.heap ∧ (∀ b ∈ fp, H' b = none) ∧ W i n H') ?_ m0 ⟨0, Hn, IB, stB, noFp, begin0⟩
    rintro n sT ⟨i, HT, IT, stT, noT, wT⟩
    rcases turn i n HT wT with ⟨stop, qq⟩ | ⟨go, Nx, next, step⟩
    · refine thnF (T.done (X.blk sN Hn scope ce fp) rfl rfl rfl calm i [] sT _ HT (fun _ _ => False) IT (inside IT noT) stT stop) fun _ sF ⟨er, IF⟩ => ?_
      subst er
      have IO : Inv X pins σ HT sF := IN.call' (ch := fp) IF.os IF.base IF.hok IF.bare fun b hb => ⟨(fpN b hb).1.2.2.2.1, (fpN b hb).1.2.1, (fpN b hb).1.2.2.2.2.1, (fpN b hb).1.2.2.2.2.2⟩
      have noC : HT sN.heap.objs.size = none := by rw [← locals]; exact IF.free
      obtain ⟨m, ns, _⟩ := IF.loc
      have ns : sF.heap.Ns ce.locals m := ns
      rw [locals] at ns
      obtain ⟨f0, f1, f2, f3, f4, f5⟩ := IN.fpOk (Nat.le_refl _) noC
      exact ⟨m, ns, fun h'' sb => ⟨.ref D, HT, IO.turned (t' := sF.toks) (fun b z hb e => (sb.2 b hb).trans e) f0 f1 f3 f4 f5, rfl, qq⟩⟩
    · refine thnF (T.item (X.blk sN Hn scope ce fp) rfl rfl rfl calm i [] sT _ HT (fun _ _ => False) IT (inside IT noT) stT go) fun _ s5 ⟨u, er, got⟩ => ?_
      subst er
      refine thnF got fun _ s6 ⟨x, H6, I6, r6, y6, st6, no6⟩ => ?_
      have I6' := I6.pinned (inside I6 no6) (T.obj _ _ st6)
      refine thnF (G.run _ s6 _ H6 x u _ I6' r6 (step x H6 y6)) fun _ s7 ⟨σ7, H7, I7, w7, q7⟩ => ?_
      refine thnF (Te.run _ s7 σ7 H7 _ I7 q7) fun b s8 ⟨H8, I8, q8⟩ => ?_
      have close : ∀ {s' : Shared} {H' : Hp} {σ' : L2.St}, Inv (X.blk sN Hn scope ce fp) ([] ++ pinsAt fp s6.heap) σ' H' s' → σ'.length = σ7.length → (∀ (j : Nat) v, j ∉ own.map (·.2) → σ7[j]? = some (some v) → σ'[j]? = some (some v)) → Nx H' →
          ∃ m, m < n ∧ ∃ i H', Inv (X.blk sN Hn scope ce fp) [] (wipe σ (own.map (·.2))) H' s' ∧ tn i s'.heap ∧ (∀ b ∈ fp, H' b = none) ∧ W i m H' := fun {s' H' σ'} I' el' ek' nx => by
        obtain ⟨m', lt, w'⟩ := next H' nx
        have pins' : ∀ b ∈ fp, ∀ z, s6.heap.get? b = some z → s'.heap.get? b = some z ∧ H' b = none := fun b hb z e => by
          have p := I'.pin (b, z) (List.mem_append_right _ (List.mem_append_right _ (mem_pinsAt hb e)))
          exact ⟨p.1, p.2.1⟩
        have len : (wipe σ (own.map (·.2))).length = σ'.length := by rw [el', ← w7, wipe_length]
        refine ⟨m', lt, i + 1, H', (I'.unpinned (pins := [])).weak len (fun j v e => ?_), T.keep _ _ _ st6 fun b hb z e => (pins' b hb z e).1, fun b hb => ?_, w'⟩
        · rw [← w7] at e
          obtain ⟨e1, e2⟩ := wipe_some e
          exact ek' j v e2 e1
        · obtain ⟨z, e, _⟩ := T.obj _ _ st6 b hb
          exact (pins' b hb z e).2
      cases b with
      | false =>
        simp only [Bool.false_eq_true, if_false] at q8 ⊢
        exact close I8 rfl (fun j v _ e => e) q8
      | true =>
        simp only [if_true] at q8 ⊢
        refine thnF (innerN (Y := X.blk sN Hn scope ce fp) (st := st) (elt := elt) (gens := ⟨tg, iter, ifs, 0⟩ :: gs) (scope := scope) (pos := pos) (D := D) (el := el) calm rfl plain Em gs cs 1 rfl Ok nest _ σ7 s8 H8 Nx I8 q8) fun _ s9 ⟨σ9, H9, I9, l9, k9, nx⟩ => ?_
        exact close I9 l9 (fun j v hj e => k9 j v (fun z => hj (hvs j z)) e) nx
  exact startN (gens := ⟨tg, iter, ifs, 0⟩ :: gs) (d := 0) rfl main (T.self X.A 0 _ _ _ stB main)
end
end DL

set_option Elab.async false
set_option maxRecDepth 100000
set_option maxHeartbeats 4000000

set_option Elab.async false
set_option maxRecDepth 100000
namespace DL
open PySem PySem.Spec PyProof.Rows L2
/-! ### walks of the clauses -/
theorem tt_yes {c : ClauseN} (hc : c.tt = tYes) {σ : L2.St} {H : Hp} {Q : Bool → Hp → Prop} (h : Q true H) : c.tt σ H Q := by
  rw [hc]
  exact h
theorem inW_by {J : It} {n : Nat} {G : Hp → Prop} {Y : Nat → Hp → V → Hp → Prop} (wk : Walk J n G Y) {el : L2.St → Hp → (Hp → Prop) → Prop} {c : ClauseN} {cs : List ClauseN} {σ : L2.St} {H : Hp} {Nx : Hp → Prop} (Pv : Nat → Hp → Prop) (h0 : Pv 0 H) (hG : ∀ i H, i ≤ n → Pv i H → G H)
    (hs : ∀ i x H H', i < n → Pv i H → Y i H x H' → c.g x (wipe σ c.vs) H' fun σ3 H5 => wipe σ3 c.vs = wipe σ c.vs ∧ c.tt σ3 H5 fun b H6 => if b = true then inN el cs σ3 H6 (Pv (i + 1)) else Pv (i + 1) H6) (hd : ∀ H, Pv n H → Nx H) :
    ∃ W : Nat → Nat → Hp → Prop, (∃ m, W 0 m H) ∧ ∀ j k H, W j k H → (J.stop j H ∧ Nx H) ∨ (J.go j H ∧ ∃ Ny : Hp → Prop, (∀ H', Ny H' → ∃ k', k' < k ∧ W (j + 1) k' H') ∧ ∀ x H', J.yld j H x H' → c.g x (wipe σ c.vs) H' fun σ3 H5 => wipe σ3 c.vs = wipe σ c.vs ∧ c.tt σ3 H5 fun b H6 =>
        if b = true then inN el cs σ3 H6 Ny else Ny H6) := by
  refine ⟨fun i m H => m = n - i ∧ i ≤ n ∧ Pv i H, ⟨n, rfl, Nat.zero_le _, h0⟩, ?_⟩
  rintro i m H ⟨rfl, hi, p⟩
  rcases Nat.lt_or_ge i n with lt | ge
  · exact .inr ⟨wk.goes i H lt (hG i H hi p), Pv (i + 1), fun H' p' => ⟨n - (i + 1), by omega, rfl, lt, p'⟩, fun x H' y => hs i x H H' lt p (wk.yields i H x H' lt (hG i H hi p) y)⟩
  · obtain rfl : i = n := by omega
    exact .inl ⟨wk.stops H (hG i H hi p), hd H p⟩
theorem readN_by {J : It} {n : Nat} {G : Hp → Prop} {Y : Nat → Hp → V → Hp → Prop} (wk : Walk J n G Y) {el : L2.St → Hp → (Hp → Prop) → Prop} {g : TG} {tt : TT} {cs : List ClauseN} {vs : List Nat} {σ : L2.St} {Hn : Hp} {Qd : Hp → Prop} (Pv : Nat → Hp → Prop) (h0 : Pv 0 Hn) (hG : ∀ i H, i ≤ n → Pv i H → G H)
    (hs : ∀ i x H H', i < n → Pv i H → Y i H x H' → g x (wipe σ vs) H' fun σ3 H5 => wipe σ3 vs = wipe σ vs ∧ tt σ3 H5 fun b H6 => if b = true then inN el cs σ3 H6 (Pv (i + 1)) else Pv (i + 1) H6) (hd : ∀ H, Pv n H → Qd H) : ReadN J Hn g tt el cs vs σ Qd := by
  refine ⟨fun i m H => m = n - i ∧ i ≤ n ∧ Pv i H, ⟨n, rfl, Nat.zero_le _, h0⟩, ?_⟩
  rintro i m H ⟨rfl, hi, p⟩
  rcases Nat.lt_or_ge i n with lt | ge
  · exact .inr ⟨wk.goes i H lt (hG i H hi p), Pv (i + 1), fun H' p' => ⟨n - (i + 1), by omega, rfl, lt, p'⟩, fun x H' y => hs i x H H' lt p (wk.yields i H x H' lt (hG i H hi p) y)⟩
  · obtain rfl : i = n := by omega
    exact .inl ⟨wk.stops H (hG i H hi p), hd H p⟩
end DL

set_option Elab.async false
set_option maxRecDepth 100000
set_option maxHeartbeats 2000000
set_option linter.all false
namespace DL
open PySem PySem.Spec PyProof.Rows L2
open Sem (wp)
/-! ### itertools.combinations(xs, r): the class -/
theorem mro_com : mroOf (.type "itertools.combinations") = pure [.type "itertools.combinations", .type "object"] := by rw [mroOf_type]; kernel_rfl
theorem look_com_new : typeLookup (.type "itertools.combinations") "__new__" = pure (some (.builtin "itertools.combinations.__new__")) := by rw [typeLookup_type, builtinLookup_eq_fast]; kernel_rfl
theorem slot_com_init : Slot "itertools.combinations" "__init__" "object.__init__" :=
  .of (owner := "object") (n := "__init__") (by rw [typeLookup_type, builtinLookup_eq_fast]; kernel_rfl) (by decide +kernel) (by decide +kernel) (by decide +kernel)
    (by first | exact .inl (by decide +kernel) | exact .inr (by decide +kernel)) (by rw [isSubtype_type]; kernel_rfl)
theorem sub_com : isSubtype (.type "itertools.combinations") (.type "itertools.combinations") = pure true := by rw [isSubtype_type]; kernel_rfl
theorem called_com : TypeCalled "itertools.combinations" "itertools.combinations.__new__" "object.__init__" :=
  ⟨by decide +kernel, by decide +kernel, ⟨_, _, mro_com⟩, madeBy_type mro_com look_com_new (by decide +kernel), by decide +kernel, sub_com, slot_com_init⟩
theorem typeCall_com (a b : Value) : checkTypeCall "itertools.combinations" ⟨[a, b], []⟩ = pure () := by kernel_rfl
theorem newCall_com (a b : Value) : checkBuiltinCall "itertools.combinations.__new__" ⟨[.type "itertools.combinations", a, b], []⟩ = pure () := by kernel_rfl
theorem entry_com_new : entryFor table "itertools.combinations.__new__" = some Builtin.«itertools.combinations.__new__» := entryFor_of_tree (by kernel_rfl)
theorem slot_com_iter : Slot "itertools.combinations" "__iter__" "itertools.combinations.__iter__" :=
  .of (owner := "itertools.combinations") (n := "__iter__") (by rw [typeLookup_type, builtinLookup_eq_fast]; kernel_rfl) (by decide +kernel) (by decide +kernel) (by decide +kernel)
    (by first | exact .inl (by decide +kernel) | exact .inr (by decide +kernel)) sub_com
theorem slot_com_next : Slot "itertools.combinations" "__next__" "itertools.combinations.__next__" :=
  .of (owner := "itertools.combinations") (n := "__next__") (by rw [typeLookup_type, builtinLookup_eq_fast]; kernel_rfl) (by decide +kernel) (by decide +kernel) (by decide +kernel)
    (by first | exact .inl (by decide +kernel) | exact .inr (by decide +kernel)) sub_com
theorem entry_com_iter : entryFor table "itertools.combinations.__iter__" = some Builtin.«dict_keyiterator.__iter__» :=
  entryFor_alias (id' := "dict_keyiterator.__iter__") (by kernel_rfl) (by first | rfl | decide +kernel | (unfold String.splitOn; simp +decide [String.splitOnAux])) (by decide +kernel) (by kernel_rfl)
theorem entry_com_next : entryFor table "itertools.combinations.__next__" = some Builtin.«itertools.combinations.__next__» := entryFor_of_tree (by kernel_rfl)
theorem owner_com : Manifest.owners.lookup (String.ofList ['s', 'n', 'o', 'i', 't', 'a', 'n', 'i', 'b', 'm', 'o', 'c', '.', 's', 'l', 'o', 'o', 't', 'r', 'e', 't', 'i'].reverse) = some Manifest.sig_itertools_combinations := by kernel_rfl
theorem args_com_iter (a : Value) : argsOk "itertools.combinations.__iter__" ⟨[a], []⟩ := by
  unfold argsOk; rw [signature?_of (id := "itertools.combinations.__iter__") (n := ['_', '_', 'r', 'e', 't', 'i', '_', '_']) (o := ['s', 'n', 'o', 'i', 't', 'a', 'n', 'i', 'b', 'm', 'o', 'c', '.', 's', 'l', 'o', 'o', 't', 'r', 'e', 't', 'i']) (by kernel_rfl) owner_com]; kernel_rfl
theorem args_com_next (a : Value) : argsOk "itertools.combinations.__next__" ⟨[a], []⟩ := by
  unfold argsOk; rw [signature?_of (id := "itertools.combinations.__next__") (n := ['_', '_', 't', 'x', 'e', 'n', '_', '_']) (o := ['s', 'n', 'o', 'i', 't', 'a', 'n', 'i', 'b', 'm', 'o', 'c', '.', 's', 'l', 'o', 'o', 't', 'r', 'e', 't', 'i']) (by kernel_rfl) owner_com]; kernel_rfl
theorem noDict_com : typeHasDict (.type "itertools.combinations") = false := by decide +kernel
/-- the pool's tuple, what is out (0 fresh, 1 begun, 2 ended), the tuple told last, the places -/
abbrev IsCom (h : Heap) (it : Addr) (pool : Addr) (st : Int) (last : Value) (ix : List Nat) : Prop :=
  h.get? it = some { cls := .type "itertools.combinations", dict := none, data := .fields ([.ref pool, .int st 0, last] ++ ix.map fun (i : Nat) => rawInt i).toArray, slots := #[] }
end DL

set_option Elab.async false
set_option maxRecDepth 100000
set_option maxHeartbeats 2000000
set_option linter.all false
namespace DL
open PySem PySem.Spec PyProof.Rows L2
open Sem (wp)
theorem com_new {prog : Program} {w : World} (v : Value) (r : Nat) (t : Tok) (hr : r ≤ 1000) :
    MeetsIn prog w (Builtin.«itertools.combinations.__new__» ⟨[.type "itertools.combinations", v, .int r t], []⟩) (fun A R s => wpAny (model prog w) A.in1 (collect v) (fun items s1 => items.length ≤ sizeLine ∧
      R (.ok (.ret (.ref (s1.heap.objs.size + 1)))) { s1 with heap := (s1.heap.push { cls := .type "tuple", data := .seq items.toArray }).push { cls := .type "itertools.combinations", data := .fields ([.ref s1.heap.objs.size, rawInt (if r > items.length then 2 else 0), .none] ++ (List.range r).map fun (i : Nat) => rawInt i).toArray } }) (fun e s1 => R (.error e) s1) s) :=
  .of_wp fun A R s h => by
    have hsub := sub_com
    have hd := noDict_com
    have h0 : ¬ ((r : Int) < 0) := by omega
    have hn : ¬ ((decide ((r : Int) < -(2 ^ 63 : Int)) || decide ((r : Int) ≥ (2 ^ 63 : Int))) = true) := by
      have a : decide ((r : Int) < -(2 ^ 63 : Int)) = false := decide_eq_false (by omega)
      have b : decide ((r : Int) ≥ (2 ^ 63 : Int)) = false := decide_eq_false (by omega)
      rw [a, b]
      decide
    show wpAny (model prog w) A.in1 ((Builtin.Itertools.itClassAndRest "combinations" ⟨[.type "itertools.combinations", v, .int r t], []⟩ >>= _) >>= _) _ _ s
    refine wpAny_bind (wpAny_bind ?_)
    unfold Builtin.Itertools.itClassAndRest
    repeat (first | wp_step | simp only [List.length_cons, List.length_nil, List.forIn_nil])
    refine wpAny_of_eq (a := true) hsub ?_
    rw [if_neg (by decide)]
    refine wpAny_pure ?_
    refine wpAny_bind ?_
    unfold Builtin.Itertools.itBindNamed
    simp only [List.zipIdx_cons, List.zipIdx_nil, List.forIn_cons, List.forIn_nil]
    repeat (first | wp_step | simp only [List.length_cons, List.length_nil, List.forIn_nil])
    rw [if_neg hn]
    refine wpAny_pure (wpAny_bind (wpAny_mono h (fun items s1 q => ?_) fun _ _ x => x))
    obtain ⟨hl, q⟩ := q
    rw [if_neg h0]
    have h5 : ¬ (Builtin.Itertools.itTooMany (r : Int) = true) := by
      unfold Builtin.Itertools.itTooMany
      rw [decide_eq_true_iff]
      omega
    rw [if_neg h5]
    refine wpAny_bind (wpAny_newTuple ?_ hl)
    refine wpAny_pure ?_
    refine wpAny_bind ?_
    unfold Builtin.Itertools.itNewRecord
    dsimp only
    rw [hd]
    have e2 : ((r : Int)).toNat = r := by omega
    rw [e2]
    rw [if_pos (by decide)]
    refine wpAny_newObj_type ?_ ?_
    · refine wpAny_pure ⟨_, rfl, ?_⟩
      rw [Heap.size_push]
      exact q
    · first | exact trivial | (show _ ≤ _; simp [sizeLine_eq]; omega) | size_fits
end DL

set_option Elab.async false
set_option linter.all false
namespace DL
/-! ### ascending choices of places, one after another -/
def nextK (n : Nat) (indices : List Nat) : Option (List Nat) :=
  let r := indices.length
  match (List.range r).reverse.find? fun i => indices.getD i 0 != i + n - r with
  | none => none
  | some i => some (indices.take i ++ (List.range (r - i)).map (indices.getD i 0 + 1 + ·))
def nextC (n : Nat) : List Nat → Option (List Nat)
  | [] => none
  | x :: c => match nextC n c with
    | some d => some (x :: d)
    | none => if x = n - (c.length + 1) then none else some (List.range' (x + 1) (c.length + 1))
theorem range_from (x k : Nat) : (List.range k).map (x + 1 + ·) = List.range' (x + 1) k := by
  rw [List.range'_eq_map_range]
theorem next_eq (n : Nat) (c : List Nat) : nextK n c = nextC n c := by
  induction c with
  | nil => rfl
  | cons x c ih =>
    unfold nextC
    rw [← ih]
    unfold nextK
    simp only [List.length_cons]
    rw [List.range_succ_eq_map, List.reverse_cons, List.find?_append, ← List.map_reverse, List.find?_map]
    have e : ((fun i => (x :: c).getD i 0 != i + n - (c.length + 1)) ∘ Nat.succ) = fun i => c.getD i 0 != i + n - c.length := by
      funext i
      show ((x :: c).getD (i + 1) 0 != i + 1 + n - (c.length + 1)) = _
      rw [show i + 1 + n - (c.length + 1) = i + n - c.length by omega]
      rfl
    rw [e]
    cases h : (List.range c.length).reverse.find? fun i => c.getD i 0 != i + n - c.length with
    | some i =>
      show some ((x :: c).take (i + 1) ++ (List.range (c.length + 1 - (i + 1))).map ((x :: c).getD (i + 1) 0 + 1 + ·)) = some (x :: (c.take i ++ (List.range (c.length - i)).map (c.getD i 0 + 1 + ·)))
      rw [show c.length + 1 - (i + 1) = c.length - i by omega]
      rfl
    | none =>
      show (match [0].find? (fun i => (x :: c).getD i 0 != i + n - (c.length + 1)) with | none => none | some i => some ((x :: c).take i ++ (List.range (c.length + 1 - i)).map ((x :: c).getD i 0 + 1 + ·))) = _
      by_cases q : x = n - (c.length + 1)
      · have e0 : [0].find? (fun i => (x :: c).getD i 0 != i + n - (c.length + 1)) = none := by
          rw [List.find?_cons]
          have : ((x :: c).getD 0 0 != 0 + n - (c.length + 1)) = false := by
            show (x != 0 + n - (c.length + 1)) = false
            rw [Nat.zero_add, ← q]
            simp
          rw [this]
          rfl
        rw [e0, if_pos q]
      · have e0 : [0].find? (fun i => (x :: c).getD i 0 != i + n - (c.length + 1)) = some 0 := by
          rw [List.find?_cons]
          have : ((x :: c).getD 0 0 != 0 + n - (c.length + 1)) = true := by
            show (x != 0 + n - (c.length + 1)) = true
            rw [Nat.zero_add]
            simpa using q
          rw [this]
        rw [e0, if_neg q]
        show some ([] ++ (List.range (c.length + 1 - 0)).map (x + 1 + ·)) = _
        rw [Nat.sub_zero, range_from]
        rfl
/-- all ascending choices of r places from lo up to n - 1, in their order -/
def combsL (n : Nat) : Nat → Nat → List (List Nat)
  | 0, _ => [[]]
  | r + 1, lo => (List.range' lo (n - lo)).flatMap fun x => (combsL n r (x + 1)).map (x :: ·)
theorem combs_cons {n r lo : Nat} (h : lo < n) : combsL n (r + 1) lo = (combsL n r (lo + 1)).map (lo :: ·) ++ combsL n (r + 1) (lo + 1) := by
  show (List.range' lo (n - lo)).flatMap _ = _ ++ (List.range' (lo + 1) (n - (lo + 1))).flatMap _
  rw [show n - lo = (n - (lo + 1)) + 1 by omega, List.range'_succ, List.flatMap_cons]
theorem combs_none {n : Nat} : ∀ {r lo : Nat}, n < lo + r → 0 < r → combsL n r lo = []
  | 0, lo, _, h => by omega
  | r + 1, lo, h, _ => by
    show (List.range' lo (n - lo)).flatMap _ = []
    rw [List.flatMap_eq_nil_iff]
    intro x hx
    have hx := List.mem_range'_1.mp hx
    rw [List.map_eq_nil_iff]
    cases r with
    | zero => omega
    | succ r => exact combs_none (by omega) (by omega)
theorem combs_len {n : Nat} : ∀ {r lo : Nat} {c : List Nat}, c ∈ combsL n r lo → c.length = r
  | 0, lo, c, h => by
    rw [List.mem_singleton.mp h]
    rfl
  | r + 1, lo, c, h => by
    obtain ⟨x, _, hx⟩ := List.mem_flatMap.mp h
    obtain ⟨d, hd, rfl⟩ := List.mem_map.mp hx
    rw [List.length_cons, combs_len hd]
theorem combs_head {n : Nat} : ∀ {r lo : Nat}, lo + r ≤ n → (combsL n r lo)[0]? = some (List.range' lo r)
  | 0, lo, _ => rfl
  | r + 1, lo, h => by
    rw [combs_cons (by omega)]
    have := combs_head (n := n) (r := r) (lo := lo + 1) (by omega)
    rw [List.getElem?_append_left (by
      rw [List.length_map]
      exact (List.getElem?_eq_some_iff.mp this).1), List.getElem?_map, this, List.range'_succ]
    rfl
def NextOk (n r lo : Nat) : Prop := ∀ i c, (combsL n r lo)[i]? = some c → nextC n c = (combsL n r lo)[i + 1]?
theorem combs_step {n r : Nat} (ih : ∀ lo, lo + r ≤ n → NextOk n r lo) : ∀ m lo, n - lo ≤ m → lo + (r + 1) ≤ n → NextOk n (r + 1) lo
  | 0, lo, hm, hl => by omega
  | m + 1, lo, hm, hl => by
    intro i c h
    rw [combs_cons (by omega)] at h ⊢
    have L1 := ih (lo + 1) (by omega)
    rcases Nat.lt_or_ge i (combsL n r (lo + 1)).length with hi | hi
    · rw [List.getElem?_append_left (by rw [List.length_map]; exact hi), List.getElem?_map] at h
      cases hd : (combsL n r (lo + 1))[i]? with
      | none => rw [hd] at h; cases h
      | some d =>
        rw [hd] at h
        have h : some (lo :: d) = some c := h
        injection h with h
        subst h
        have hdl := combs_len (List.mem_of_getElem? hd)
        unfold nextC
        rw [L1 i d hd]
        cases hn : (combsL n r (lo + 1))[i + 1]? with
        | some e =>
          have := (List.getElem?_eq_some_iff.mp hn).1
          rw [List.getElem?_append_left (by rw [List.length_map]; exact this), List.getElem?_map, hn]
          rfl
        | none =>
          have h2 : (combsL n r (lo + 1)).length ≤ i + 1 := List.getElem?_eq_none_iff.mp hn
          rw [List.getElem?_append_right (by rw [List.length_map]; exact h2), List.length_map, show i + 1 - (combsL n r (lo + 1)).length = 0 by omega, hdl]
          show (if lo = n - (r + 1) then none else some (List.range' (lo + 1) (r + 1))) = _
          by_cases q : lo = n - (r + 1)
          · rw [if_pos q, combs_none (by omega) (by omega)]
            rfl
          · rw [if_neg q, combs_head (by omega)]
    · rw [List.getElem?_append_right (by rw [List.length_map]; exact hi), List.length_map] at h
      rw [List.getElem?_append_right (by rw [List.length_map]; omega), List.length_map, show i + 1 - (combsL n r (lo + 1)).length = (i - (combsL n r (lo + 1)).length) + 1 by omega]
      rcases Nat.lt_or_ge n (lo + 1 + (r + 1)) with z | z
      · rw [combs_none z (by omega)] at h
        cases h
      · exact combs_step ih m (lo + 1) (by omega) (by omega) _ _ h
theorem combs_next {n : Nat} : ∀ {r lo : Nat}, lo + r ≤ n → NextOk n r lo
  | 0, lo, _, i, c, h => by
    cases i with
    | zero => cases h; rfl
    | succ i => cases h
  | r + 1, lo, hl, i, c, h => combs_step (fun lo h => combs_next h) _ lo (Nat.le_refl _) hl i c h
end DL

set_option Elab.async false
set_option maxRecDepth 100000
set_option maxHeartbeats 2000000
set_option linter.all false
namespace DL
open PySem PySem.Spec PyProof.Rows L2
open Sem (wp)
/-! ### itertools.combinations: the next one -/
def pickA (us : List Value) (c : List Nat) : List Value := c.map fun i => us.toArray.getD i .none
section
variable {prog : Program} {w : World} {A : Around} {E : Value → Shared → Prop} {s : Shared}
theorem nums_of (f : Value → Nat) (hf : ∀ i : Nat, f (rawInt i) = i) (a b c : Value) (ix : List Nat) : (List.drop 3 ([a, b, c] ++ ix.map fun (i : Nat) => rawInt i).toArray.toList).map f = ix := by
  show (ix.map fun (i : Nat) => rawInt i).map f = ix
  rw [List.map_map]
  have : (f ∘ fun (i : Nat) => rawInt i) = id := by
    funext i
    exact hf i
  rw [this, List.map_id]
theorem com_hand {it pool : Addr} {us : List Value} {last : Value} {ix : List Nat} {n : Nat} {Q : Value → Shared → Prop} (hit : IsCom s.heap it pool 1 last ix) (hp : ∃ o, s.heap.get? pool = some o ∧ o.data = .seq us.toArray n) (hz : ix.length ≤ 1000)
    (hQ : ∀ h', IsCom h' it pool 1 (.ref s.heap.objs.size) ix → (∀ c o, c ≠ it → s.heap.get? c = some o → h'.get? c = some o) → h'.get? s.heap.objs.size = some { cls := .type "tuple", data := .seq (pickA us ix).toArray } → Q (.ref s.heap.objs.size) { s with heap := h' }) :
    wpAny (model prog w) A ((do
      let result ← (Builtin.Itertools.itPoolItems (.ref pool) >>= fun items => newTuple (ix.map fun i => items.getD i .none))
      let before ← field (Value.ref it) 2
      setField (Value.ref it) 2 result
      letGo [before] [result]
      ret result) : Sem PySem.Fin) (fun fin s' => ∃ v, fin = .done (.ret v) ∧ Q v s') E s := by
  obtain ⟨o, ho, hd⟩ := hp
  refine wpAny_bind (wpAny_bind ?_)
  unfold Builtin.Itertools.itPoolItems
  refine wpAny_bind (wpAny_seqItems ho hd ?_)
  refine wpAny_pure ?_
  refine wpAny_newTuple ?_ (by rw [List.length_map]; exact Nat.le_trans hz (by rw [sizeLine_eq]; decide))
  have lt : it < s.heap.objs.size := Heap.lt_size hit
  have h1 : IsCom (s.heap.push { cls := .type "tuple", data := .seq (pickA us ix).toArray }) it pool 1 last ix := Heap.get?_push_of_some _ hit
  refine wpAny_bind (wpAny_field h1 rfl (x := last) rfl ?_)
  refine wpAny_bind (wpAny_setField_rec h1 (by simp) fun g2 z2 b2 => ?_)
  replace z2 : IsCom g2 it pool 1 (.ref s.heap.objs.size) ix := z2
  refine wpAny_bind (wpAny_letGo ?_)
  refine wpAny_pure ⟨_, rfl, ?_⟩
  refine hQ g2 z2 (fun c o c1 q => b2.extBut _ _ c1 (Heap.get?_push_of_some _ q)) (b2.extBut _ _ (Nat.ne_of_gt lt) (Heap.get?_push_size _ rfl))
theorem com_first {it pool : Addr} {us : List Value} {last : Value} {ix : List Nat} {n : Nat} {Q : Value → Shared → Prop} (hit : IsCom s.heap it pool 0 last ix) (hp : ∃ o, s.heap.get? pool = some o ∧ o.data = .seq us.toArray n) (hne : pool ≠ it) (hz : ix.length ≤ 1000)
    (hQ : ∀ h', IsCom h' it pool 1 (.ref s.heap.objs.size) ix → (∀ c o, c ≠ it → s.heap.get? c = some o → h'.get? c = some o) → h'.get? s.heap.objs.size = some { cls := .type "tuple", data := .seq (pickA us ix).toArray } → Q (.ref s.heap.objs.size) { s with heap := h' }) :
    wpAny (model prog w) A (Builtin.«itertools.combinations.__next__» ⟨[.ref it], []⟩) (fun fin s' => ∃ v, fin = .done (.ret v) ∧ Q v s') E s := by
  unfold Builtin.«itertools.combinations.__next__»
  show wpAny _ _ (slotArgs "__next__" 0 ⟨[.ref it], []⟩ >>= _) _ _ s
  refine wpAny_bind (wpAny_pure ?_)
  show wpAny _ _ (field (.ref it) 0 >>= _) _ _ s
  refine wpAny_bind (wpAny_field hit rfl (x := .ref pool) rfl ?_)
  show wpAny _ _ (Builtin.Itertools.itNumbersFrom (.ref it) 3 >>= _) _ _ s
  refine wpAny_bind ?_
  unfold Builtin.Itertools.itNumbersFrom
  refine wpAny_bind (wpAny_load hit ?_)
  refine wpAny_pure ?_
  rw [nums_of _ (fun i => rfl)]
  refine wpAny_bind ?_
  unfold Builtin.Itertools.itIntField
  refine wpAny_bind (wpAny_field hit rfl (x := .int 0 0) rfl ?_)
  refine wpAny_pure ?_
  refine wpAny_bind (wpAny_setField_rec hit (by simp) fun g2 z2 b2 => ?_)
  replace z2 : IsCom g2 it pool 1 last ix := z2
  obtain ⟨o, ho, hd⟩ := hp
  have sz : g2.objs.size = s.heap.objs.size := b2.1
  refine com_hand (s := { s with heap := g2 }) z2 ⟨o, b2.extBut _ _ hne ho, hd⟩ hz fun h' z3 k3 f3 => ?_
  show Q (.ref g2.objs.size) _
  rw [show g2.objs.size = s.heap.objs.size from sz]
  rw [show ({ s with heap := g2 } : Shared).heap.objs.size = s.heap.objs.size from sz] at z3 f3
  exact hQ h' z3 (fun c o c1 q => k3 c o c1 (b2.extBut _ _ c1 q)) f3
theorem com_more {it pool : Addr} {us : List Value} {last : Value} {ix jx : List Nat} {n : Nat} {Q : Value → Shared → Prop} (hit : IsCom s.heap it pool 1 last ix) (hp : ∃ o, s.heap.get? pool = some o ∧ o.data = .seq us.toArray n) (hne : pool ≠ it) (hj : nextC us.length ix = some jx) (hz : jx.length ≤ 1000)
    (hQ : ∀ h', IsCom h' it pool 1 (.ref s.heap.objs.size) jx → (∀ c o, c ≠ it → s.heap.get? c = some o → h'.get? c = some o) → h'.get? s.heap.objs.size = some { cls := .type "tuple", data := .seq (pickA us jx).toArray } → Q (.ref s.heap.objs.size) { s with heap := h' }) :
    wpAny (model prog w) A (Builtin.«itertools.combinations.__next__» ⟨[.ref it], []⟩) (fun fin s' => ∃ v, fin = .done (.ret v) ∧ Q v s') E s := by
  unfold Builtin.«itertools.combinations.__next__»
  show wpAny _ _ (slotArgs "__next__" 0 ⟨[.ref it], []⟩ >>= _) _ _ s
  refine wpAny_bind (wpAny_pure ?_)
  show wpAny _ _ (field (.ref it) 0 >>= _) _ _ s
  refine wpAny_bind (wpAny_field hit rfl (x := .ref pool) rfl ?_)
  show wpAny _ _ (Builtin.Itertools.itNumbersFrom (.ref it) 3 >>= _) _ _ s
  refine wpAny_bind ?_
  unfold Builtin.Itertools.itNumbersFrom
  refine wpAny_bind (wpAny_load hit ?_)
  refine wpAny_pure ?_
  rw [nums_of _ (fun i => rfl)]
  refine wpAny_bind ?_
  unfold Builtin.Itertools.itIntField
  refine wpAny_bind (wpAny_field hit rfl (x := .int 1 0) rfl ?_)
  refine wpAny_pure ?_
  obtain ⟨o, ho, hd⟩ := hp
  show wpAny _ _ (Builtin.Itertools.itPoolItems (.ref pool) >>= _) _ _ s
  refine wpAny_bind ?_
  unfold Builtin.Itertools.itPoolItems
  refine wpAny_bind (wpAny_seqItems ho hd ?_)
  refine wpAny_pure ?_
  have e0 : nextK us.toArray.size ix = some jx := by
    rw [next_eq]
    exact hj
  split
  · rename_i next heq
    have heq : nextK us.toArray.size ix = some next := heq
    rw [e0] at heq
    injection heq with heq
    subst heq
    unfold Builtin.Itertools.itSetNumbersFrom
    have e4 : ([Value.ref pool, .int 1 0, last] ++ ix.map fun (i : Nat) => rawInt i).toArray.extract 0 3 ++ (jx.map fun (i : Nat) => rawInt i).toArray = ([Value.ref pool, .int 1 0, last] ++ jx.map fun (i : Nat) => rawInt i).toArray := by
      rw [List.extract_toArray]
      simp
    refine wpAny_bind ?_
    refine wpAny_updateFields hit rfl ?_ (hz := by
      rw [e4]
      simp [sizeLine_eq]
      omega)
    have z2 : (s.heap.update it (Obj.mapFields fun fs => fs.extract 0 3 ++ (jx.map fun (i : Nat) => rawInt i).toArray)).get? it = some { cls := .type "itertools.combinations", dict := none, data := .fields (([Value.ref pool, .int 1 0, last] ++ ix.map fun (i : Nat) => rawInt i).toArray.extract 0 3 ++ (jx.map fun (i : Nat) => rawInt i).toArray), slots := #[] } := Heap.get?_update_self _ hit rfl
    rw [e4] at z2
    have b2 : Heap.SameBut it s.heap (s.heap.update it (Obj.mapFields fun fs => fs.extract 0 3 ++ (jx.map fun (i : Nat) => rawInt i).toArray)) := Heap.SameBut.update ..
    generalize s.heap.update it (Obj.mapFields fun fs => fs.extract 0 3 ++ (jx.map fun (i : Nat) => rawInt i).toArray) = g2 at z2 b2 ⊢
    have sz : g2.objs.size = s.heap.objs.size := b2.1
    refine com_hand (s := { s with heap := g2 }) z2 ⟨o, b2.extBut _ _ hne ho, hd⟩ hz fun h' z3 k3 f3 => ?_
    show Q (.ref g2.objs.size) _
    rw [show g2.objs.size = s.heap.objs.size from sz]
    rw [show ({ s with heap := g2 } : Shared).heap.objs.size = s.heap.objs.size from sz] at z3 f3
    exact hQ h' z3 (fun c o c1 q => k3 c o c1 (b2.extBut _ _ c1 q)) f3
  · rename_i heq
    have heq : nextK us.toArray.size ix = none := heq
    rw [e0] at heq
    cases heq
theorem stop_it {Q : PySem.Fin → Shared → Prop} (hh : A.handled = none) (hQ : ∀ e h', CpRep.StopE e h' → (∀ c o, s.heap.get? c = some o → h'.get? c = some o) → E e { s with heap := h' }) : wpAny (model prog w) A (Builtin.Itertools.itStop) Q E s := by
  unfold Builtin.Itertools.itStop
  refine wpAny_bind ?_
  simp only [newExc, newTuple]
  refine wpAny_bind (wpAny_newObj_type ?_ (by size_fits))
  refine wpAny_bind (m := firstArgMember _ _) (wpAny_of_eq (a := Value.none) (by first | rfl | (simp only [firstArgMember]; rfl)) ?_)
  refine wpAny_newObj_type ?_ (by size_fits)
  simp only [raiseNew]
  refine wpAny_bind (wpAny_handled ?_)
  rw [hh]
  refine wpAny_bind (wpAny_pure (wpAny_throw ?_))
  exact hQ _ _ ⟨_, _, _, rfl, Heap.get?_push_size _ rfl, rfl, rfl, rfl⟩ fun c o q => Heap.get?_push_of_some _ (Heap.get?_push_of_some _ q)
theorem com_done {it pool : Addr} {us : List Value} {st : Int} {last : Value} {ix : List Nat} {n : Nat} {Q : PySem.Fin → Shared → Prop} (hh : A.handled = none) (hit : IsCom s.heap it pool st last ix) (hp : ∃ o, s.heap.get? pool = some o ∧ o.data = .seq us.toArray n) (hst : st = 2 ∨ (st = 1 ∧ nextC us.length ix = none))
    (hQ : ∀ e h', CpRep.StopE e h' → (∀ c o, c ≠ it → s.heap.get? c = some o → h'.get? c = some o) → E e { s with heap := h' }) :
    wpAny (model prog w) A (Builtin.«itertools.combinations.__next__» ⟨[.ref it], []⟩) Q E s := by
  unfold Builtin.«itertools.combinations.__next__»
  show wpAny _ _ (slotArgs "__next__" 0 ⟨[.ref it], []⟩ >>= _) _ _ s
  refine wpAny_bind (wpAny_pure ?_)
  show wpAny _ _ (field (.ref it) 0 >>= _) _ _ s
  refine wpAny_bind (wpAny_field hit rfl (x := .ref pool) rfl ?_)
  show wpAny _ _ (Builtin.Itertools.itNumbersFrom (.ref it) 3 >>= _) _ _ s
  refine wpAny_bind ?_
  unfold Builtin.Itertools.itNumbersFrom
  refine wpAny_bind (wpAny_load hit ?_)
  refine wpAny_pure ?_
  rw [nums_of _ (fun i => rfl)]
  refine wpAny_bind ?_
  unfold Builtin.Itertools.itIntField
  rcases hst with rfl | ⟨rfl, hj⟩
  · refine wpAny_bind (wpAny_field hit rfl (x := .int 2 0) rfl ?_)
    refine wpAny_pure ?_
    show wpAny _ _ (rule "itertools.combinations.ended" >>= fun _ => Builtin.Itertools.itStop) _ _ s
    exact wpAny_bind (wpAny_rule (stop_it hh fun e h' q1 q2 => hQ e h' q1 fun c o _ q => q2 c o q))
  · refine wpAny_bind (wpAny_field hit rfl (x := .int 1 0) rfl ?_)
    refine wpAny_pure ?_
    obtain ⟨o, ho, hd⟩ := hp
    show wpAny _ _ (Builtin.Itertools.itPoolItems (.ref pool) >>= _) _ _ s
    refine wpAny_bind ?_
    unfold Builtin.Itertools.itPoolItems
    refine wpAny_bind (wpAny_seqItems ho hd ?_)
    refine wpAny_pure ?_
    have e0 : nextK us.toArray.size ix = none := by
      rw [next_eq]
      exact hj
    split
    · rename_i next heq
      have heq : nextK us.toArray.size ix = some next := heq
      rw [e0] at heq
      cases heq
    · refine wpAny_bind (wpAny_setField_rec hit (by simp) fun g2 z2 b2 => ?_)
      exact stop_it (s := { s with heap := g2 }) hh fun e h' q1 q2 => hQ e h' q1 fun c o c1 q => q2 c o (b2.extBut _ _ c1 q)
end
end DL

set_option Elab.async false
set_option maxRecDepth 100000
set_option maxHeartbeats 2000000
set_option linter.all false
namespace DL
open PySem PySem.Spec PyProof.Rows L2
open Sem (wp)
theorem combs_lt {n : Nat} : ∀ {r lo : Nat} {c : List Nat}, c ∈ combsL n r lo → ∀ i ∈ c, lo ≤ i ∧ i < n
  | 0, lo, c, h, i, hi => by
    rw [List.mem_singleton.mp h] at hi
    cases hi
  | r + 1, lo, c, h, i, hi => by
    obtain ⟨x, hx, h2⟩ := List.mem_flatMap.mp h
    have hx := List.mem_range'_1.mp hx
    obtain ⟨d, hd, rfl⟩ := List.mem_map.mp h2
    rcases List.mem_cons.mp hi with rfl | hi
    · omega
    · have := combs_lt hd i hi
      omega
def pickV (xs : List V) (c : List Nat) : List V := c.map fun i => xs.getD i .non
theorem pick_vals {xs : List V} {us : List Value} (h : Vals xs us) : ∀ {c : List Nat}, (∀ i ∈ c, i < xs.length) → Vals (pickV xs c) (pickA us c)
  | [], _ => .nil
  | i :: c, hc => by
    have hi := hc i List.mem_cons_self
    have e1 : xs[i]? = some xs[i] := List.getElem?_eq_getElem hi
    obtain ⟨u, hu, ru⟩ := h.get e1
    refine .cons ?_ (pick_vals h fun j hj => hc j (List.mem_cons_of_mem _ hj))
    have a1 : xs.getD i .non = xs[i] := by rw [List.getD_eq_getElem?_getD, e1]; rfl
    have a2 : us.toArray.getD i .none = u := by
      rw [Array.getD_eq_getD_getElem?]
      simp [hu]
    show L2.RelV (xs.getD i .non) (us.toArray.getD i .none)
    rw [a1, a2]
    exact ru
/-- the choices L of xs, each a new tuple -/
def Ico (xs : List V) (L : List (List Nat)) : It :=
  ⟨fun i _ => i < L.length, fun i H v H' => ∃ T c, v = .ref T ∧ H T = none ∧ H' = upd H T (.tup (pickV xs c)) ∧ L[i]? = some c, fun i _ => L.length ≤ i⟩
def tnCom (us : List Value) (L : List (List Nat)) (it pool : Addr) (i : Nat) (h : Heap) : Prop :=
  (∃ n, h.get? pool = some { cls := .type "tuple", data := .seq us.toArray n }) ∧ ∃ st last ix, IsCom h it pool st last ix ∧ ((i = 0 ∧ st = 0 ∧ L[0]? = some ix) ∨ (0 < i ∧ st = 1 ∧ L[i - 1]? = some ix) ∨ (L.length ≤ i ∧ st = 2))
theorem turn_com {P : Program} {w : World} {K : PySem.W.Frag} {tg : Expr} {it pool : Addr} {xs : List V} {us : List Value} {r : Nat} (hv : Vals xs us) (hne : pool ≠ it) (hr : r ≤ 1000) (hx : xs.length ≤ 1000) :
    Turn P w K tg (Ico xs (combsL xs.length r 0)) [it, pool] it (tnCom us (combsL xs.length r 0) it pool) where
  mem := by simp
  obj := fun i h st b hb => by
    obtain ⟨⟨n, hp⟩, st, last, ix, hi, _⟩ := st
    have e' : b = it ∨ b = pool := by simpa using hb
    rcases e' with z | z <;> rw [z]
    · exact ⟨_, hi, fun v q => nomatch q⟩
    · exact ⟨_, hp, fun v q => nomatch q⟩
  keep := fun i h h' st k => by
    obtain ⟨⟨n, hp⟩, st, last, ix, hi, q⟩ := st
    exact ⟨⟨n, k pool (by simp) _ hp⟩, st, last, ix, k it (by simp) _ hi, q⟩
  item := by
    intro X hP hw hK hc i pins s σ H E I hf st hg
    subst hP hw hK
    have hg : i < (combsL xs.length r 0).length := hg
    obtain ⟨⟨n, hp⟩, st, last, ix, hit, q⟩ := st
    have hT : s.TypeIs (.ref it) "itertools.combinations" := ⟨_, hit, rfl⟩
    have hl := hv.length
    obtain ⟨c, hcc⟩ : ∃ c, (combsL xs.length r 0)[i]? = some c := ⟨_, List.getElem?_eq_getElem hg⟩
    have hcm := List.mem_of_getElem? hcc
    have hcl := combs_len hcm
    have fin : ∀ h', IsCom h' it pool 1 (.ref s.heap.objs.size) c → (∀ c o, c ≠ it → s.heap.get? c = some o → h'.get? c = some o) → h'.get? s.heap.objs.size = some { cls := .type "tuple", data := .seq (pickA us c).toArray } →
        ∃ u, some (Value.ref s.heap.objs.size) = some u ∧ wpAny (model X.prog X.w) X.A (letOwnedTupleGo tg (.ref it) u) (fun _ s2 => ∃ x H', Inv X pins σ H' s2 ∧ RelV x u ∧ (Ico xs (combsL xs.length r 0)).yld i H x H' ∧ tnCom us (combsL xs.length r 0) it pool (i + 1) s2.heap ∧ ∀ b ∈ [it, pool], H' b = none) E { s with heap := h' } := fun h' z k f => by
      refine ⟨_, rfl, go_of z rfl rfl (by decide) ?_⟩
      have new : ObjOk X.prog X.w (upd H s.heap.objs.size (.tup (pickV xs c))) h' s.heap.objs.size (.tup (pickV xs c)) :=
        ⟨by show (pickV xs c).length ≤ sizeLine; unfold pickV; rw [List.length_map, hcl, sizeLine_eq]; omega, pickA us c, pick_vals hv fun j hj => (combs_lt hcm j hj).2, ⟨_, f, rfl, _, rfl⟩⟩
      have I1 : Inv X pins σ (upd H s.heap.objs.size (.tup (pickV xs c))) { s with heap := h', toks := s.toks } :=
        I.turnedNew (ch := [it, pool]) (fun b ob hb q => k b ob (fun z => hb (by simp [z])) q) hf (Nat.le_refl _) new
      refine ⟨.ref s.heap.objs.size, _, I1, rfl, ⟨_, c, rfl, I.hok.fresh (Nat.le_refl _), rfl, hcc⟩, ⟨⟨n, k _ _ hne hp⟩, _, _, _, z, .inr (.inl ⟨Nat.succ_pos _, rfl, hcc⟩)⟩, fun b hb => ?_⟩
      have hb' : b < s.heap.objs.size := by
        have e' : b = it ∨ b = pool := by simpa using hb
        rcases e' with z | z <;> rw [z]
        · exact Heap.lt_size hit
        · exact Heap.lt_size hp
      rw [upd_ne (Nat.ne_of_lt hb')]
      exact (hf b hb).1
    unfold pyNext
    refine wpAny_bind (wpAny_attempt (wpAny_callSpecial?_slot (name := Str.ofString "__next__") hT slot_com_next (wpAny_call_entry slot_com_next hT entry_com_next ?_ (args_com_next _))))
    rcases q with ⟨rfl, rfl, q⟩ | ⟨h0, rfl, q⟩ | ⟨z, _⟩
    · rw [hcc] at q
      cases q
      exact com_first hit ⟨_, hp, rfl⟩ hne (by omega) fun h' z k f => wpAny_pure (fin h' z k f)
    · have hn : nextC us.length ix = some c := by
        have := combs_next (n := xs.length) (r := r) (lo := 0)
        rcases Nat.lt_or_ge xs.length r with z | z
        · rw [combs_none (by omega) (by omega)] at hg
          cases hg
        · rw [← hl, this (by omega) _ _ q, show i - 1 + 1 = i by omega, hcc]
      exact com_more hit ⟨_, hp, rfl⟩ hne hn (by omega) fun h' z k f => wpAny_pure (fin h' z k f)
    · omega
  done := by
    intro X hP hw hK hc i pins s σ H E I hf st hg
    subst hP hw hK
    have hg : (combsL xs.length r 0).length ≤ i := hg
    obtain ⟨⟨n, hp⟩, st, last, ix, hit, q⟩ := st
    have hT : s.TypeIs (.ref it) "itertools.combinations" := ⟨_, hit, rfl⟩
    have hl := hv.length
    unfold pyNext
    refine wpAny_bind (wpAny_attempt (wpAny_callSpecial?_slot (name := Str.ofString "__next__") hT slot_com_next (wpAny_call_entry slot_com_next hT entry_com_next ?_ (args_com_next _))))
    refine com_done (by simp [I.ok.hd hc]) hit ⟨_, hp, rfl⟩ ?_ fun e h' q1 k => ?_
    · rcases q with ⟨rfl, rfl, q⟩ | ⟨h0, rfl, q⟩ | ⟨_, rfl⟩
      · have := (List.getElem?_eq_some_iff.mp q).1
        omega
      · refine .inr ⟨rfl, ?_⟩
        rcases Nat.lt_or_ge xs.length r with z | z
        · rw [combs_none (by omega) (by omega)] at q
          cases q
        · rw [← hl, combs_next (n := xs.length) (r := r) (lo := 0) (by omega) _ _ q, show i - 1 + 1 = i by omega, List.getElem?_eq_none_iff.mpr hg]
      · exact .inl rfl
    · obtain ⟨a, o, vs, rfl, ho, hcl, _⟩ := q1
      obtain ⟨f0, f1, f2, f3, f4, f5⟩ := hf it (by simp)
      refine wpAny_bind (wpAny_isInstance (T := "StopIteration") (b := true) ⟨o, ho, hcl⟩ isSubtype_stop (wpAny_pure ⟨rfl, ?_⟩))
      exact I.turned (t' := s.toks) (fun b o hb q => k b o hb q) f0 f1 f3 f4 f5
  self := fun A i s Q E st h => by
    obtain ⟨_, st, last, ix, hit, _⟩ := st
    have hT : s.TypeIs (.ref it) "itertools.combinations" := ⟨_, hit, rfl⟩
    refine wpAny_pyIter_slot hT slot_com_iter (wpAny_call_entry slot_com_iter hT entry_com_iter ?_ (args_com_iter _))
    show wpAny _ _ (ret (.ref it)) _ _ s
    exact wpAny_pure ⟨_, rfl, "itertools.combinations", _, hT, slot_com_next.lookup, h⟩
theorem walk_com {xs : List V} {L : List (List Nat)} : Walk (Ico xs L) L.length (fun _ => True) (fun i H v H' => ∃ T c, v = .ref T ∧ H T = none ∧ H' = upd H T (.tup (pickV xs c)) ∧ L[i]? = some c) :=
  ⟨fun i _ hi _ => hi, fun _ _ => Nat.le_refl _, fun i H v H' _ _ y => y⟩
theorem vals_rgN {n : Nat} {acc : Array Value} (h : ItemsOf (fun i v => ∃ t, v = .int (0 + i * 1) t) acc n) : Vals ((List.range n).map fun (i : Nat) => V.int i) acc.toList := by
  have e : acc.toList.length = n := by rw [Array.length_toList]; exact h.1
  rw [← e]
  refine vals_of_get acc.toList _ fun j u hj => ?_
  obtain ⟨t, rfl⟩ := h.2 j u (by rw [← hj, Array.getElem?_toList])
  exact ⟨t, by rw [Int.mul_one, Int.zero_add]⟩
theorem push_two (h : Heap) (o1 o2 : Obj) (z : o2.isFreed = false) : ((h.push o1).push o2).get? (h.objs.size + 1) = some o2 := by
  have := Heap.get?_push_size (h := h.push o1) (o := o2) z
  rw [Heap.size_push] at this
  exact this
section
variable {X : Cx}
/-- what stands once the object is made -/
theorem com_made {tg : Expr} {pins : List (Addr × Obj)} {σ : L2.St} {H : Hp} {s1 : Shared} {R : It → Hp → Prop} {xs : List V} {us : List Value} {r : Nat} (I : Inv X pins σ H s1) (hv : Vals xs us) (hr : r ≤ 1000) (hx : xs.length ≤ 1000) (q : R (Ico xs (combsL xs.length r 0)) H) :
    wpAny (model X.prog X.w) X.A (pyIter (.ref (s1.heap.objs.size + 1))) (PIE X pins σ tg R) X.xe { s1 with heap := (s1.heap.push { cls := .type "tuple", data := .seq us.toArray }).push { cls := .type "itertools.combinations", data := .fields ([.ref s1.heap.objs.size, rawInt (if r > us.length then 2 else 0), .none] ++ (List.range r).map fun (i : Nat) => rawInt i).toArray } } := by
  have hl := hv.length
  have hp : ((s1.heap.push { cls := .type "tuple", data := .seq us.toArray }).push { cls := .type "itertools.combinations", data := .fields ([.ref s1.heap.objs.size, rawInt (if r > us.length then 2 else 0), .none] ++ (List.range r).map fun (i : Nat) => rawInt i).toArray }).get? s1.heap.objs.size = some { cls := .type "tuple", data := .seq us.toArray } :=
    Heap.get?_push_of_some _ (Heap.get?_push_size _ rfl)
  have hi : IsCom ((s1.heap.push { cls := .type "tuple", data := .seq us.toArray }).push { cls := .type "itertools.combinations", data := .fields ([.ref s1.heap.objs.size, rawInt (if r > us.length then 2 else 0), .none] ++ (List.range r).map fun (i : Nat) => rawInt i).toArray }) (s1.heap.objs.size + 1) s1.heap.objs.size (if r > us.length then 2 else 0) .none (List.range r) := by
    have := Heap.get?_push_size (h := s1.heap.push { cls := .type "tuple", data := .seq us.toArray }) (o := { cls := .type "itertools.combinations", data := .fields ([.ref s1.heap.objs.size, rawInt (if r > us.length then 2 else 0), .none] ++ (List.range r).map fun (i : Nat) => rawInt i).toArray }) rfl
    rw [Heap.size_push] at this
    exact this
  have T := turn_com (P := X.prog) (w := X.w) (K := X.K) (tg := tg) (it := s1.heap.objs.size + 1) (pool := s1.heap.objs.size) (r := r) hv (Nat.ne_of_lt (Nat.lt_succ_self _)) hr hx
  have st : tnCom us (combsL xs.length r 0) (s1.heap.objs.size + 1) s1.heap.objs.size 0 ((s1.heap.push { cls := .type "tuple", data := .seq us.toArray }).push { cls := .type "itertools.combinations", data := .fields ([.ref s1.heap.objs.size, rawInt (if r > us.length then 2 else 0), .none] ++ (List.range r).map fun (i : Nat) => rawInt i).toArray }) := by
    refine ⟨⟨_, hp⟩, _, _, _, hi, ?_⟩
    rcases Nat.lt_or_ge us.length r with z | z
    · rw [if_pos z]
      refine .inr (.inr ⟨?_, rfl⟩)
      rw [combs_none (by omega) (by omega)]
      exact Nat.zero_le _
    · rw [if_neg (by omega)]
      refine .inl ⟨rfl, rfl, ?_⟩
      rw [combs_head (by omega), List.range_eq_range']
  have I2 : Inv X pins σ H { s1 with heap := (s1.heap.push { cls := .type "tuple", data := .seq us.toArray }).push { cls := .type "itertools.combinations", data := .fields ([.ref s1.heap.objs.size, rawInt (if r > us.length then 2 else 0), .none] ++ (List.range r).map fun (i : Nat) => rawInt i).toArray }, toks := s1.toks } :=
    I.kept fun b o e => Heap.get?_push_of_some _ (Heap.get?_push_of_some _ e)
  refine T.self _ 0 _ _ _ st ?_
  refine ⟨_, [s1.heap.objs.size + 1, s1.heap.objs.size], _, _, H, rfl, I2, T, st, fun c hcm => ?_, q⟩
  have hle : s1.heap.objs.size ≤ c := by
    have e' : c = s1.heap.objs.size + 1 ∨ c = s1.heap.objs.size := by simpa using hcm
    rcases e' with z | z <;> rw [z]
    · exact Nat.le_add_right _ _
    · exact Nat.le_refl _
  exact I.fpOk hle (I.hok.fresh hle)
def iComR (ta tb : TE) : TI := fun σ H R => ta σ H fun x H1 => ∃ n : Nat, x = .int n ∧ n ≤ 1000 ∧ tb σ H1 fun y H2 => ∃ r : Nat, y = .int r ∧ r ≤ 1000 ∧ R (Ico ((List.range n).map fun (i : Nat) => V.int i) (combsL n r 0)) H2
/-- for c in combinations(range(a), b) -/
theorem pi_comR {a b tg : Expr} {ta tb : TE} {p p2 pos pos2 : Pos} (hg : Gl X "combinations") (hm : X.mg "combinations" = some (.type "itertools.combinations")) (hg2 : Gl X "range") (hm2 : X.mg "range" = none) (hc : X.calm = true) (ha : PE X a ta) (hb : PE X b tb)
    (na : starEach [.Call (.Name "range" p2) [a] [] pos2, b] X.env = (false, eval (.Call (.Name "range" p2) [a] [] pos2) X.env) :: starEach [b] X.env := by rfl) (nb : starEach [b] X.env = (false, eval b X.env) :: starEach [] X.env := by rfl)
    (nc : starEach [a] X.env = (false, eval a X.env) :: starEach [] X.env := by rfl) (hp : (backTo pos (starEach [b] X.env)).any (·.1) = false := by rfl) :
    PI X tg (.Call (.Name "combinations" p) [.Call (.Name "range" p2) [a] [] pos2, b] [] pos) (iComR ta tb) := by
  refine ⟨fun pins s σ H R I h => ?_⟩
  refine Call_ (ld_glob I hg hm (PyProof.Rows.callWith_type1 (args_cons ?_ na) na hp))
  refine Call_ (ld_blt I hg2 hm2 boot_range (PyProof.Rows.callWith_type1 (one_arg ha I h (fun v s2 x H2 I2 r q => ?_) nc) nc))
  obtain ⟨n, rfl, hn, q⟩ := q
  obtain ⟨t, rfl⟩ := r
  refine call_range_1 ?_
  have I3 : Inv X pins σ H2 { s2 with heap := s2.heap.push { cls := .type "range", data := .fields #[.int 0 s2.toks, .int n t, .int 1 (s2.toks + 1)] }, toks := s2.toks + 1 + 1 } := I2.kept fun c u e => Heap.get?_push_of_some _ e
  have fr := I2.fpOk (b := s2.heap.objs.size) (Nat.le_refl _) (I2.hok.fresh (Nat.le_refl _))
  obtain ⟨f0, f1, f2, f3, f4, f5⟩ := fr
  have hr0 := IsRange.new s2.heap 0 n 1 s2.toks t (s2.toks + 1)
  have I4 : Inv X ((s2.heap.objs.size, { cls := .type "range", data := .fields #[.int 0 s2.toks, .int n t, .int 1 (s2.toks + 1)] }) :: pins) σ H2 { s2 with heap := s2.heap.push { cls := .type "range", data := .fields #[.int 0 s2.toks, .int n t, .int 1 (s2.toks + 1)] }, toks := s2.toks + 1 + 1 } :=
    I3.pins_of fun pp hpp => by
      rcases List.mem_cons.mp hpp with rfl | hpp
      · exact ⟨hr0, f0, f1, f2, fun v z => nomatch z⟩
      · exact I3.pin pp (List.mem_append_right _ hpp)
  refine one_arg hb I4 q (fun w s5 y H5 I5 r q5 => ?_) nb
  obtain ⟨r0, rfl, hr, q5⟩ := q5
  obtain ⟨t5, rfl⟩ := r
  have pin := I5.pin _ (List.mem_append_right _ List.mem_cons_self)
  have I6 : Inv X pins σ H5 s5 := I5.pins_of fun pp hpp => I5.pin pp (List.mem_append_right _ (List.mem_cons_of_mem _ hpp))
  have hcalm : X.A.in1.handled = none := by simp [I6.ok.hd hc]
  have hrs : Builtin.Range.rangeSize 0 n 1 = n := by
    rw [rangeSize_one]
    by_cases z : (0 : Int) < n
    · rw [if_pos z]; omega
    · rw [if_neg z]; omega
  refine callType_newIn called_com (by decide) (typeCall_com _ _) (newCall_com _ _) (fun obj => F.args_object_init_3 obj _ _) entry_com_new (com_new (.ref s2.heap.objs.size) r0 t5 hr) ?_
  refine collect_range (n := n) (by simp [I6.ok.hd hc]) pin.1 (small_one (by omega) (by omega) (by omega) (by omega)) hrs (by omega) fun h' tk acc kp items => ?_
  have hv := vals_rgN items
  have hl := hv.length
  have lxs : ((List.range n).map fun (i : Nat) => V.int i).length = n := by rw [List.length_map, List.length_range]
  rw [lxs] at hl
  refine ⟨by rw [sizeLine_eq]; omega, ?_⟩
  have I7 : Inv X pins σ H5 { s5 with heap := h', toks := tk } := I6.kept (t' := tk) fun c u e => kp c u e
  have hR : R (Ico ((List.range n).map fun (i : Nat) => V.int i) (combsL ((List.range n).map fun (i : Nat) => V.int i).length r0 0)) H5 := by rw [lxs]; exact q5
  refine ⟨⟨_, push_two _ _ _ rfl, rfl⟩, ?_⟩
  exact com_made (s1 := { s5 with heap := h', toks := tk }) I7 hv hr (by rw [lxs]; exact hn) hR
end
end DL

set_option Elab.async false
set_option maxRecDepth 100000
set_option linter.all false
namespace DL
/-! ### the order of lists of the same length -/
def lexLe : List Int → List Int → Prop
  | [], _ => True
  | _ :: _, [] => False
  | x :: a, y :: b => x < y ∨ (x = y ∧ lexLe a b)
theorem lexLe.refl : ∀ a : List Int, lexLe a a
  | [] => trivial
  | _ :: a => .inr ⟨rfl, lexLe.refl a⟩
theorem lexLe.anti : ∀ {a b : List Int}, a.length = b.length → lexLe a b → lexLe b a → a = b
  | [], [], _, _, _ => rfl
  | [], _ :: _, h, _, _ => by cases h
  | _ :: _, [], h, _, _ => by cases h
  | x :: a, y :: b, h, h1, h2 => by
    rcases h1 with h1 | ⟨rfl, h1⟩
    · rcases h2 with h2 | ⟨rfl, _⟩
      · omega
      · omega
    · rcases h2 with h2 | ⟨_, h2⟩
      · omega
      · rw [lexLe.anti (by simpa using h) h1 h2]
theorem lexLe.append : ∀ {a b c d : List Int}, a.length = b.length → lexLe a b → lexLe c d → lexLe (a ++ c) (b ++ d)
  | [], [], _, _, _, _, h => h
  | [], _ :: _, _, _, h, _, _ => by cases h
  | _ :: _, [], _, _, h, _, _ => by cases h
  | x :: a, y :: b, _, _, h, h1, h2 => by
    rcases h1 with h1 | ⟨rfl, h1⟩
    · exact .inl h1
    · exact .inr ⟨rfl, lexLe.append (by simpa using h) h1 h2⟩
/-! ### choices of places, all of them, in their order -/
def nInts (c : List Nat) : List Int := c.map fun (i : Nat) => (i : Int)
theorem combs_asc {n : Nat} : ∀ {r lo : Nat} {c : List Nat}, c ∈ combsL n r lo → c.Pairwise (· < ·)
  | 0, lo, c, h => by
    rw [List.mem_singleton.mp h]
    exact List.Pairwise.nil
  | r + 1, lo, c, h => by
    obtain ⟨x, hx, h2⟩ := List.mem_flatMap.mp h
    obtain ⟨d, hd, rfl⟩ := List.mem_map.mp h2
    rw [List.pairwise_cons]
    exact ⟨fun y hy => by have := (combs_lt hd y hy).1; omega, combs_asc hd⟩
theorem combs_mem {n : Nat} : ∀ {r lo : Nat} {c : List Nat}, c.length = r → c.Pairwise (· < ·) → (∀ i ∈ c, lo ≤ i ∧ i < n) → c ∈ combsL n r lo
  | 0, lo, c, h, _, _ => by
    rw [List.length_eq_zero_iff.mp h]
    exact List.mem_singleton.mpr rfl
  | r + 1, lo, [], h, _, _ => by cases h
  | r + 1, lo, x :: c, h, hp, hm => by
    rw [List.pairwise_cons] at hp
    obtain ⟨h1, h2⟩ := hm x List.mem_cons_self
    refine List.mem_flatMap.mpr ⟨x, List.mem_range'_1.mpr ⟨h1, by omega⟩, List.mem_map.mpr ⟨c, combs_mem (by simpa using h) hp.2 fun i hi => ?_, rfl⟩⟩
    have := hp.1 i hi
    have := hm i (List.mem_cons_of_mem _ hi)
    omega
theorem combs_step_le {n r : Nat} (ih : ∀ lo, (combsL n r lo).Pairwise fun a b => lexLe (nInts a) (nInts b)) : ∀ m lo, n - lo ≤ m → (combsL n (r + 1) lo).Pairwise fun a b => lexLe (nInts a) (nInts b)
  | m, lo, hm => by
    rcases Nat.lt_or_ge lo n with h | h
    · rw [combs_cons h, List.pairwise_append]
      refine ⟨?_, ?_, fun a ha b hb => ?_⟩
      · rw [List.pairwise_map]
        exact (ih (lo + 1)).imp fun h => .inr ⟨rfl, h⟩
      · cases m with
        | zero => omega
        | succ m => exact combs_step_le ih m (lo + 1) (by omega)
      · obtain ⟨d, hd, rfl⟩ := List.mem_map.mp ha
        have h1 := combs_len hb
        have h2 := combs_lt hb
        cases b with
        | nil => cases h1
        | cons y b =>
          have := (h2 y List.mem_cons_self).1
          exact .inl (by show (lo : Int) < (y : Int); omega)
    · have : combsL n (r + 1) lo = [] := combs_none (by omega) (by omega)
      rw [this]
      exact List.Pairwise.nil
theorem combs_le {n : Nat} : ∀ (r lo : Nat), (combsL n r lo).Pairwise fun a b => lexLe (nInts a) (nInts b)
  | 0, lo => List.pairwise_singleton _ _
  | r + 1, lo => combs_step_le (fun lo => combs_le r lo) _ lo (Nat.le_refl _)
/-- the first of the smallest choices of which p tells -/
structure FirstC (n : Nat) (p : List Nat → Bool) (c : List Nat) : Prop where
  asc : c.Pairwise (· < ·)
  lt : ∀ i ∈ c, i < n
  ok : p c = true
  least : ∀ d : List Nat, d.Pairwise (· < ·) → (∀ i ∈ d, i < n) → p d = true → c.length < d.length ∨ (c.length = d.length ∧ lexLe (nInts c) (nInts d))
theorem first_of {n m i : Nat} {p : List Nat → Bool} {c : List Nat} (h0 : ∀ m' < m, ∀ d ∈ combsL n m' 0, p d = false) (hi : (combsL n m 0)[i]? = some c) (h1 : ∀ d ∈ (combsL n m 0).take i, p d = false) (hp : p c = true) : FirstC n p c := by
  have hm := List.mem_of_getElem? hi
  have hl := combs_len hm
  refine ⟨combs_asc hm, fun j hj => (combs_lt hm j hj).2, hp, fun d hd hdn hpd => ?_⟩
  have dm : d ∈ combsL n d.length 0 := combs_mem rfl hd fun j hj => ⟨Nat.zero_le _, hdn j hj⟩
  rcases Nat.lt_trichotomy d.length m with z | z | z
  · rw [h0 _ z d dm] at hpd
    cases hpd
  · refine .inr ⟨by omega, ?_⟩
    rw [z] at dm
    obtain ⟨j, hj⟩ := List.getElem?_of_mem dm
    rcases Nat.lt_trichotomy j i with q | q | q
    · have : d ∈ (combsL n m 0).take i := List.mem_of_getElem? (i := j) (by rw [List.getElem?_take_of_lt q]; exact hj)
      rw [h1 d this] at hpd
      cases hpd
    · subst q
      rw [hi] at hj
      cases hj
      exact lexLe.refl _
    · obtain ⟨l1, e1⟩ := List.getElem?_eq_some_iff.mp hi
      obtain ⟨l2, e2⟩ := List.getElem?_eq_some_iff.mp hj
      have := List.pairwise_iff_getElem.mp (combs_le (n := n) m 0) i j l1 l2 q
      rw [e1, e2] at this
      exact this
  · exact .inl (by omega)
theorem asc_full : ∀ {n lo : Nat} {d : List Nat}, d.Pairwise (· < ·) → (∀ i ∈ d, lo ≤ i ∧ i < lo + n) → d.length ≤ n ∧ (d.length = n → d = List.range' lo n)
  | 0, lo, [], _, _ => ⟨Nat.le_refl _, fun _ => rfl⟩
  | 0, lo, x :: d, _, h => by
    have := h x List.mem_cons_self
    omega
  | n + 1, lo, [], _, _ => ⟨Nat.zero_le _, fun h => by cases h⟩
  | n + 1, lo, x :: d, hp, h => by
    rw [List.pairwise_cons] at hp
    have hx := h x List.mem_cons_self
    have h2 : ∀ i ∈ d, lo + 1 ≤ i ∧ i < lo + 1 + n := fun i hi => by
      have := hp.1 i hi
      have := h i (List.mem_cons_of_mem _ hi)
      omega
    obtain ⟨q1, q2⟩ := asc_full hp.2 h2
    refine ⟨by rw [List.length_cons]; omega, fun e => ?_⟩
    have q3 := q2 (by rw [List.length_cons] at e; omega)
    rw [List.range'_succ, q3]
    cases n with
    | zero =>
      rw [show x = lo by omega]
    | succ n =>
      have : lo + 1 ∈ d := by rw [q3, List.range'_succ]; exact List.mem_cons_self
      have := hp.1 _ this
      rw [show x = lo by omega]
theorem first_all {n : Nat} {p : List Nat → Bool} (h0 : ∀ m' < n, ∀ d ∈ combsL n m' 0, p d = false) (hp : p (List.range n) = true) : FirstC n p (List.range n) := by
  refine ⟨List.pairwise_lt_range, fun i hi => List.mem_range.mp hi, hp, fun d hd hdn hpd => ?_⟩
  obtain ⟨q1, q2⟩ := asc_full (lo := 0) (n := n) hd fun i hi => ⟨Nat.zero_le _, by have := hdn i hi; omega⟩
  rcases Nat.lt_or_eq_of_le q1 with z | z
  · have := h0 _ z d (combs_mem rfl hd fun j hj => ⟨Nat.zero_le _, hdn j hj⟩)
    rw [this] at hpd
    cases hpd
  · rw [q2 z, ← List.range_eq_range']
    exact .inr ⟨rfl, lexLe.refl _⟩
/-! ### picking from an ascending list -/
section
variable {α : Type} [DecidableEq α] [Inhabited α] {κ : α → Int}
def pickB (U : List α) (c : List Nat) : List α := c.map fun i => U.getD i default
theorem pick_mem {U : List α} {c : List Nat} (h : ∀ i ∈ c, i < U.length) : ∀ b ∈ pickB U c, b ∈ U := fun b hb => by
  obtain ⟨i, hi, rfl⟩ := List.mem_map.mp hb
  show U.getD i default ∈ U
  rw [List.getD_eq_getElem?_getD, List.getElem?_eq_getElem (h i hi)]
  exact List.getElem_mem _
theorem getD_lt {U : List α} (hU : U.Pairwise fun a b => κ a < κ b) {i j : Nat} (hij : i < j) (hj : j < U.length) : κ (U.getD i default) < κ (U.getD j default) := by
  rw [List.getD_eq_getElem?_getD, List.getD_eq_getElem?_getD, List.getElem?_eq_getElem (by omega : i < U.length), List.getElem?_eq_getElem hj]
  exact List.pairwise_iff_getElem.mp hU i j (by omega) hj hij
theorem pick_asc {U : List α} (hU : U.Pairwise fun a b => κ a < κ b) : ∀ {c : List Nat}, c.Pairwise (· < ·) → (∀ i ∈ c, i < U.length) → (pickB U c).Pairwise fun a b => κ a < κ b
  | [], _, _ => List.Pairwise.nil
  | i :: c, hp, h => by
    rw [List.pairwise_cons] at hp
    show (U.getD i default :: pickB U c).Pairwise _
    rw [List.pairwise_cons]
    refine ⟨fun b hb => ?_, pick_asc hU hp.2 fun j hj => h j (List.mem_cons_of_mem _ hj)⟩
    obtain ⟨j, hj, rfl⟩ := List.mem_map.mp hb
    exact getD_lt hU (hp.1 j hj) (h j (List.mem_cons_of_mem _ hj))
theorem pick_le {U : List α} (hU : U.Pairwise fun a b => κ a < κ b) : ∀ {c d : List Nat}, (∀ i ∈ c, i < U.length) → (∀ i ∈ d, i < U.length) → lexLe (nInts c) (nInts d) → lexLe ((pickB U c).map κ) ((pickB U d).map κ)
  | [], _, _, _, _ => trivial
  | _ :: _, [], _, _, h => h.elim
  | i :: c, j :: d, hc, hd, h => by
    rcases h with h | ⟨e, h⟩
    · have h : (i : Int) < (j : Int) := h
      exact .inl (getD_lt hU (by omega) (hd j List.mem_cons_self))
    · have e : (i : Int) = (j : Int) := e
      obtain rfl : i = j := by omega
      exact .inr ⟨rfl, pick_le hU (fun i hi => hc i (List.mem_cons_of_mem _ hi)) (fun i hi => hd i (List.mem_cons_of_mem _ hi)) h⟩
theorem idx_lt {U : List α} (hU : U.Pairwise fun a b => κ a < κ b) {a b : α} (ha : a ∈ U) (hb : b ∈ U) (h : κ a < κ b) : U.idxOf a < U.idxOf b := by
  have la := List.idxOf_lt_length_iff.mpr ha
  have lb := List.idxOf_lt_length_iff.mpr hb
  rcases Nat.lt_trichotomy (U.idxOf a) (U.idxOf b) with z | z | z
  · exact z
  · have : U[U.idxOf a] = U[U.idxOf b] := by congr 1
    rw [List.getElem_idxOf, List.getElem_idxOf] at this
    rw [this] at h
    omega
  · have := List.pairwise_iff_getElem.mp hU _ _ lb la z
    rw [List.getElem_idxOf, List.getElem_idxOf] at this
    omega
/-- any ascending choice of U is picked by its places -/
theorem pick_idx {U : List α} (hU : U.Pairwise fun a b => κ a < κ b) : ∀ {S : List α}, S.Pairwise (fun a b => κ a < κ b) → (∀ b ∈ S, b ∈ U) → (S.map U.idxOf).Pairwise (· < ·) ∧ (∀ i ∈ S.map U.idxOf, i < U.length) ∧ pickB U (S.map U.idxOf) = S
  | [], _, _ => ⟨List.Pairwise.nil, fun i hi => (by cases hi), rfl⟩
  | a :: S, hp, h => by
    rw [List.pairwise_cons] at hp
    obtain ⟨q1, q2, q3⟩ := pick_idx hU hp.2 fun b hb => h b (List.mem_cons_of_mem _ hb)
    have ha := h a List.mem_cons_self
    have la := List.idxOf_lt_length_iff.mpr ha
    rw [List.map_cons, List.pairwise_cons]
    refine ⟨⟨fun j hj => ?_, q1⟩, fun i hi => ?_, ?_⟩
    · obtain ⟨b, hb, rfl⟩ := List.mem_map.mp hj
      exact idx_lt hU ha (h b (List.mem_cons_of_mem _ hb)) (hp.1 b hb)
    · rcases List.mem_cons.mp hi with rfl | hi
      · exact la
      · exact q2 i hi
    · show U.getD (U.idxOf a) default :: pickB U (S.map U.idxOf) = a :: S
      rw [q3, List.getD_eq_getElem?_getD, List.getElem?_eq_getElem la, List.getElem_idxOf]
      rfl
end
end DL

set_option Elab.async false
set_option maxRecDepth 100000
set_option linter.all false
namespace DL
section
variable {α : Type} [DecidableEq α] [Inhabited α] {κ γ : α → Int}
/-- the least of the smallest ascending lists that hold one of each need -/
structure Least (κ : α → Int) (needs : List (List α)) (S : List α) : Prop where
  asc : S.Pairwise fun a b => κ a < κ b
  meets : ∀ n ∈ needs, ∃ b ∈ n, b ∈ S
  sub : ∀ b ∈ S, ∃ n ∈ needs, b ∈ n
  least : ∀ T : List α, T.Pairwise (fun a b => κ a < κ b) → (∀ n ∈ needs, ∃ b ∈ n, b ∈ T) → S.length < T.length ∨ (S.length = T.length ∧ lexLe (S.map κ) (T.map κ))
theorem Least.nd {N : List (List α)} {S : List α} (h : Least κ N S) : S.Nodup := by
  refine List.Pairwise.imp (fun {a b} h z => ?_) h.asc
  have h : κ a < κ b := h
  rw [z] at h
  omega
theorem Least.nil : Least κ ([] : List (List α)) [] := ⟨List.Pairwise.nil, fun n h => (by cases h), fun b h => (by cases h), fun T _ _ => by
  cases T with
  | nil => exact .inr ⟨rfl, trivial⟩
  | cons a T => exact .inl (Nat.zero_lt_succ _)⟩
def metB (needs : List (List α)) (S : List α) : Bool := needs.all fun n => n.any fun b => decide (b ∈ S)
theorem met_iff {needs : List (List α)} {S : List α} : metB needs S = true ↔ ∀ n ∈ needs, ∃ b ∈ n, b ∈ S := by
  unfold metB
  rw [List.all_eq_true]
  constructor
  · intro h n hn
    obtain ⟨b, hb, q⟩ := List.any_eq_true.mp (h n hn)
    exact ⟨b, hb, of_decide_eq_true q⟩
  · intro h n hn
    obtain ⟨b, hb, q⟩ := h n hn
    exact List.any_eq_true.mpr ⟨b, hb, decide_eq_true q⟩
theorem filter_len {β : Type} (l : List β) (p : β → Bool) : (l.filter p).length = l.length → l.filter p = l := by
  induction l with
  | nil => intro _; rfl
  | cons a l ih =>
    intro h
    by_cases q : p a = true
    · rw [List.filter_cons_of_pos q] at h ⊢
      rw [ih (by simpa using h)]
    · rw [List.filter_cons_of_neg q] at h
      have := List.length_filter_le p l
      rw [List.length_cons] at h
      omega
theorem least_of_first {U : List α} {needs : List (List α)} {c : List Nat} (hU : U.Pairwise fun a b => κ a < κ b) (hm : ∀ b, b ∈ U ↔ ∃ n ∈ needs, b ∈ n) (F : FirstC U.length (fun c => metB needs (pickB U c)) c) : Least κ needs (pickB U c) := by
  refine ⟨pick_asc hU F.asc F.lt, met_iff.mp F.ok, fun b hb => (hm b).mp (pick_mem F.lt b hb), fun T hT hmT => ?_⟩
  have hTf : (T.filter fun b => decide (b ∈ U)).Pairwise fun a b => κ a < κ b := hT.filter _
  obtain ⟨q1, q2, q3⟩ := pick_idx hU hTf fun b hb => of_decide_eq_true (List.mem_filter.mp hb).2
  have hp : metB needs (pickB U ((T.filter fun b => decide (b ∈ U)).map U.idxOf)) = true := by
    rw [q3]
    refine met_iff.mpr fun n hn => ?_
    obtain ⟨b, hb, hbT⟩ := hmT n hn
    exact ⟨b, hb, List.mem_filter.mpr ⟨hbT, decide_eq_true ((hm b).mpr ⟨n, hn, hb⟩)⟩⟩
  have hle := List.length_filter_le (fun b => decide (b ∈ U)) T
  have hl := F.least _ q1 q2 hp
  rw [List.length_map] at hl
  have hpl : (pickB U c).length = c.length := List.length_map ..
  rw [hpl]
  rcases hl with z | ⟨z1, z2⟩
  · exact .inl (by omega)
  · rcases Nat.lt_or_eq_of_le hle with y | y
    · exact .inl (by omega)
    · have eT := filter_len T _ y
      have := pick_le hU F.lt q2 z2
      rw [q3, eT] at this
      exact .inr ⟨by omega, this⟩
/-! ### needs of unlike groups -/
theorem split_asc (hγ : ∀ a b, γ a < γ b → κ a < κ b) {g : Int} : ∀ {T : List α}, T.Pairwise (fun a b => κ a < κ b) → (∀ b ∈ T, γ b = g ∨ g < γ b) → T = T.filter (fun b => decide (γ b = g)) ++ T.filter fun b => decide (g < γ b)
  | [], _, _ => rfl
  | a :: T, hp, h => by
    rw [List.pairwise_cons] at hp
    have ih := split_asc hγ hp.2 fun b hb => h b (List.mem_cons_of_mem _ hb)
    rcases h a List.mem_cons_self with q | q
    · rw [List.filter_cons_of_pos (by exact decide_eq_true q), List.filter_cons_of_neg (by rw [decide_eq_true_iff]; omega), List.cons_append, ← ih]
    · have e : T.filter (fun b => decide (γ b = g)) = [] := by
        rw [List.filter_eq_nil_iff]
        intro b hb z
        have z : γ b = g := of_decide_eq_true z
        have h1 := hp.1 b hb
        have := hγ b a (by omega)
        omega
      rw [List.filter_cons_of_neg (by rw [decide_eq_true_iff]; omega), List.filter_cons_of_pos (by exact decide_eq_true q), e, List.nil_append]
      rw [e, List.nil_append] at ih
      rw [← ih]
theorem two_len {β : Type} (l : List β) (p q : β → Bool) (h : ∀ b, p b = true → q b = false) : (l.filter p).length + (l.filter q).length ≤ l.length ∧ ((l.filter p).length + (l.filter q).length = l.length → ∀ b ∈ l, p b = true ∨ q b = true) := by
  induction l with
  | nil => exact ⟨Nat.le_refl _, fun _ b hb => by cases hb⟩
  | cons a l ih =>
    by_cases hp : p a = true
    · have hq := h a hp
      rw [List.filter_cons_of_pos hp, List.filter_cons_of_neg (by rw [hq]; exact Bool.false_ne_true), List.length_cons, List.length_cons]
      refine ⟨by omega, fun e b hb => ?_⟩
      rcases List.mem_cons.mp hb with rfl | hb
      · exact .inl hp
      · exact ih.2 (by omega) b hb
    · by_cases hq : q a = true
      · rw [List.filter_cons_of_neg hp, List.filter_cons_of_pos hq, List.length_cons, List.length_cons]
        refine ⟨by omega, fun e b hb => ?_⟩
        rcases List.mem_cons.mp hb with rfl | hb
        · exact .inr hq
        · exact ih.2 (by omega) b hb
      · rw [List.filter_cons_of_neg hp, List.filter_cons_of_neg hq, List.length_cons]
        exact ⟨by omega, fun e => by omega⟩
theorem least_two (hγ : ∀ a b, γ a < γ b → κ a < κ b) {g : Int} {N N1 N2 : List (List α)} {S1 S2 : List α} (hN : ∀ n, n ∈ N ↔ n ∈ N1 ∨ n ∈ N2) (h1 : ∀ n ∈ N1, ∀ b ∈ n, γ b = g) (h2 : ∀ n ∈ N2, ∀ b ∈ n, g < γ b) (L1 : Least κ N1 S1) (L2 : Least κ N2 S2) : Least κ N (S1 ++ S2) := by
  have g1 : ∀ b ∈ S1, γ b = g := fun b hb => by
    obtain ⟨n, hn, hbn⟩ := L1.sub b hb
    exact h1 n hn b hbn
  have g2 : ∀ b ∈ S2, g < γ b := fun b hb => by
    obtain ⟨n, hn, hbn⟩ := L2.sub b hb
    exact h2 n hn b hbn
  refine ⟨?_, fun n hn => ?_, fun b hb => ?_, fun T hT hm => ?_⟩
  · rw [List.pairwise_append]
    exact ⟨L1.asc, L2.asc, fun a ha b hb => hγ a b (by rw [g1 a ha]; exact g2 b hb)⟩
  · rcases (hN n).mp hn with h | h
    · obtain ⟨b, hb, q⟩ := L1.meets n h
      exact ⟨b, hb, List.mem_append_left _ q⟩
    · obtain ⟨b, hb, q⟩ := L2.meets n h
      exact ⟨b, hb, List.mem_append_right _ q⟩
  · rcases List.mem_append.mp hb with h | h
    · obtain ⟨n, hn, q⟩ := L1.sub b h
      exact ⟨n, (hN n).mpr (.inl hn), q⟩
    · obtain ⟨n, hn, q⟩ := L2.sub b h
      exact ⟨n, (hN n).mpr (.inr hn), q⟩
  · have a1 := L1.least (T.filter fun b => decide (γ b = g)) (hT.filter _) fun n hn => by
      obtain ⟨b, hb, q⟩ := hm n ((hN n).mpr (.inl hn))
      exact ⟨b, hb, List.mem_filter.mpr ⟨q, decide_eq_true (h1 n hn b hb)⟩⟩
    have a2 := L2.least (T.filter fun b => decide (g < γ b)) (hT.filter _) fun n hn => by
      obtain ⟨b, hb, q⟩ := hm n ((hN n).mpr (.inr hn))
      exact ⟨b, hb, List.mem_filter.mpr ⟨q, decide_eq_true (h2 n hn b hb)⟩⟩
    obtain ⟨t1, t2⟩ := two_len T (fun b => decide (γ b = g)) (fun b => decide (g < γ b)) fun b h => by
      have h := of_decide_eq_true h
      exact decide_eq_false (by omega)
    rw [List.length_append]
    rcases Nat.lt_or_ge (S1.length + S2.length) T.length with z | z
    · exact .inl z
    · have e1 : S1.length = (T.filter fun b => decide (γ b = g)).length ∧ lexLe (S1.map κ) ((T.filter fun b => decide (γ b = g)).map κ) := by
        rcases a1 with y | y
        · rcases a2 with x | x <;> omega
        · exact y
      have e2 : S2.length = (T.filter fun b => decide (g < γ b)).length ∧ lexLe (S2.map κ) ((T.filter fun b => decide (g < γ b)).map κ) := by
        rcases a2 with y | y
        · omega
        · exact y
      have all := t2 (by omega)
      have eT := split_asc hγ hT fun b hb => by
        rcases all b hb with y | y
        · exact .inl (of_decide_eq_true y)
        · exact .inr (of_decide_eq_true y)
      refine .inr ⟨by omega, ?_⟩
      rw [eT, List.map_append, List.map_append]
      exact lexLe.append (by rw [List.length_map, List.length_map]; exact e1.1) e1.2 e2.2
/-- the group of a need -/
def gk (γ : α → Int) : List α → Int
  | [] => 0
  | b :: _ => γ b
theorem least_groups {β : Type} {f : β → Int} (hγ : ∀ a b, γ a < γ b → κ a < κ b) {R : β → List α} : ∀ {ks : List β} {N : List (List α)}, ks.Pairwise (fun a b => f a < f b) → (∀ n ∈ N, (∃ k ∈ ks, gk γ n = f k) ∧ ∀ b ∈ n, γ b = gk γ n) → (∀ k ∈ ks, Least κ (N.filter fun n => decide (gk γ n = f k)) (R k)) → Least κ N (ks.flatMap R)
  | [], N, _, h, _ => by
    cases N with
    | nil => exact Least.nil
    | cons n N =>
      obtain ⟨k, hk, _⟩ := (h n List.mem_cons_self).1
      cases hk
  | g :: ks, N, hp, h, L => by
    rw [List.pairwise_cons] at hp
    rw [List.flatMap_cons]
    refine least_two hγ (g := f g) (N1 := N.filter fun n => decide (gk γ n = f g)) (N2 := N.filter fun n => decide (gk γ n ≠ f g)) (fun n => ?_) (fun n hn b hb => ?_) (fun n hn b hb => ?_) (L g List.mem_cons_self) (least_groups hγ hp.2 (fun n hn => ?_) fun k hk => ?_)
    · constructor
      · intro hn
        by_cases q : gk γ n = f g
        · exact .inl (List.mem_filter.mpr ⟨hn, decide_eq_true q⟩)
        · exact .inr (List.mem_filter.mpr ⟨hn, decide_eq_true q⟩)
      · rintro (hn | hn)
        · exact (List.mem_filter.mp hn).1
        · exact (List.mem_filter.mp hn).1
    · obtain ⟨h1, h2⟩ := List.mem_filter.mp hn
      rw [(h n h1).2 b hb]
      exact of_decide_eq_true h2
    · obtain ⟨h1, h2⟩ := List.mem_filter.mp hn
      have h2 : gk γ n ≠ f g := of_decide_eq_true h2
      rw [(h n h1).2 b hb]
      obtain ⟨k, hk, e⟩ := (h n h1).1
      rcases List.mem_cons.mp hk with q | q
      · exact absurd (by rw [e, q]) h2
      · rw [e]
        exact hp.1 k q
    · obtain ⟨h1, h2⟩ := List.mem_filter.mp hn
      have h2 : gk γ n ≠ f g := of_decide_eq_true h2
      obtain ⟨k, hk, e⟩ := (h n h1).1
      refine ⟨⟨k, ?_, e⟩, (h n h1).2⟩
      rcases List.mem_cons.mp hk with q | q
      · exact absurd (by rw [e, q]) h2
      · exact q
    · have := L k (List.mem_cons_of_mem _ hk)
      have hkg : f k ≠ f g := by
        have := hp.1 k hk
        omega
      rw [List.filter_filter]
      have e : (fun n => decide (gk γ n = f k) && decide (gk γ n ≠ f g)) = fun n => decide (gk γ n = f k) := by
        funext n
        by_cases q : gk γ n = f k
        · rw [decide_eq_true q, decide_eq_true (by rw [q]; exact hkg)]
          rfl
        · rw [decide_eq_false q]
          rfl
      rw [e]
      exact this
theorem Least.uniq {N : List (List α)} {S T : List α} (inj : ∀ a ∈ S, ∀ b ∈ T, κ a = κ b → a = b) (h1 : Least κ N S) (h2 : Least κ N T) : S = T := by
  have a := h1.least T h2.asc h2.meets
  have b := h2.least S h1.asc h1.meets
  have e : S.length = T.length := by omega
  have l1 : lexLe (S.map κ) (T.map κ) := by
    rcases a with z | z
    · omega
    · exact z.2
  have l2 : lexLe (T.map κ) (S.map κ) := by
    rcases b with z | z
    · omega
    · exact z.2
  have em := lexLe.anti (by rw [List.length_map, List.length_map]; exact e) l1 l2
  refine List.ext_getElem e fun i i1 i2 => ?_
  have := congrArg (fun l => l[i]?) em
  simp only [List.getElem?_map, List.getElem?_eq_getElem i1, List.getElem?_eq_getElem i2, Option.map_some, Option.some.injEq] at this
  exact inj _ (List.getElem_mem _) _ (List.getElem_mem _) this
end
/-! ### bits -/
def powS (c : List Nat) : Nat := (c.map fun i => 2 ^ i).sum
theorem pow_bits : ∀ {c : List Nat}, c.Pairwise (· < ·) → ∀ i, (powS c).testBit i = decide (i ∈ c)
  | [], _, i => by
    show (0 : Nat).testBit i = _
    rw [Nat.zero_testBit, decide_eq_false (by simp)]
  | x :: c, hp, i => by
    rw [List.pairwise_cons] at hp
    have ih := pow_bits hp.2
    have e : powS (x :: c) = powS c + 2 ^ x := by
      show 2 ^ x + powS c = _
      rw [Nat.add_comm]
    have nx : (powS c).testBit x = false := by
      rw [ih x, decide_eq_false]
      intro h
      have := hp.1 x h
      omega
    have e2 : powS c + 2 ^ x = powS c ||| 2 ^ x := by
      have low : ∀ j ≤ x, (powS c).testBit j = false := fun j hj => by
        rw [ih j, decide_eq_false]
        intro h
        have := hp.1 j h
        omega
      have dv : 2 ^ (x + 1) ∣ powS c := by
        have : ∀ (c : List Nat), (∀ i ∈ c, x < i) → 2 ^ (x + 1) ∣ powS c := fun c => by
          induction c with
          | nil => intro _; exact ⟨0, rfl⟩
          | cons y c ih =>
            intro h
            have h1 : 2 ^ (x + 1) ∣ 2 ^ y := Nat.pow_dvd_pow 2 (h y List.mem_cons_self)
            have h2 := ih fun i hi => h i (List.mem_cons_of_mem _ hi)
            exact Nat.dvd_add h1 h2
        exact this c hp.1
      obtain ⟨k, hk⟩ := dv
      rw [hk]
      have lt : 2 ^ x < 2 ^ (x + 1) := Nat.pow_lt_pow_right (by decide) (by omega)
      exact Nat.two_pow_add_eq_or_of_lt lt k
    rw [e, e2, Nat.testBit_or, ih i, Nat.testBit_two_pow]
    by_cases q : i = x
    · subst q
      simp
    · have : ¬ x = i := fun z => q z.symm
      simp [this, q]
theorem and_ne {c m : List Nat} (hc : c.Pairwise (· < ·)) (hm : m.Pairwise (· < ·)) : (powS c &&& powS m ≠ 0) ↔ ∃ i ∈ m, i ∈ c := by
  constructor
  · intro h
    obtain ⟨i, hi⟩ := Nat.exists_testBit_of_ne_zero h
    rw [Nat.testBit_and, pow_bits hc, pow_bits hm, Bool.and_eq_true] at hi
    exact ⟨i, of_decide_eq_true hi.2, of_decide_eq_true hi.1⟩
  · rintro ⟨i, hm', hc'⟩ z
    have : (powS c &&& powS m).testBit i = true := by
      rw [Nat.testBit_and, pow_bits hc, pow_bits hm, decide_eq_true hc', decide_eq_true hm']
      rfl
    rw [z, Nat.zero_testBit] at this
    cases this
end DL

set_option Elab.async false
set_option maxRecDepth 100000
set_option maxHeartbeats 2000000
namespace DL
open PySem PySem.Spec PyProof.Rows L2
/-! ### sets whose members are tuples of ints and texts -/
abbrev IsM (P : Program) (w : World) (h : Heap) (k : List Key) (b : Addr) : Prop := IsTupleKey (mixKind P w) h k b
abbrev hM (P : Program) (w : World) (k : List Key) : Int := tupleKeyHash (mixKind P w) k
abbrev MEnt := Addr × List Key
def rowM (P : Program) (w : World) (e : MEnt) : Int × Value := (hM P w e.2, .ref e.1)
structure PlainV (v : Value) : Prop where
  cls : ∀ n, ofAClassStatement n v = pure false
  hsh : ∀ n, hashByValue n v = pure (plainKind v)
section
variable {P : Program} {w : World} {A : Around} {E : Value → Shared → Prop} {s : Shared}
theorem plain_mix {k : List Key} {vs : List Value} (h : ItemsAre (mixKind P w) k vs) : ∀ v ∈ vs, PlainV v := by
  induction h with
  | nil => exact fun v hv => absurd hv List.not_mem_nil
  | cons h1 _ ih =>
    intro v hv
    rcases List.mem_cons.mp hv with rfl | hv
    · rcases keyIs_shape h1 with ⟨i, t, rfl, rfl⟩ | ⟨x, t, rfl, rfl⟩
      · exact ⟨fun n => by cases n <;> rfl, fun n => hashByValue_scannable n rfl⟩
      · exact ⟨fun n => by cases n <;> rfl, fun n => hashByValue_scannable n rfl⟩
    · exact ih v hv
/-- a loop that leaves nothing: it ends early, or as it began -/
theorem ask_walk {α β : Type} {x0 : β} {f : α → β → Sem (ForInStep β)} {Dn : β → Prop} {vs : List α} {Q : β → Shared → Prop}
    (hf : ∀ v ∈ vs, ∀ R : ForInStep β → Shared → Prop, R (.yield x0) s → (∀ d, Dn d → R (.done d) s) → wpAny (model P w) A (f v x0) R E s) (hd : ∀ d, Dn d → Q d s) (h : Q x0 s) : wpAny (model P w) A (forIn vs x0 f) Q E s := by
  induction vs with
  | nil => exact wpAny_pure h
  | cons v vs ih =>
    rw [List.forIn_cons]
    exact wpAny_bind (hf v List.mem_cons_self _ (ih fun u hu => hf u (List.mem_cons_of_mem _ hu)) fun d z => wpAny_pure (hd d z))
theorem mix_noClass {k : List Key} {b : Addr} {Q : Bool → Shared → Prop} (hk : IsM P w s.heap k b) (h : Q false s) : wpAny (model P w) A (ofAClassStatement 8 (.ref b)) Q E s := by
  have ty := hk.typeIs
  obtain ⟨o, its, m, g, _, dt, hi⟩ := hk
  unfold ofAClassStatement
  refine wpAny_bind (wpAny_typeOf ty ?_)
  have tt : (("tuple" : String) == "tuple") = true := by decide
  simp only [tt, if_true]
  refine wpAny_bind (wpAny_pure ?_)
  simp only [Bool.not_true, Bool.false_eq_true, if_false]
  refine wpAny_bind (wpAny_seqItems g dt ?_)
  dsimp only
  rw [← Array.forIn_toList]
  refine wpAny_bind (ask_walk (Dn := fun _ => False) (fun v hv R hR _ => ?_) (fun _ z => z.elim) ?_)
  · rw [(plain_mix hi v hv).cls]
    exact wpAny_bind (wpAny_pure (wpAny_pure hR))
  · exact wpAny_pure h
theorem mix_hashBy {k : List Key} {b : Addr} {Q : Bool → Shared → Prop} (hk : IsM P w s.heap k b) (h : ∀ x, Q x s) : wpAny (model P w) A (hashByValue 8 (.ref b)) Q E s := by
  have ty := hk.typeIs
  obtain ⟨o, its, m, g, _, dt, hi⟩ := hk
  unfold hashByValue
  refine wpAny_bind (wpAny_specialOf ty F.slot_tuple_hash.lookup ?_)
  refine wpAny_bind (wpAny_seqItems g dt ?_)
  rw [Option.getD_some, ← Array.forIn_toList]
  refine wpAny_bind (ask_walk (Dn := fun d => d = (some false, ⟨⟩)) (fun v hv R hR hD => ?_) (fun d z => ?_) ?_)
  · rw [(plain_mix hi v hv).hsh]
    refine wpAny_bind (wpAny_pure ?_)
    cases plainKind v with
    | true => exact wpAny_pure hR
    | false => exact wpAny_pure (hD _ rfl)
  · subst z
    exact wpAny_pure (h false)
  · exact wpAny_pure (h true)
/-- looking for a tuple among tuples shows nothing of the table -/
theorem mix_unseen {k : List Key} {b : Addr} {Q : Bool → Shared → Prop} (hk : IsM P w s.heap k b) {ys : List Value} (hy : ∀ y ∈ ys, ∃ (k' : List Key) (c : Addr), y = .ref c ∧ IsM P w s.heap k' c) (h : Q false s) :
    wpAny (model P w) A (searchCouldBeSeen (.ref b) ys) Q E s := by
  unfold searchCouldBeSeen
  refine wpAny_bind (ask_walk (Dn := fun _ => False) (fun v hv R hR _ => ?_) (fun _ z => z.elim) (wpAny_pure h))
  obtain ⟨k', c, rfl, hc⟩ := hy v hv
  dsimp only
  split
  · exact wpAny_pure hR
  · refine wpAny_bind (wpAny_eqIsQuiet_tuple hk ?_)
    simp only [Bool.not_true, Bool.false_eq_true, if_false]
    refine wpAny_bind (wpAny_eqIsQuiet_tuple hc ?_)
    simp only [Bool.not_true, Bool.false_eq_true, if_false]
    refine wpAny_bind (mix_noClass hk ?_)
    simp only [Bool.false_eq_true, if_false]
    refine wpAny_bind (mix_noClass hc ?_)
    simp only [Bool.false_eq_true, if_false]
    exact wpAny_pure hR
/-! ### the set itself -/
structure SetM (P : Program) (w : World) (h : Heap) (a : Addr) (L : List MEnt) (es : Array (Int × Value)) (ep : Nat) (t : SetTable) : Prop where
  obj : ∃ o, h.get? a = some o ∧ o.ExactSet ∧ o.data = .set es ep t
  rows : es.toList = L.map (rowM P w)
  tab : TabOk t (L.map fun e => hM P w e.2)
  nd : (L.map (·.2)).Nodup
  mem : ∀ e ∈ L, IsM P w h e.2 e.1
  led : w.params.followText "set-order" = true ∨ t.led = true
  room : L.length * 5 < t.mask * 3
  few : L.length < 64
variable {a : Addr} {L : List MEnt} {es : Array (Int × Value)} {ep : Nat} {t : SetTable}
theorem rowsM_size (e : es.toList = L.map (rowM P w)) : es.size = L.length := by rw [← Array.length_toList, e, List.length_map]
theorem rowsM_at (e : es.toList = L.map (rowM P w)) {i : Nat} {p : MEnt} (h : L[i]? = some p) : es[i]? = some (rowM P w p) := by rw [← Array.getElem?_toList, e, List.getElem?_map, h, Option.map_some]
theorem SetM.fit (R : SetM P w s.heap a L es ep t) : t.fits es.size = true := by
  have z := rowsM_size R.rows
  have y := R.tab.sz
  have x := R.room
  rw [List.length_map] at y
  simp only [SetTable.fits, SetTable.fill, R.tab.dm, Bool.and_eq_true, beq_iff_eq, decide_eq_true_eq]
  refine ⟨y.trans z.symm, ?_⟩
  show t.place.size + 0 ≤ t.mask
  omega
theorem SetM.stays (R : SetM P w s.heap a L es ep t) : t.gaveWay = false := by
  simp only [SetTable.gaveWay, mask_odd R.tab.mok]
  rfl
/-- the c-th step of the way of a hash -/
def stepN (t : SetTable) (x : Int) (c : Nat) : SetTable.Probe := nth t.mask (runAt t.mask (SetTable.bits x % (t.mask + 1)) (SetTable.bits x)) c
theorem stepN_on (x : Int) (c q : Nat) : nth t.mask (stepN t x c) q = stepN t x (c + q) := (nth_add t.mask c _ q).symm
theorem stepN_j (x : Int) (c q : Nat) : (nth t.mask (stepN t x c) q).j = way t.mask x (c + q) := congrArg SetTable.Probe.j (stepN_on x c q)
theorem dummy_nth (m : Nat) : ∀ (n : Nat) (p : SetTable.Probe), p.dummy = none → (nth m p n).dummy = none
  | 0, _, h => h
  | n + 1, p, h => dummy_nth m n (adv m p) (by unfold adv; split <;> exact h)
theorem hash_at (e : es.toList = L.map (rowM P w)) {i : Nat} {p : MEnt} (h : L[i]? = some p) : (es[i]?.map (·.1)).getD 0 = hM P w p.2 := by rw [rowsM_at e h]; rfl
theorem searchM (R : SetM P w s.heap a L es ep t) {y : Addr} {k : List Key} (hy : IsM P w s.heap k y) (hu : A.units < cLine) {x : Int} (ex : hM P w k = x) {N : Nat} (N1 : N < 10 * SetTable.turns t.mask)
    (N2 : way t.mask x N ∉ t.place.toList) (N3 : ∀ c, c < N → way t.mask x c ∈ t.place.toList) {Q : SetFound → Shared → Prop} (here : k ∈ L.map (·.2) → Q (.there none) s) (gone : k ∉ L.map (·.2) → Q (.free (way t.mask x N) false) s) (fuel : Nat) :
    ∀ (c : Nat) (at' : Option SetTable.Probe), at'.getD (t.probeStart x) = stepN t x c → c ≤ N → N - c < fuel → (∀ (i : Nat) p, L[i]? = some p → p.2 = k → ∃ c', c ≤ c' ∧ c' < N ∧ t.place.toList[i]? = some (way t.mask x c')) →
      wpAny (model P w) A (setSearchFrom a (.ref y) x true fuel at') Q E s := by
  induction fuel with
  | zero => exact fun c at' _ _ z _ => absurd z (Nat.not_lt_zero _)
  | succ fuel ih =>
    intro c at' eat cN cf reach
    obtain ⟨o, g, xo, dt⟩ := R.obj
    rw [setSearchFrom_succ]
    refine wpAny_bind (wpAny_setState_of g dt R.fit ?_)
    simp only [R.stays, Bool.false_eq_true, if_false]
    have found := go_spec t R.tab.ris R.tab.dm (fun i : Nat => (es[i]?.map (·.1)).getD 0) x (10 * SetTable.turns t.mask) (N - c) (stepN t x c) (dummy_nth _ _ _ rfl) (by omega)
      (fun q hq => by rw [stepN_j]; exact N3 _ (by omega)) (by rw [stepN_j, Nat.add_sub_cancel' cN]; exact N2)
    -- of an entry of the same tuple: it isn't passed
    have passed : ∀ m, (∀ (k' i' : Nat), k' < m → t.place.toList[i']? = some (nth t.mask (stepN t x c) k').j → (es[i']?.map (·.1)).getD 0 ≠ x) → ∀ (i : Nat) p, L[i]? = some p → p.2 = k → ∀ c', c ≤ c' → c' < c + m → t.place.toList[i]? ≠ some (way t.mask x c') := by
      intro m none' i p hp hk c' c1 c2 z
      refine none' (c' - c) i (by omega) (by rw [stepN_j, Nat.add_sub_cancel' c1]; exact z) ?_
      rw [hash_at R.rows hp, hk, ex]
    rcases found with ⟨q, i, hq, hi, _, none', told⟩ | ⟨none', told⟩
    · have told' : t.probe (fun i : Nat => (es[i]?.map (·.1)).getD 0) x (at'.getD (t.probeStart x)) = some (.candidate (way t.mask x (c + q)) i (stepN t x (c + (q + 1)))) := by
        rw [eat, ← stepN_j, ← stepN_on]
        exact told
      rw [told']
      dsimp only
      rw [stepN_j] at hi
      have il : i < L.length := by
        have z1 := (List.getElem?_eq_some_iff.mp hi).1
        have z2 := R.tab.sz
        rw [List.length_map] at z2
        rw [Array.length_toList] at z1
        omega
      obtain ⟨p, hp⟩ : ∃ p, L[i]? = some p := ⟨_, List.getElem?_eq_getElem il⟩
      have hm := List.mem_of_getElem? hp
      have onward : wpAny (model P w) A (searchRest a (.ref y) x true fuel es t (way t.mask x (c + q)) i (stepN t x (c + (q + 1)))) Q E s := by
        unfold searchRest
        rw [rowsM_at R.rows hp]
        refine wpAny_bind (wpAny_holding (wpAny_eqBool_tuple hu (R.mem p hm) hy ?_))
        refine wpAny_bind (wpAny_setState_of g dt R.fit ?_)
        dsimp only
        by_cases same : p.2 = k
        · rw [decide_eq_true same]
          simp only [Bool.and_self, if_true]
          exact wpAny_pure (here (List.mem_map.mpr ⟨p, hm, same⟩))
        · rw [decide_eq_false same]
          simp only [Bool.and_false, Bool.false_eq_true, if_false]
          have live := slot_live R.tab.ris hi
          rw [sameMem]
          simp only [if_true, live, rowsM_at R.rows hp]
          refine wpAny_bind (wpAny_isSame_ref_self (wpAny_bind (wpAny_pure ?_)))
          simp only [if_true]
          refine ih (c + (q + 1)) _ rfl (by omega) (by omega) fun i0 p0 h0 hk0 => ?_
          obtain ⟨c', c1, c2, c3⟩ := reach i0 p0 h0 hk0
          refine ⟨c', ?_, c2, c3⟩
          rcases Nat.lt_trichotomy c' (c + q) with z | z | z
          · exact absurd c3 (passed q none' i0 p0 h0 hk0 c' c1 z)
          · subst z
            have live2 := slot_live R.tab.ris c3
            rw [live] at live2
            injection live2 with live2
            subst live2
            rw [hp] at h0
            cases h0
            exact absurd hk0 same
          · omega
      cases led : t.led with
      | true =>
        simp only [Bool.not_true, Bool.false_eq_true, if_false]
        exact onward
      | false =>
        simp only [Bool.not_false, if_true]
        refine wpAny_bind (mix_unseen hy (fun v hv => ?_) ?_)
        · obtain ⟨e, he, rfl⟩ := List.mem_map.mp hv
          have he1 : e ∈ es.toList := by
            have z : e ∈ es ∧ e.1 = x := by simpa using he
            exact Array.mem_toList_iff.mpr z.1
          rw [R.rows] at he1
          obtain ⟨p2, hp2, rfl⟩ := List.mem_map.mp he1
          exact ⟨p2.2, p2.1, rfl, R.mem p2 hp2⟩
        · simp only [Bool.false_eq_true, if_false]
          exact onward
    · have told' : t.probe (fun i : Nat => (es[i]?.map (·.1)).getD 0) x (at'.getD (t.probeStart x)) = some (.empty (way t.mask x N) none) := by
        have z : way t.mask x N = (nth t.mask (stepN t x c) (N - c)).j := by rw [stepN_j, Nat.add_sub_cancel' cN]
        rw [eat, z]
        exact told
      rw [told']
      refine wpAny_pure (gone fun hm => ?_)
      obtain ⟨p0, h0, hk0⟩ := List.mem_map.mp hm
      obtain ⟨i0, hi0⟩ := List.getElem?_of_mem h0
      obtain ⟨c', c1, c2, c3⟩ := reach i0 p0 hi0 hk0
      exact passed (N - c) none' i0 p0 hi0 hk0 c' c1 (by omega) c3
theorem searchM_at (R : SetM P w s.heap a L es ep t) {y : Addr} {k : List Key} (hy : IsM P w s.heap k y) (hu : A.units < cLine) {Q : SetFound → Shared → Prop} (here : k ∈ L.map (·.2) → Q (.there none) s)
    (gone : ∀ N, k ∉ L.map (·.2) → way t.mask (hM P w k) N ∉ t.place.toList → (∀ c, c < N → way t.mask (hM P w k) c ∈ t.place.toList) → Q (.free (way t.mask (hM P w k) N) false) s) :
    wpAny (model P w) A (setSearch a (.ref y) (hM P w k) true) Q E s := by
  have room := R.room
  obtain ⟨N, N1, N2, N3⟩ := R.tab.first (by rw [List.length_map]; omega) (hM P w k)
  have small : N < 100000 := by
    have z : SetTable.turns t.mask ≤ 142 := by
      rcases R.tab.mok with e | e | e <;> simp only [SetTable.turns] <;> omega
    omega
  refine searchM R hy hu rfl N1 N2 N3 here (fun z => gone N z N2 N3) 100000 0 none rfl (Nat.zero_le _) small fun i p hp hk => ?_
  have z1 : (L.map fun e => hM P w e.2)[i]? = some (hM P w k) := by rw [List.getElem?_map, hp, ← hk]; rfl
  have z2 : i < t.place.toList.length := by
    have z3 := R.tab.sz
    rw [List.length_map] at z3
    rw [Array.length_toList, z3]
    exact (List.getElem?_eq_some_iff.mp hp).1
  obtain ⟨c, c1, c2⟩ := R.tab.before N2 z1 (List.getElem?_eq_getElem z2)
  exact ⟨c, Nat.zero_le _, c1, by rw [c2]; exact List.getElem?_eq_getElem z2⟩
end
end DL

set_option Elab.async false
set_option maxRecDepth 100000
set_option maxHeartbeats 2000000
namespace DL
open PySem PySem.Spec PyProof.Rows L2
/-! ### one more member of a set of tuples -/
theorem pick_range {α : Type} : ∀ (L : List α), (List.range L.length).filterMap (fun i => L[i]?) = L
  | [] => rfl
  | a :: L => by
    rw [List.length_cons, List.range_succ_eq_map, List.filterMap_cons_some (b := a) (by rfl), List.filterMap_map]
    exact congrArg (a :: ·) (pick_range L)
section
variable {P : Program} {w : World} {A : Around} {E : Value → Shared → Prop} {s : Shared} {a : Addr} {L : List MEnt} {es : Array (Int × Value)} {ep : Nat} {t : SetTable}
theorem IsM.off {h h' : Heap} {k : List Key} {b : Addr} {o : Obj} (x : IsM P w h k b) (g : h.get? a = some o) (dt : o.data = .set es ep t) (sb : Heap.SameBut a h h') : IsM P w h' k b := by
  obtain ⟨o2, its, m, g2, c2, d2, i2⟩ := x
  refine ⟨o2, its, m, (sb.2 b fun e => ?_).trans g2, c2, d2, i2⟩
  subst e
  rw [g] at g2
  cases g2
  rw [dt] at d2
  cases d2
theorem rowsM_all (e : es.toList = L.map (rowM P w)) (i : Nat) : es[i]? = (L[i]?).map (rowM P w) := by rw [← Array.getElem?_toList, e, List.getElem?_map]
/-- rows in another order -/
theorem anew {order : Array Nat} (e : es.toList = L.map (rowM P w)) (p : order.toList.Perm (List.range L.length)) :
    ∃ L2 : List MEnt, (order.filterMap (es[·]?)).toList = L2.map (rowM P w) ∧ L2.Perm L ∧ (L2.map fun e => hM P w e.2) = order.toList.map fun i => (es.map (·.1)).getD i 0 := by
  refine ⟨order.toList.filterMap fun i => L[i]?, ?_, ?_, ?_⟩
  · rw [Array.toList_filterMap, List.map_filterMap]
    exact congrArg (fun f => List.filterMap f order.toList) (funext fun i => rowsM_all e i)
  · have z := p.filterMap fun i => L[i]?
    rw [pick_range] at z
    exact z
  · have all : ∀ l : List Nat, (∀ i ∈ l, i < L.length) → ((l.filterMap fun i => L[i]?).map fun e => hM P w e.2) = l.map fun i => (es.map (·.1)).getD i 0 := by
      intro l
      induction l with
      | nil => exact fun _ => rfl
      | cons i l ih =>
        intro hl
        have hi := hl i List.mem_cons_self
        have ei : L[i]? = some L[i] := List.getElem?_eq_getElem hi
        rw [List.filterMap_cons_some ei, List.map_cons, List.map_cons, ih fun j hj => hl j (List.mem_cons_of_mem _ hj)]
        refine congrArg (· :: _) ?_
        have z : (es.map (·.1))[i]? = some (hM P w (L[i]).2) := by rw [Array.getElem?_map, rowsM_all e, ei]; rfl
        simp [Array.getD_eq_getD_getElem?, z]
    exact all _ fun i hi => List.mem_range.mp (p.mem_iff.mp hi)
theorem relayM {o : Obj} (g : s.heap.get? a = some o) (xo : o.ExactSet) (dt : o.data = .set es ep t) (rows : es.toList = L.map (rowM P w)) (sz : t.place.size = es.size) (dm : t.dummies = #[]) (le : es.size ≤ t.mask)
    (nd : (L.map (·.2)).Nodup) (mem : ∀ e ∈ L, IsM P w s.heap e.2 e.1) (led : w.params.followText "set-order" = true ∨ t.led = true) (few : L.length < 64) {want M : Nat} (w1 : SetTable.sizeAbove want - 1 = M) (w2 : MaskOk M) (w3 : SetTable.sizeAbove want ≤ 128)
    (room : L.length * 5 < M * 3) {Q : Unit → Shared → Prop} (hQ : ∀ h' L' es' ep' t', Heap.SameBut a s.heap h' → SetM P w h' a L' es' ep' t' → L'.Perm L → Q () { s with heap := h' }) : wpAny (model P w) A (setRelay a want) Q E s := by
  have n := rowsM_size rows
  have fit : t.fits es.size = true := by
    simp only [SetTable.fits, SetTable.fill, dm, Bool.and_eq_true, beq_iff_eq, decide_eq_true_eq]
    refine ⟨sz, ?_⟩
    show t.place.size + 0 ≤ t.mask
    omega
  obtain ⟨t2, order, e1, e2, T2, m2, l2, _, _⟩ := relaid_ok t (hs := es.map (·.1)) w1 w2 (by rw [Array.size_map, n]; omega)
  rw [Array.size_map, n] at e2
  obtain ⟨L2, r1, r2, r3⟩ := anew rows e2
  rw [← r3] at T2
  have n2 : (order.filterMap (es[·]?)).size = es.size := by rw [rowsM_size r1, r2.length_eq, n]
  rw [setRelay_eq]
  refine wpAny_bind (wpAny_setState_of g dt fit ?_)
  have sl : 128 ≤ sizeLine := by decide
  have w4 : ¬ SetTable.sizeAbove want > sizeLine := by
    omega
  simp only [w4, if_false, e1, n2, bne_self_eq_false, Bool.false_eq_true]
  refine wpAny_bind (wpAny_pure ?_)
  refine wpAny_storeSet_of g dt ?_ (by rw [n2, n]; exact Nat.le_trans (by omega) sl)
  have sb : Heap.SameBut a s.heap (s.heap.update a (Obj.putSet (order.filterMap (es[·]?)) t2)) := Heap.SameBut.update s.heap a (Obj.putSet _ t2)
  refine hQ _ L2 _ (ep + 1) t2 sb ⟨⟨_, PpSet.storeB_at g dt, ⟨xo.1, xo.2.1, xo.2.2⟩, rfl⟩, r1, T2, (r2.map (·.2)).nodup_iff.mpr nd, fun e he => (mem e (r2.mem_iff.mp he)).off g dt sb, by rw [l2]; exact led, by rw [r2.length_eq, m2]; exact room, by rw [r2.length_eq]; exact few⟩ r2
theorem TabOk.like {t t' : SetTable} {hs : List Int} (T : TabOk t hs) (e1 : t'.place = t.place) (e2 : t'.dummies = t.dummies) (e3 : t'.mask = t.mask) : TabOk t' hs := by
  refine ⟨by rw [e1]; exact T.ris, by rw [e2]; exact T.dm, by rw [e1]; exact T.sz, by rw [e3]; exact T.mok, ?_, ?_⟩
  · rw [e1, e3]
    exact T.bd
  · rw [e1, e3]
    exact T.reach
theorem put_in {α : Type} (L : List α) (p : Nat) (x : α) : (L.take p ++ x :: L.drop p).Perm (x :: L) := by
  have z : (L.take p ++ x :: L.drop p).Perm (x :: (L.take p ++ L.drop p)) := List.perm_middle
  rw [List.take_append_drop] at z
  exact z
theorem addM (R : SetM P w s.heap a L es ep t) {x : Addr} {k : List Key} (hx : IsM P w s.heap k x) (hu : A.units < cLine) (room : L.length + 1 < 64) {Q : Bool → Shared → Prop}
    (hQ : ∀ b h' L' es' ep' t', Heap.SameBut a s.heap h' → SetM P w h' a L' es' ep' t' → (k ∈ L.map (·.2) → L' = L) → (k ∉ L.map (·.2) → L'.Perm ((x, k) :: L)) → Q b { s with heap := h' }) :
    wpAny (model P w) A (setAddHashed a (.ref x) (hM P w k)) Q E s := by
  obtain ⟨o, g, xo, dt⟩ := R.obj
  have n := rowsM_size R.rows
  have sl : 128 ≤ sizeLine := by decide
  have old := R.room
  unfold setAddHashed
  refine wpAny_holding ?_
  rw [show (100000 : Nat) = 99999 + 1 from rfl, setAddHashedIn_succ]
  refine wpAny_bind (wpAny_setState_of g dt R.fit ?_)
  have noScan : byScan (.ref x) es = false := by simp [byScan, Value.scannable]
  simp only [noScan, Bool.false_eq_true, if_false]
  refine wpAny_bind (searchM_at R hx hu (fun m => ?_) fun N m N2 N3 => ?_)
  · exact wpAny_pure (hQ false s.heap L es ep t (Heap.SameBut.refl a s.heap) R (fun _ => rfl) fun z => absurd m z)
  · dsimp only
    refine wpAny_bind (wpAny_setState_of g dt R.fit ?_)
    dsimp only
    obtain ⟨q1, q2, q3, q4, q5, q6, q7, q8, q9⟩ := R.tab.put N2 N3
    generalize t.put (way t.mask (hM P w k) N) = pt at q1 q3 q4 q5 q6 q7 q8 q9 ⊢
    obtain ⟨t1, j⟩ := pt
    dsimp only at q1 q3 q4 q5 q6 q7 q8 q9 ⊢
    subst q1
    generalize hj : SetTable.below t.place (way t.mask (hM P w k) N) = j at q2 q3 ⊢
    have pm := put_in L j (x, k)
    have rows1 : (SetTable.insertAt es j (hM P w k, Value.ref x)).toList = (L.take j ++ (x, k) :: L.drop j).map (rowM P w) := by
      rw [SetTable.toList_insertAt, R.rows, List.map_append, List.map_cons, List.map_take, List.map_drop]
      rfl
    have hash1 : (L.take j ++ (x, k) :: L.drop j).map (fun e => hM P w e.2) = (L.map fun e => hM P w e.2).take j ++ hM P w k :: (L.map fun e => hM P w e.2).drop j := by
      rw [List.map_append, List.map_cons, List.map_take, List.map_drop]
    rw [← hash1] at q3
    have n1 := rowsM_size rows1
    rw [pm.length_eq, List.length_cons] at n1
    have nd1 : ((L.take j ++ (x, k) :: L.drop j).map (·.2)).Nodup := (pm.map (·.2)).nodup_iff.mpr (List.nodup_cons.mpr ⟨m, R.nd⟩)
    generalize L.take j ++ (x, k) :: L.drop j = L1 at pm q3 nd1 rows1
    have len1 : L1.length = L.length + 1 := pm.length_eq
    generalize SetTable.insertAt es j (hM P w k, Value.ref x) = es1 at rows1 n1 ⊢
    rw [n]
    rw [List.length_map] at q9
    have rest : ∀ t2 : SetTable, t2.place = t1.place → t2.dummies = t1.dummies → t2.mask = t1.mask → t2.led = t1.led →
        wpAny (model P w) A (do storeSet a es1 t2; if (!false && t2.tooFull) = true then do setRelay a (SetTable.grown (L.length + 1)); pure true else pure true) Q E s := by
      intro t2 f1 f2 f3 f4
      have T2 := TabOk.like q3 f1 f2 f3
      have fill2 : t2.fill = L.length + 1 := by
        unfold SetTable.fill at q9 ⊢
        rw [f1, f2]
        exact q9
      refine wpAny_bind (wpAny_storeSet_of g dt ?_ (by rw [n1]; omega))
      have sb : Heap.SameBut a s.heap (s.heap.update a (Obj.putSet es1 t2)) := Heap.SameBut.update s.heap a (Obj.putSet es1 t2)
      have g1 := PpSet.storeB_at (es' := es1) (t' := t2) g dt
      generalize s.heap.update a (Obj.putSet es1 t2) = h1 at sb g1 ⊢
      have mem1 : ∀ e ∈ L1, IsM P w h1 e.2 e.1 := fun e he => by
        rcases List.mem_cons.mp (pm.mem_iff.mp he) with rfl | he
        · exact hx.off g dt sb
        · exact (R.mem e he).off g dt sb
      have led1 : w.params.followText "set-order" = true ∨ t2.led = true := by
        rw [f4, q5]
        exact R.led
      have full : t2.tooFull = decide ((L.length + 1) * 5 ≥ t.mask * 3) := by
        unfold SetTable.tooFull
        rw [fill2, f3, q4]
      have sz1 : t2.place.size = es1.size := by
        have z := T2.sz
        rw [List.length_map, len1] at z
        rw [z, n1]
      rw [full]
      by_cases big : (L.length + 1) * 5 ≥ t.mask * 3
      · rw [decide_eq_true big]
        simp only [Bool.not_false, Bool.and_self, if_true]
        have two : (t.mask = 7 ∧ L.length = 4) ∨ (t.mask = 31 ∧ L.length = 18) := by
          rcases R.tab.mok with e | e | e <;> rw [e] at big old
          · exact .inl ⟨e, by omega⟩
          · exact .inr ⟨e, by omega⟩
          · omega
        have grow : ∀ M, SetTable.sizeAbove (SetTable.grown (L.length + 1)) - 1 = M → MaskOk M → SetTable.sizeAbove (SetTable.grown (L.length + 1)) ≤ 128 → (L.length + 1) * 5 < M * 3 →
            wpAny (model P w) A (do setRelay a (SetTable.grown (L.length + 1)); pure true) Q E { s with heap := h1 } := fun M u1 u2 u3 u4 => by
          refine wpAny_bind (relayM (s := { s with heap := h1 }) g1 ⟨xo.1, xo.2.1, xo.2.2⟩ rfl rows1 sz1 T2.dm (by rw [n1, f3, q4]; omega) nd1 mem1 led1 (by omega) u1 u2 u3 (by rw [len1]; exact u4) fun h2 L2 es2 ep2 t3 sb2 R2 pm2 => ?_)
          exact wpAny_pure (hQ true h2 L2 es2 ep2 t3 (sb.trans sb2) R2 (fun z => absurd z m) fun _ => pm2.trans pm)
        rcases two with ⟨_, e⟩ | ⟨_, e⟩
        · exact grow 31 (by rw [e, size_20]) (.inr (.inl rfl)) (by rw [e, size_20]; decide) (by omega)
        · exact grow 127 (by rw [e, size_76]) (.inr (.inr rfl)) (by rw [e, size_76]; decide) (by omega)
      · rw [decide_eq_false big]
        simp only [Bool.and_false, Bool.false_eq_true, if_false]
        exact wpAny_pure (hQ true h1 L1 es1 (ep + 1) t2 sb ⟨⟨_, g1, ⟨xo.1, xo.2.1, xo.2.2⟩, rfl⟩, rows1, T2, nd1, mem1, led1, by rw [len1, f3, q4]; omega, by omega⟩ (fun z => absurd z m) fun _ => pm)
    split
    · refine wpAny_bind (mix_hashBy hx fun b => ?_)
      cases b
      · exact rest _ rfl rfl rfl rfl
      · exact rest _ rfl rfl rfl rfl
    · exact wpAny_bind (wpAny_pure (rest _ rfl rfl rfl rfl))
end
end DL

set_option Elab.async false
set_option maxRecDepth 100000
set_option maxHeartbeats 3200000
namespace DL
open PySem PySem.Spec PyProof.Rows L2
/-! ### set(xs), xs a list of ints or texts -/
/-- a set without members, new -/
abbrev bareS (w : World) : Obj := { cls := .type "set", dict := none, data := .set #[] 0 (.fresh 0 0 (!w.params.followText "set-order")) }
/-- L: what the first i of ks are, each once -/
structure MetW (ks : List Key) (i : Nat) (L : List Key) : Prop where
  nd : L.Nodup
  len : L.length ≤ i
  mem : ∀ k, k ∈ L ↔ k ∈ ks.take i
theorem MetW.zero (ks : List Key) : MetW ks 0 [] := ⟨List.nodup_nil, Nat.le_refl _, fun k => by rw [List.take_zero]⟩
theorem MetW.more {ks : List Key} {i : Nat} {L L2 : List Key} {k : Key} (m : MetW ks i L) (e : ks[i]? = some k) (a : Adds k L L2) : MetW ks (i + 1) L2 := by
  have etk : ks.take (i + 1) = ks.take i ++ [k] := by
    obtain ⟨h1, h2⟩ := List.getElem?_eq_some_iff.mp e
    rw [List.take_succ_eq_append_getElem h1, h2]
  by_cases q : k ∈ L
  · rw [a.old q]
    refine ⟨m.nd, Nat.le_succ_of_le m.len, fun j => ?_⟩
    rw [etk, List.mem_append, List.mem_singleton, m.mem j]
    exact ⟨.inl, fun h => h.elim id fun z => by rw [z]; exact (m.mem k).mp q⟩
  · have p := a.new q
    refine ⟨p.nodup_iff.mpr (List.nodup_cons.mpr ⟨q, m.nd⟩), by rw [p.length_eq, List.length_cons]; exact Nat.succ_le_succ m.len, fun j => ?_⟩
    rw [etk, List.mem_append, List.mem_singleton, p.mem_iff, List.mem_cons, m.mem j]
    exact Or.comm
end DL

set_option Elab.async false
set_option maxRecDepth 100000
set_option maxHeartbeats 3200000
namespace DL
open PySem PySem.Spec PyProof.Rows L2
/-! ### set(xs), xs tuples of ints and texts -/
/-- L: what the first i of ks are, each tuple once -/
structure MetM (ks : List MEnt) (i : Nat) (L : List MEnt) : Prop where
  len : L.length ≤ i
  sub : ∀ e ∈ L, e ∈ ks.take i
  all : ∀ e ∈ ks.take i, e.2 ∈ L.map (·.2)
theorem MetM.zero (ks : List MEnt) : MetM ks 0 [] := ⟨Nat.le_refl _, fun e h => (by cases h), fun e h => (by rw [List.take_zero] at h; cases h)⟩
theorem MetM.more {ks L L2 : List MEnt} {i : Nat} {e : MEnt} (m : MetM ks i L) (at' : ks[i]? = some e) (old : e.2 ∈ L.map (·.2) → L2 = L) (new : e.2 ∉ L.map (·.2) → L2.Perm (e :: L)) : MetM ks (i + 1) L2 := by
  have tk : ks.take (i + 1) = ks.take i ++ [e] := by
    obtain ⟨h1, h2⟩ := List.getElem?_eq_some_iff.mp at'
    rw [List.take_succ_eq_append_getElem h1, h2]
  by_cases q : e.2 ∈ L.map (·.2)
  · rw [old q]
    refine ⟨Nat.le_succ_of_le m.len, fun d hd => by rw [tk]; exact List.mem_append_left _ (m.sub d hd), fun d hd => ?_⟩
    rw [tk] at hd
    rcases List.mem_append.mp hd with h | h
    · exact m.all d h
    · rw [List.mem_singleton.mp h]
      exact q
  · have p := new q
    refine ⟨by rw [p.length_eq]; exact Nat.succ_le_succ m.len, fun d hd => ?_, fun d hd => ?_⟩
    · rw [tk]
      rcases List.mem_cons.mp (p.mem_iff.mp hd) with rfl | h
      · exact List.mem_append_right _ (List.mem_singleton.mpr rfl)
      · exact List.mem_append_left _ (m.sub d h)
    · rw [tk] at hd
      refine (p.map (·.2)).mem_iff.mpr ?_
      rcases List.mem_append.mp hd with h | h
      · exact List.mem_cons_of_mem _ (m.all d h)
      · rw [List.mem_singleton.mp h]
        exact List.mem_cons_self
section
variable {P : Program} {w : World} {A : Around} {E : Value → Shared → Prop} {s : Shared}
theorem IsM.keep {h h' : Heap} {k : List Key} {b : Addr} (x : IsM P w h k b) (kp : ∀ c o, h.get? c = some o → h'.get? c = some o) : IsM P w h' k b := by
  obtain ⟨o, its, m, g, r⟩ := x
  exact ⟨o, its, m, kp b o g, r⟩
theorem SetM.keep {h h' : Heap} {a : Addr} {L : List MEnt} {es : Array (Int × Value)} {ep : Nat} {t : SetTable} (R : SetM P w h a L es ep t) (g : ∀ o, h.get? a = some o → h'.get? a = some o) (m : ∀ e ∈ L, IsM P w h' e.2 e.1) : SetM P w h' a L es ep t := by
  obtain ⟨o, go, r⟩ := R.obj
  exact ⟨⟨o, g o go, r⟩, R.rows, R.tab, R.nd, m, R.led, R.room, R.few⟩
theorem setM_bare {h : Heap} {a : Addr} (g : h.get? a = some (bareS w)) : SetM P w h a [] #[] 0 (.fresh 0 0 (!w.params.followText "set-order")) := by
  refine ⟨⟨_, g, ⟨rfl, rfl, rfl⟩, rfl⟩, rfl, ⟨List.Pairwise.nil, rfl, rfl, .inl rfl, fun x hx => (by cases hx), fun i h j hi => (by simp at hi)⟩, List.nodup_nil, fun e he => (by cases he), ?_, ?_, by decide⟩
  · cases q : w.params.followText "set-order" with
    | true => exact .inl rfl
    | false => exact .inr rfl
  · show 0 * 5 < 7 * 3
    decide
end
end DL

set_option Elab.async false
set_option maxRecDepth 100000
set_option maxHeartbeats 3200000

set_option Elab.async false
set_option maxRecDepth 100000
set_option maxHeartbeats 3200000

set_option Elab.async false
set_option maxRecDepth 100000
set_option maxHeartbeats 3200000
namespace DL
open PySem PySem.Spec PyProof.Rows L2
/-! ### sets of bars: set(..) and sorted(..) -/
structure SetM0 (P : Program) (w : World) (h : Heap) (a : Addr) (L : List MEnt) : Prop where
  h : ∃ (es : Array (Int × Value)) (ep : Nat) (t : SetTable), (∃ o, h.get? a = some o ∧ o.ExactSet ∧ o.data = .set es ep t) ∧ es.toList = L.map (rowM P w) ∧ TabOk t (L.map fun e => hM P w e.2) ∧ (L.map (·.2)).Nodup ∧
    (w.params.followText "set-order" = true ∨ t.led = true) ∧ L.length * 5 < t.mask * 3 ∧ L.length < 64
def SetMO (P : Program) (w : World) (a : Addr) (L : List MEnt) : HO := .ext fun h => SetM0 P w h a L
theorem SetM.bare {P : Program} {w : World} {h : Heap} {a : Addr} {L : List MEnt} {es : Array (Int × Value)} {ep : Nat} {t : SetTable} (R : SetM P w h a L es ep t) : SetM0 P w h a L := ⟨⟨es, ep, t, R.obj, R.rows, R.tab, R.nd, R.led, R.room, R.few⟩⟩
theorem SetM0.whole {P : Program} {w : World} {h : Heap} {a : Addr} {L : List MEnt} (R : SetM0 P w h a L) (m : ∀ e ∈ L, IsM P w h e.2 e.1) : ∃ es ep t, SetM P w h a L es ep t := by
  obtain ⟨es, ep, t, h1, h2, h3, h4, h5, h6, h7⟩ := R.h
  exact ⟨es, ep, t, h1, h2, h3, h4, m, h5, h6, h7⟩
theorem setMO_ok {P : Program} {w : World} {H : Hp} {h : Heap} {a : Addr} {L : List MEnt} (R : SetM0 P w h a L) : ObjOk P w H h a (SetMO P w a L) := by
  obtain ⟨_, _, _, ⟨o, g, _⟩, _⟩ := id R.h
  refine ⟨R, ⟨o, g⟩, fun _ _ p k => ?_⟩
  obtain ⟨es, ep, t, ⟨o2, g2, r⟩, q⟩ := (show SetM0 P w _ a L from p).h
  exact ⟨⟨es, ep, t, ⟨o2, k o2 g2, r⟩, q⟩⟩
theorem items_mix {P : Program} {w : World} : ∀ {k : List Key} {us : List Value}, Vals (k.map kV) us → ItemsAre (mixKind P w) k us
  | [], _, .nil => .nil
  | _ :: _, _, .cons r t => .cons (kV_is r) (items_mix t)
section
variable {X : Cx}
theorem inv_mix {pins : List (Addr × Obj)} {σ : L2.St} {H : Hp} {s : Shared} {b : Addr} {k : List Key} (I : Inv X pins σ H s) (h : SqT X.K H b (k.map kV)) : IsM X.prog X.w s.heap k b := by
  obtain ⟨its, r, ⟨o, g, c, n, d⟩, _⟩ := I.tuple h
  exact ⟨o, its.toArray, n, g, c, d, by simpa using items_mix r⟩
/-- sorted(set), its members bars -/
def rSortM (P : Program) (w : World) : List V → Hp → VK → Prop := fun vs H Q => ∃ (a : Addr) (bs : List (Addr × Bar)), vs = [V.ref a] ∧ H a = some (SetMO P w a (bs.map fun b => (b.1, b.2.key))) ∧ (∀ b ∈ bs, H b.1 = some (.tup b.2.vs) ∧ b.2.low) ∧
  ∀ (ks : List (Addr × Bar)) (p : Addr), ks.Perm bs → ks.Pairwise (fun x y => x.2.code ≤ y.2.code) → H p = none → Q (.ref p) (upd H p (.lst (ks.map fun k => V.ref k.1)))
def adB (H : Hp) (v : Value) : Addr × Bar := ((match v with | .ref a => a | _ => 0 : Addr), barAt H (backV v))
theorem adB_of {H : Hp} {b : Addr × Bar} (h : H b.1 = some (.tup b.2.vs)) : adB H (.ref b.1) = b := by
  show (b.1, barAt H (.ref b.1)) = b
  rw [barAt_of h]
theorem isBar_of {pins : List (Addr × Obj)} {σ : L2.St} {H : Hp} {s : Shared} {a : Addr} {b : Bar} (I : Inv X pins σ H s) (h : H a = some (.tup b.vs)) : IsBarV s.heap (.ref a) b := by
  obtain ⟨_, its, rv, oo, h1, h2, n, h3⟩ := (show ObjOk X.prog X.w H s.heap a (.tup b.vs) from I.hok a _ h)
  cases rv with
  | cons r1 rv =>
    cases rv with
    | cons r2 rv =>
      cases rv with
      | cons r3 rv =>
        cases rv with
        | cons r4 rv =>
          cases rv
          obtain ⟨t1, rfl⟩ := r1
          obtain ⟨t2, rfl⟩ := r2
          obtain ⟨t3, rfl⟩ := r3
          obtain ⟨t4, rfl⟩ := r4
          exact ⟨a, oo, t1, t2, t3, t4, n, rfl, h1, h2, h3⟩
theorem cr_sortM (calm : X.calm = true) : CallR X (.builtin "sorted") (rSortM X.prog X.w) := by
  intro pins s σ H vs us Q I r h
  obtain ⟨a, bs, rfl, ha, hb, q⟩ := h
  rw [Vals.ref1 r]
  have R0 : SetM0 X.prog X.w s.heap a (bs.map fun b => (b.1, b.2.key)) := (I.hok a _ ha).1
  obtain ⟨es, ep, t, R⟩ := R0.whole fun e he => by
    obtain ⟨b, hbm, rfl⟩ := List.mem_map.mp he
    exact inv_mix I (SqT.of' (by rw [Bar.key_vs]; exact (hb b hbm).1))
  obtain ⟨o, ho, hx, hd⟩ := R.obj
  have few := R.few
  rw [List.length_map] at few
  refine Calls.call_function_entry PyProof.Rows.kind_sorted PyProof.Rows.plain_sorted PyProof.Rows.entry_sorted (PyProof.Rows.args_sorted1 _) ?_
  unfold Builtin.«sorted»
  refine wpAny_bind (m := checkCount "sorted" 1 1 _) (wpAny_pure ?_)
  refine wpAny_bind (collect_set (A := X.A.in1) (I.ok.hd calm) ⟨o, ho, hx.1, hd⟩ R.fit (by rw [rowsM_size R.rows, List.length_map]; exact Nat.lt_trans few (by decide)) R.tab.ris R.led fun s1 out keeps grown g1 o1 pm => ?_)
  have ees : es.toList.map (·.2) = bs.map fun b => Value.ref b.1 := by
    rw [R.rows, List.map_map, List.map_map]
    rfl
  rw [ees] at pm
  have hol : out.length ≤ sizeLine := by
    have h2 : (64 : Nat) ≤ sizeLine := by decide
    rw [pm.length_eq, List.length_map]
    omega
  refine wpAny_bind (wpAny_newList ?_ hol)
  have hoL : (s1.heap.push (seqObj "list" out.toArray 0)).get? s1.heap.objs.size = some (seqObj "list" out.toArray 0) := Heap.get?_push_size _ rfl
  have hbar : ∀ v ∈ out, IsBarV (s1.heap.push (seqObj "list" out.toArray 0)) v (barAt H (backV v)) ∧ (barAt H (backV v)).low := fun v hv => by
    obtain ⟨b, hbm, rfl⟩ := List.mem_map.mp (pm.mem_iff.mp hv)
    have e1 : barAt H (backV (Value.ref b.1)) = b.2 := barAt_of (hb b hbm).1
    rw [e1]
    exact ⟨(isBar_of I (hb b hbm).1).keeps fun c oo e _ => Heap.get?_push_of_some _ (keeps c oo e), (hb b hbm).2⟩
  refine wpAny_bind (wpAny_holding (wpAny_call_entry PyProof.Rows.slot_list_sort ⟨_, hoL, rfl⟩ PyProof.Rows.entry_list_sort
    (SrtO.list_sort_ord (s := { s1 with heap := s1.heap.push (seqObj "list" out.toArray 0) }) (swo_code fun v => barAt H (backV v)) hoL hol (fun h2 => ?_) fun out2 hs hp => ⟨_, rfl, ?_⟩)
    (PyProof.Rows.args_list_sort _)))
  · refine bars_sortableO (by omega) hbar fun oo e => ?_
    have e' : some oo = some (seqObj "list" out.toArray 0) := e.symm.trans hoL
    cases e'
    intro c
    exact absurd (Value.type.inj c) (by decide)
  · obtain ⟨e', he'⟩ := PyProof.Rows.sortedHeap_at (vs := out) (out := out2.toArray) hoL
    have pm2 : out2.Perm (bs.map fun b => Value.ref b.1) := hp.perm.trans pm
    have href : ∀ v ∈ out2, ∃ b ∈ bs, v = Value.ref b.1 := fun v hv => by
      obtain ⟨b, hbm, e⟩ := List.mem_map.mp (pm2.mem_iff.mp hv)
      exact ⟨b, hbm, e.symm⟩
    have e1 : out2.map backV = (out2.map (adB H)).map fun k => V.ref k.1 := by
      rw [List.map_map]
      refine List.map_congr_left fun v hv => ?_
      obtain ⟨b, _, rfl⟩ := href v hv
      rfl
    have pk : (out2.map (adB H)).Perm bs := by
      have z := pm2.map (adB H)
      have y : (bs.map fun b => Value.ref b.1).map (adB H) = bs := by
        rw [List.map_map]
        conv => rhs; rw [← List.map_id bs]
        exact List.map_congr_left fun b hbm => adB_of (hb b hbm).1
      rw [y] at z
      exact z
    have pw : (out2.map (adB H)).Pairwise fun x y => x.2.code ≤ y.2.code := by
      rw [List.pairwise_map]
      refine hs.imp fun {x y} z => ?_
      have z := of_decide_eq_false z
      show (barAt H (backV x)).code ≤ (barAt H (backV y)).code
      omega
    have hno : H s1.heap.objs.size = none := I.hok.fresh grown
    have oldk : ∀ b z, s.heap.get? b = some z → (sortedHeap (s1.heap.push (seqObj "list" out.toArray 0)) s1.heap.objs.size out out2.toArray).get? b = some z := fun b z e => by
      have e1 := keeps b z e
      have lt := Heap.lt_size e1
      rw [PyProof.Rows.sortedHeap_old (Nat.ne_of_lt lt) (by rw [size_push']; exact Nat.lt_succ_of_lt lt)]
      exact Heap.get?_push_of_some _ e1
    have J : Inv X pins σ (upd H s1.heap.objs.size (.lst (out2.map backV))) { s with heap := sortedHeap (s1.heap.push (seqObj "list" out.toArray 0)) s1.heap.objs.size out out2.toArray, gens := s1.gens, drawn := s1.drawn, toks := s1.toks } :=
      I.call (ch := []) (Un.laid oldk grown hno) (I.hok.laid oldk grown ⟨by rw [List.length_map, hp.perm.length_eq]; exact hol, out2, e', L2.vals_back fun v hv => by
        obtain ⟨b, _, e⟩ := href v hv
        exact ⟨b.1, e⟩, he'⟩) (by rw [g1]; exact I.bare) (fun _ z => nomatch z)
    have qq := q (out2.map (adB H)) s1.heap.objs.size pk pw hno
    rw [← e1] at qq
    have same : ({ s1 with heap := sortedHeap (s1.heap.push (seqObj "list" out.toArray 0)) s1.heap.objs.size out out2.toArray } : Shared) = { s with heap := sortedHeap (s1.heap.push (seqObj "list" out.toArray 0)) s1.heap.objs.size out out2.toArray, gens := s1.gens, drawn := s1.drawn, toks := s1.toks } := by
      cases s1
      cases s
      cases o1
      rfl
    refine wpAny_pure ⟨_, rfl, .ref s1.heap.objs.size, _, ?_, rfl, qq⟩
    rw [← same] at J
    exact J
end
end DL

set_option Elab.async false
set_option maxRecDepth 100000
set_option maxHeartbeats 4000000
namespace DL
open PySem PySem.Spec PyProof.Rows L2
/-! ### {e for .. in .. for .. in ..}, e a bar -/
def elM (K : PySem.W.Frag) (P : Program) (w : World) (D : Addr) (te : TE) : L2.St → Hp → (Hp → Prop) → Prop := fun σ H Nx => te σ H fun y H7 => ∃ (a : Addr) (k : List Key) (L : List MEnt), y = .ref a ∧ H7 D = some (SetMO P w D L) ∧ SqT K H7 a (k.map kV) ∧ (∀ e ∈ L, SqT K H7 e.1 (e.2.map kV)) ∧ L.length + 1 < 64 ∧
  ∀ L2 : List MEnt, (k ∈ L.map (·.2) → L2 = L) → (k ∉ L.map (·.2) → L2.Perm ((a, k) :: L)) → Nx (upd H7 D (SetMO P w D L2))
def tScN (K : PySem.W.Frag) (P : Program) (w : World) (wi : TI) (g : TG) (tt : TT) (cs : List ClauseN) (te : TE) (vs : List Nat) : TE := fun σ H Q => wi σ H fun J H1 => ∀ D, H1 D = none → ReadN J (upd H1 D (SetMO P w D [])) g tt (elM K P w D te) cs vs σ fun H => Q (.ref D) H
section
variable {X : Cx}
theorem addM_ok {E : Value → Shared → Prop} {pins : List (Addr × Obj)} {σ : L2.St} {H : Hp} {s : Shared} {D a : Addr} {L : List MEnt} {k : List Key} {u : Value} {Q : Value → Shared → Prop} (I : Inv X pins σ H s) (hD : H D = some (SetMO X.prog X.w D L)) (hu : u = .ref a) (hk : SqT X.K H a (k.map kV)) (hL : ∀ e ∈ L, SqT X.K H e.1 (e.2.map kV)) (room : L.length + 1 < 64) (hA : X.A.units + 1 < cLine)
    (h : ∀ (L2 : List MEnt) (s' : Shared), (k ∈ L.map (·.2) → L2 = L) → (k ∉ L.map (·.2) → L2.Perm ((a, k) :: L)) → Inv X pins σ (upd H D (SetMO X.prog X.w D L2)) s' → Q .none s') : wpAny (model X.prog X.w) X.A (call (.builtin "set.add") [.ref D, u]) Q E s := by
  subst hu
  have S0 : SetM0 X.prog X.w s.heap D L := (I.hok D _ hD).1
  obtain ⟨es, ep, t, S⟩ := S0.whole fun e he => inv_mix I (hL e he)
  have hx := inv_mix I hk
  obtain ⟨o, g, cl, dt⟩ := S.obj
  refine wpAny_call_entry F.slot_set_add ⟨o, g, cl.1⟩ F.entry_set_add ?_ (F.args_set_add_2 _ _)
  unfold Builtin.«set.add» Builtin.Frozenset.oneOther
  simp only [List.isEmpty_nil, bind_assoc]
  unfold Builtin.Frozenset.addrOf setAdd
  refine wpAny_bind (wpAny_pure (wpAny_bind (wpAny_pure (wpAny_bind (wpAny_holding (wpAny_bind (wpAny_pyHash_tuple (by first | exact hA | exact Nat.lt_of_succ_lt hA | (show _ < _; omega)) hx ?_)))))))
  refine addM (s := { s with toks := s.toks + (k.length + 1) }) S hx (by first | exact Nat.lt_of_succ_lt hA | exact hA) room fun b h' L2 es2 ep2 t2 sb S2 c1 c2 => ?_
  obtain ⟨o2, g2, _⟩ := S2.obj
  refine wpAny_pure ⟨_, rfl, h L2 _ c1 c2 ?_⟩
  exact I.write (e := D) (t' := s.toks + (k.length + 1)) (by rw [hD]; trivial) (.inl rfl) (fun c z hc hz => (sb.2 c hc).trans hz) ⟨o2, g2⟩ (setMO_ok S2.bare)
theorem pe_scN {elt tg iter : Expr} {ifs : List Expr} {gs : List Comprehension} {scope : Scope} {own : List (PySem.Str × Nat)} {pos : Pos} {wi : TI} {g : TG} {tt : TT} {cs : List ClauseN} {te : TE} (calm : X.calm = true) (hA : X.A.units + 1 < cLine) (nd : X.N.Nodup) (hi : PI X tg iter wi) (blk : BlkOk X.N X.env.scope scope own)
    (hg : ∀ (s : Shared) (H : Hp) (C : Addr) (cl : List (PySem.Str × Addr)) (fp : List Addr), PG (X.blk s H scope (compEnvC scope cl C X.env) fp) tg g)
    (ht : ∀ (s : Shared) (H : Hp) (C : Addr) (cl : List (PySem.Str × Addr)) (fp : List Addr), PTs (X.blk s H scope (compEnvC scope cl C X.env) fp) ifs tt)
    (hcs : ∀ (s : Shared) (H : Hp) (C : Addr) (cl : List (PySem.Str × Addr)) (fp : List Addr), ClOk (X.blk s H scope (compEnvC scope cl C X.env) fp) gs cs) (nest : Nested cs) (hvs : ∀ i ∈ hv cs, i ∈ own.map (·.2))
    (he : ∀ (s : Shared) (H : Hp) (C : Addr) (cl : List (PySem.Str × Addr)) (fp : List Addr), PE (X.blk s H scope (compEnvC scope cl C X.env) fp) elt te) (fold : ∀ x, foldedSetIterable iter X.env x = pure x := by intro _; rfl) :
    PE X (.SetComp elt (⟨tg, iter, ifs, 0⟩ :: gs) scope pos) (tScN X.K X.prog X.w wi g tt cs te (own.map (·.2))) := by
  refine ⟨fun pins s σ H Q I0 want => ?_⟩
  rw [PpSet.eval_SetComp]
  have cells : ∀ y ∈ scope.names, y.2 = .free → ∃ c, X.env.cells.lookup y.1 = some c := fun y hy e => (blk.free y hy e).elim (fun k => I0.ok.has _ (.inl k)) fun k => I0.ok.has _ (.inr k)
  refine wpAny_comprehension_free rfl fold (closure_ok cells) blk.kind (fun y hy e => by rw [blk.uniq y hy, e]) (thn (hi.run pins s σ H _ I0 want) fun _ s1 made => thn made fun _ s2 walk => ?_)
  obtain ⟨it, fp, tn, J, Hw, rfl, Iw, T, st, fpok, q⟩ := walk
  refine PpSet.newSet_ok (newEnv_comp ?_)
  have noD : Hw s2.heap.objs.size = none := Iw.hok.fresh (Nat.le_refl _)
  have rd := q _ noD
  have IN : Inv X pins σ (upd Hw s2.heap.objs.size (SetMO X.prog X.w s2.heap.objs.size [])) { s2 with heap := s2.heap.push { cls := .type "set", dict := none, data := .set #[] 0 (.fresh 0 0 (!X.w.params.followText "set-order")) }, toks := s2.toks } :=
    Iw.laid (t' := s2.toks) (fun b o e => Heap.get?_push_of_some _ e) (Nat.le_refl _) (setMO_ok (setM_bare (P := X.prog) (w := X.w) (Heap.get?_push_size _ rfl)).bare)
  have old : ∀ b ∈ fp, b < s2.heap.objs.size := fun b hb => by
    obtain ⟨z, e, _⟩ := T.obj _ _ st b hb
    exact Heap.lt_size e
  have stN : tn 0 (s2.heap.push { cls := .type "set", dict := none, data := .set #[] 0 (.fresh 0 0 (!X.w.params.followText "set-order")) }) := T.keep _ _ _ st fun b _ z e => Heap.get?_push_of_some _ e
  have fpN : ∀ b ∈ fp, FpOk X pins (upd Hw s2.heap.objs.size (SetMO X.prog X.w s2.heap.objs.size [])) b ∧ b < (s2.heap.push { cls := .type "set", dict := none, data := .set #[] 0 (.fresh 0 0 (!X.w.params.followText "set-order")) }).objs.size := fun b hb => by
    have lt := old b hb
    exact ⟨⟨by rw [upd_ne (Nat.ne_of_lt lt)]; exact (fpok b hb).1, (fpok b hb).2⟩, by rw [Heap.size_push]; exact Nat.lt_succ_of_lt lt⟩
  refine coreN (st := true) (sN := { s2 with heap := s2.heap.push { cls := .type "set", dict := none, data := .set #[] 0 (.fresh 0 0 (!X.w.params.followText "set-order")) } }) calm nd blk hg ht hcs nest hvs (el := elM X.K X.prog X.w s2.heap.objs.size te) ?_ IN T stN fpN rd
  intro s3 H3 C cl fp3 d pins3 σ3 s4 H4 Nx hn I4 h4
  refine emitS hn (thnF ((he s3 H3 C cl fp3).run _ s4 σ3 H4 _ I4 h4) fun z s5 ⟨y, H5, I5, r5, a, k, L, ey, hD5, hk5, hL5, room, nx⟩ => ?_)
  subst ey
  obtain rfl : z = .ref a := r5
  exact addM_ok (X := X.blk s3 H3 scope (compEnvC scope cl C X.env) fp3) I5 hD5 rfl hk5 hL5 room hA fun L2 s6 c1 c2 I6 => ⟨_, I6, nx L2 c1 c2⟩
end
end DL

set_option Elab.async false
set_option maxRecDepth 100000
set_option maxHeartbeats 2000000
namespace DL
open PySem PySem.Spec PyProof.Rows L2
section
variable {X : Cx}
def rSetSJ (P : Program) (w : World) : List V → Hp → VK → Prop := fun vs H Q => ∃ (a : Addr) (ns : List Int), vs = [V.ref a] ∧ H a = some (SetWO P w a (ns.map Sum.inl)) ∧
  ∀ (ns' : List Int) (p : Addr), ns'.Perm ns → ns'.Pairwise (· ≤ ·) → H p = none → Q (.ref p) (upd H p (.lst (ns'.map V.int)))
theorem cr_setSJ (calm : X.calm = true) : CallR X (.builtin "sorted") (rSetSJ X.prog X.w) := by
  intro pins s σ H vs us Q I r h
  obtain ⟨a, ns, rfl, ha, q⟩ := h
  rw [Vals.ref1 r]
  obtain ⟨o, es, ep, t, ho, hx, hd, hp, nd, few, hf, hr, hl⟩ := (setW_at I ha).h
  refine Calls.call_function_entry PyProof.Rows.kind_sorted PyProof.Rows.plain_sorted PyProof.Rows.entry_sorted (PyProof.Rows.args_sorted1 _) ?_
  unfold Builtin.«sorted»
  refine wpAny_bind (m := checkCount "sorted" 1 1 _) (wpAny_pure ?_)
  refine wpAny_bind (collect_set (A := X.A.in1) (I.ok.hd calm) ⟨o, ho, hx.1, hd⟩ hf (by rw [size_of hp]; exact few) hr hl fun s1 out keeps grown g1 o1 pm => ?_)
  obtain ⟨L2, p2, v2⟩ := vals_back (rows_vals hp) pm.symm
  obtain ⟨ns0, rfl, pn⟩ := perm_inl p2
  have v3 : Vals (ns0.map V.int) out := by
    rw [List.map_map] at v2
    exact v2
  have hI : IntsAre out ns0 := v3.ints
  have hol : out.length ≤ sizeLine := by
    have := v3.length
    rw [List.length_map, pn.length_eq] at this
    rw [List.length_map] at few
    have h2 : scanBound ≤ sizeLine := by decide
    omega
  refine wpAny_bind (wpAny_newList ?_ hol)
  have hoL : (s1.heap.push (seqObj "list" out.toArray 0)).get? s1.heap.objs.size = some (seqObj "list" out.toArray 0) := Heap.get?_push_size _ rfl
  refine wpAny_bind (wpAny_holding (wpAny_call_entry PyProof.Rows.slot_list_sort ⟨_, hoL, rfl⟩ PyProof.Rows.entry_list_sort (PyProof.Rows.list_sort_treeAny hoL hI hol fun arr ns' a1 a2 a3 => ⟨_, rfl, ?_⟩) (PyProof.Rows.args_list_sort _)))
  obtain ⟨e', he'⟩ := PyProof.Rows.sortedHeap_at (vs := out) (out := arr) hoL
  have hno : H s1.heap.objs.size = none := I.hok.fresh grown
  have oldk : ∀ b z, s.heap.get? b = some z → (sortedHeap (s1.heap.push (seqObj "list" out.toArray 0)) s1.heap.objs.size out arr).get? b = some z := fun b z e => by
    have e1 := keeps b z e
    have lt := Heap.lt_size e1
    rw [PyProof.Rows.sortedHeap_old (Nat.ne_of_lt lt) (by rw [size_push']; exact Nat.lt_succ_of_lt lt)]
    exact Heap.get?_push_of_some _ e1
  have hle : (ns'.map V.int).length ≤ sizeLine := by
    rw [List.length_map, a2.length_eq, pn.length_eq]
    rw [List.length_map] at few
    have h2 : scanBound ≤ sizeLine := by decide
    omega
  have J : Inv X pins σ (upd H s1.heap.objs.size (.lst (ns'.map V.int))) { s with heap := sortedHeap (s1.heap.push (seqObj "list" out.toArray 0)) s1.heap.objs.size out arr, gens := s1.gens, drawn := s1.drawn, toks := s1.toks } :=
    I.call (ch := []) (Un.laid oldk grown hno) (I.hok.laid oldk grown ⟨hle, arr.toList, e', vals_of_ints a1, he'⟩) (by rw [g1]; exact I.bare) (fun _ z => nomatch z)
  have same : ({ s1 with heap := sortedHeap (s1.heap.push (seqObj "list" out.toArray 0)) s1.heap.objs.size out arr } : Shared) = { s with heap := sortedHeap (s1.heap.push (seqObj "list" out.toArray 0)) s1.heap.objs.size out arr, gens := s1.gens, drawn := s1.drawn, toks := s1.toks } := by
    cases s1
    cases s
    cases o1
    rfl
  refine wpAny_pure ⟨_, rfl, .ref s1.heap.objs.size, _, ?_, rfl, q ns' _ (a2.trans pn) a3 hno⟩
  rw [← same] at J
  exact J
end
end DL

set_option Elab.async false
set_option maxRecDepth 100000
namespace DL
open PySem L2 HT TL RZ
/-! ### the first row that parts two cabinets -/
def diffD (b1 b2 : List Bar) (st : List Bool) : Option Int := (drs st.length).find? fun d => goesB b1 st d != goesB b2 st d
def apartE (b1 b2 : List Bar) : List Ent → Option (List Int)
  | [] => none
  | e :: es => match diffD b1 b2 e.1 with
    | some d => some (e.2 ++ [d])
    | none => apartE b1 b2 es
def InR (n : Nat) (r : List Int) : Prop := ∀ d ∈ r, 0 ≤ d ∧ d < n
theorem drs_mem {n : Nat} {d : Int} : d ∈ drs n ↔ 0 ≤ d ∧ d < n := by
  unfold drs
  constructor
  · intro h
    obtain ⟨i, hi, rfl⟩ := List.mem_map.mp h
    have := List.mem_range.mp hi
    omega
  · intro h
    exact List.mem_map.mpr ⟨d.toNat, List.mem_range.mpr (by omega), by omega⟩
theorem diff_none {b1 b2 : List Bar} {st : List Bool} (h : diffD b1 b2 st = none) {d : Int} (h0 : 0 ≤ d) (h1 : d < st.length) : goesB b1 st d = goesB b2 st d := by
  unfold diffD at h
  rw [List.find?_eq_none] at h
  have := h d (drs_mem.mpr ⟨h0, h1⟩)
  simpa using this
theorem apart_none' {b1 b2 : List Bar} : ∀ {es : List Ent}, apartE b1 b2 es = none → ∀ e ∈ es, diffD b1 b2 e.1 = none
  | [], _, e, he => by cases he
  | a :: es, h, e, he => by
    unfold apartE at h
    cases q : diffD b1 b2 a.1 with
    | some d => rw [q] at h; cases h
    | none =>
      rw [q] at h
      rcases List.mem_cons.mp he with rfl | he
      · exact q
      · exact apart_none' h e he
theorem apart_none_of {b1 b2 : List Bar} : ∀ {es : List Ent}, (∀ e ∈ es, diffD b1 b2 e.1 = none) → apartE b1 b2 es = none
  | [], _ => rfl
  | a :: es, h => by
    unfold apartE
    rw [h a List.mem_cons_self]
    exact apart_none_of fun e he => h e (List.mem_cons_of_mem _ he)
section
variable {b1 b2 : List Bar} {s0 : List Bool} {es : List Ent}
theorem InR.init {n : Nat} {r : List Int} {d : Int} (h : InR n (r ++ [d])) : InR n r ∧ 0 ≤ d ∧ d < n := ⟨fun x hx => h x (List.mem_append_left _ hx), h d (List.mem_append_right _ (List.mem_singleton.mpr rfl))⟩
theorem InR.low {n : Nat} {r : List Int} (h : InR n r) (h7 : n ≤ 7) : Low7 r := fun d hd => by
  have := h d hd
  omega
theorem run_step {r : List Int} {d : Int} (e : runB b1 s0 r = runB b2 s0 r) (h : ∀ st, runB b1 s0 r = some st → goesB b1 st d = goesB b2 st d) : runB b1 s0 (r ++ [d]) = runB b2 s0 (r ++ [d]) := by
  rw [runB_snoc, runB_snoc, ← e]
  cases q : runB b1 s0 r with
  | none => rfl
  | some st => rw [Option.bind_some, Option.bind_some, h st q]
theorem apart_none (I : BI b1 s0 es.length es) (h7 : s0.length ≤ 7) (h : apartE b1 b2 es = none) : ∀ r, InR s0.length r → runB b1 s0 r = runB b2 s0 r := by
  intro r
  refine snoc_ind (p := fun (r : List Int) => InR s0.length r → runB b1 s0 r = runB b2 s0 r) (fun _ => rfl) (fun l d ih hr => ?_) r
  obtain ⟨h1, h2, h3⟩ := hr.init
  refine run_step (ih h1) fun st hst => ?_
  obtain ⟨e, he, e1, _⟩ := I.opt h7 l h1 st hst
  have := apart_none' h e he
  rw [e1] at this
  refine diff_none this h2 ?_
  rw [← e1, (I.led e he).2.2]
  exact h3
end
end DL

set_option Elab.async false
set_option maxRecDepth 100000

set_option Elab.async false
set_option maxRecDepth 100000
namespace DL
open PySem L2 HT TL RZ
theorem op_notInDK {X : Cx} {K : PySem.W.Frag} (hK : X.K = K) (hu : X.A.units + 65 < cLine) : OpR X (compareOp .NotIn) (rNotInD K) := by subst hK; exact op_notInD hu
/-! ### == of bars as data -/
theorem eqv_bar (a b : Bar) : PyData.eqv (barD a) (barD b) = decide (a = b) := by
  have e : PyData.eqv (barD a) (barD b) = ((a.d == b.d) && (decide (a.w = b.w) && ((a.o == b.o) && decide (a.t = b.t)))) := by
    unfold barD
    simp [PyData.eqv, PyData.eqvAll, wd_beq]
  rw [e, Bool.eq_iff_iff]
  cases a
  cases b
  simp
theorem eqv_barsT : ∀ a b : List Bar, PyData.eqvAll (a.map barD) (b.map barD) = decide (a = b)
  | [], [] => by simp [PyData.eqvAll]
  | [], _ :: _ => by simp [PyData.eqvAll]
  | _ :: _, [] => by simp [PyData.eqvAll]
  | x :: a, y :: b => by
    have ih := eqv_barsT a b
    simp only [List.map_cons, PyData.eqvAll]
    rw [eqv_bar, ih, Bool.eq_iff_iff]
    simp
theorem eqv_barsL (a b : List Bar) : PyData.eqv (.list (a.map barD)) (.list (b.map barD)) = decide (a = b) := by
  simp only [PyData.eqv]
  exact eqv_barsT a b
/-! ### the bars against each pull that does not go -/
def needE (ks : List (Addr × Bar)) (n : Nat) (st : List Bool) : List (List (Addr × Bar)) := ((drs n).map fun d => ks.filter fun k => hind k.2 st d).filter fun l => !l.isEmpty
structure NeedsAt (H : Hp) (x : Addr) (ks : List (Addr × Bar)) (gs : List (Addr × List (Addr × Bar))) : Prop where
  el : ∀ g ∈ gs, H g.1 = some (.lst (g.2.map fun k => V.ref k.1)) ∧ g.1 ≠ x ∧ ∀ k ∈ g.2, k ∈ ks
theorem NeedsAt.same {H H' : Hp} {x : Addr} {ks : List (Addr × Bar)} {gs : List (Addr × List (Addr × Bar))} (N : NeedsAt H x ks gs) (s : Same H H') : NeedsAt H' x ks gs := ⟨fun g hg => ⟨s _ _ (N.el g hg).1, (N.el g hg).2⟩⟩
structure spBarredP (C : Addr) (vs : List V) (H : Hp) (Q : VK) (_ : XK) : Prop where
  h : ∃ (c t : Addr) (ks : List (Addr × Bar)) (n : Nat), vs = [.ref c] ∧ CabAt C H c n t ∧ BarsAt H t ks ∧ OkBars n (ks.map (·.2)) ∧ 1 ≤ n ∧ n ≤ 7 ∧ ks.length ≤ 100 ∧
    ∀ (p : Addr) (es : List Ent) (gs : List (Addr × List (Addr × Bar))) (H' : Hp), Same H H' → H p = none → H' p = some (.lst (gs.map fun g => V.ref g.1)) → NeedsAt H' p ks gs → BI (ks.map (·.2)) (shutS n) es.length es →
      gs.map (·.2) = es.flatMap (fun e => needE ks n e.1) → gs.length ≤ 900 → Q (.ref p) H'
theorem drs_take {n j : Nat} (h : j < n) {α : Type} (f : Int → α) (p : α → Bool) : (((drs n).take (j + 1)).map f).filter p = if p (f (j : Int)) = true then (((drs n).take j).map f).filter p ++ [f (j : Int)] else (((drs n).take j).map f).filter p := by
  rw [List.take_succ_eq_append_getElem (by rw [drs_len]; exact h), List.map_append, List.filter_append]
  have e : (drs n)[j]'(by rw [drs_len]; exact h) = (j : Int) := (List.getElem?_eq_some_iff.mp (drs_get h)).2
  rw [e]
  by_cases q : p (f (j : Int)) = true
  · rw [if_pos q, List.map_cons, List.map_nil, List.filter_cons, if_pos q]
    rfl
  · rw [if_neg q, List.map_cons, List.map_nil, List.filter_cons, if_neg q, List.filter_nil, List.append_nil]
section
variable {P : Program} {w : World} {K : PySem.W.Frag} {mg : Str → Option Value} {base : Heap}
abbrev nBP : List Str := ["cabinet", "barred", "standing", "drawer", "against"]
theorem scBP : FnScope nBP ["cabinet"] (defScope s_barred_pulls) := ⟨rfl, rfl, rfl, by decide +kernel, rfl, by decide +kernel, by decide +kernel⟩
theorem ok_barredP {f f1 f2 C : Addr} {fd fd1 fd2 : FuncData} (F : Fun K "barred_pulls" "barred_pulls" s_barred_pulls f fd) (T : Bt mg) (CP : CabP P w K mg base C)
    (G1 : FnOk P w K mg base CX0 12 f1 fd1 ["cabinet"] (spFirstRows C)) (g1 : mg "first_rows" = some (.ref f1)) (k1 : PySem.W.keepIn K (.ref f1) = true) (b1 : Binds K fd1 ["cabinet"] [])
    (G2 : FnOk P w K mg base CX0 4 f2 fd2 ["cabinet", "standing", "drawer"] (spBarring C)) (g2 : mg "bars_against" = some (.ref f2)) (k2 : PySem.W.keepIn K (.ref f2) = true) (b2 : Binds K fd2 ["cabinet", "standing", "drawer"] []) :
    FnOk P w K mg base CX0 14 f fd ["cabinet"] (spBarredP C) := by
  refine F.ok scBP (fun vs H Q E h => ?_) (fun cdv A outer s H vs Q E hr h => ?_)
  · obtain ⟨c, t, ks, n, rfl, _⟩ := h.h
    rfl
  · obtain ⟨c, t, ks, n, rfl, ⟨dx, hc⟩, hB, O, n1, n7, n100, k⟩ := h.h
    obtain ⟨pD, gD, fdD, hpD, GD, bD⟩ := CP.d
    refine ⟨_, pss_cons (ps_set (i := 1) scBP.nd rfl (Or.inl rfl) (pe_lst pa_nil))
      (pss_cons (ps_for PassesOwn.never rfl (pi_keys (pe_frz (pe_call G1 (hr.mono (by decide)) rfl g1 k1 b1 .nil pass0 (pa_cons (pv 0) pa_nil)))) (pg_name (i := 2) scBP.nd rfl (Or.inl rfl))
        (pss_one (ps_for PassesOwn.never rfl (pi_range1 (by rfl) T.range (pa_cons (pe_prop (pv 0) CP.cl hpD GD (hr.mono (by decide)) bD .nil pass0 rfl) pa_nil)) (pg_name (i := 3) scBP.nd rfl (Or.inl rfl))
          (pss_cons (ps_set (i := 4) scBP.nd rfl (Or.inl rfl) (pe_call G2 (hr.mono (by decide)) rfl g2 k2 b2 .nil pass0 (pa_cons (pv 0) (pa_cons (pv 2) (pa_cons (pv 3) pa_nil)))))
          (pss_one (ps_if (pt_truth (pv 4) (by intro _; rfl)) (pss_one (ps_expr (pe_bm PySem.F.plainAttrs_list PySem.F.slot_list_append PySem.F.type_list_append mt_append (pv 1) (pa_cons (pv 4) pa_nil)))) pss_nil))))))
      (pss_one (ps_ret (pv 1)))), ?_⟩
    refine ⟨(by show 0 ≤ sizeLine; decide), fun Bd hBd => ?_⟩
    obtain ⟨sb, fb⟩ := new_at (o := .lst []) hBd
    generalize upd H Bd (.lst []) = H0 at sb fb ⊢
    have hc0 := sb _ _ hc
    refine ⟨_, rfl, ⟨⟨c, ks.map (·.2), n, rfl, ⟨⟨t, ks, ⟨dx, hc0⟩, hB.same sb, rfl, O, by omega, by omega, by rw [List.length_map]; exact n100⟩⟩, fun a rs H1 ha s1 hA hE I => ?_⟩⟩⟩
    have hshut : (shutS n).length = n := List.length_replicate
    have hfew : rs.length ≤ 128 := by
      have := led_few I.nd I.led (by rw [hshut]; omega)
      rw [List.length_map] at this
      exact this
    refine ⟨a, _, rfl, hA, trivial, fun od => ?_⟩
    obtain ⟨s2, R2⟩ := rows_lock od ha s1 hA hE
    generalize (upd H1 a (.frz od (.dK (kvsOf rs)))) = H2 at s2 R2 ⊢
    have fb2 := s2 _ _ fb
    have I' : BI (ks.map (·.2)) (shutS n) (rs.map (·.2)).length (rs.map (·.2)) := by rw [List.length_map]; exact I
    have ncB : ∀ {H' : Hp} {b : Addr} {o : HO}, H' b = some o → H' Bd = some (.lst []) → (∀ xs, o ≠ .lst xs) → b ≠ Bd := fun hb hx hn => ne_of hb hx (hn _)
    have hcB : c ≠ Bd := ne_of hc0 fb (by intro z; cases z)
    refine ⟨a, od, rfl, .inl ⟨_, R2.at', ?_⟩⟩
    refine for_it walk_keysE (fun i σ H' => ∃ (u2 u3 u4 : Option V) (gs : List (Addr × List (Addr × Bar))), σ = [some (.ref c), some (.ref Bd), u2, u3, u4] ∧ But Bd H2 H' ∧ H' Bd = some (.lst (gs.map fun g => V.ref g.1)) ∧ NeedsAt H' Bd ks gs ∧
        gs.map (·.2) = ((rs.take i).map (·.2)).flatMap (fun e => needE ks n e.1) ∧ gs.length ≤ 7 * i) ⟨_, _, _, [], rfl, But.refl _ _, fb2, ⟨fun g hg => by cases hg⟩, rfl, Nat.le_refl _⟩ (fun i σ H' _ ⟨_, _, _, _, _, B3, _⟩ => (R2.but2 fb2 B3).at') ?_ ?_
    · rintro i x σ H3 H4 hi ⟨u2, u3, u4, gs, rfl, B3, hBd3, N3, e3, l3⟩ ⟨rfl, kk, ek, rfl⟩
      have hm : kk ∈ rs := List.mem_of_getElem? ek
      have hkl : kk.2.1.length = n := by rw [(I.led kk.2 (List.mem_map.mpr ⟨kk, hm, rfl⟩)).2.2, hshut]
      have hc3 := B3 _ _ hcB (s2 _ _ hc0)
      refine ⟨_, rfl, c, dx, _, rfl, hc3, ⟨⟨c, dx, _, t, rfl, hc3, _, rfl, by omega, by omega, ?_⟩⟩⟩
      rw [Int.toNat_natCast]
      refine for_range (lo := 0) (n := n) (fun j σ H' => ∃ (u3 u4 : Option V) (gs : List (Addr × List (Addr × Bar))), σ = [some (.ref c), some (.ref Bd), some (.str (sstr kk.2.1)), u3, u4] ∧ But Bd H2 H' ∧ H' Bd = some (.lst (gs.map fun g => V.ref g.1)) ∧ NeedsAt H' Bd ks gs ∧
          gs.map (·.2) = ((rs.take i).map (·.2)).flatMap (fun e => needE ks n e.1) ++ (((drs n).take j).map fun d => ks.filter fun k => hind k.2 kk.2.1 d).filter (fun l => !l.isEmpty) ∧ gs.length ≤ 7 * i + j)
        ⟨_, _, gs, rfl, B3, hBd3, N3, by rw [e3, List.take_zero, List.map_nil, List.filter_nil, List.append_nil], l3⟩ ?_ ?_
      · rintro j σ H5 hj ⟨w3, w4, fs, rfl, B5, hBd5, N5, e5, l5⟩
        have ej : (0 : Int) + (j : Nat) = (j : Int) := by omega
        have hc5 := B5 _ _ hcB (s2 _ _ hc0)
        have hB2 := (hB.same sb).same s2
        have hB5 : BarsAt H5 t ks := ⟨B5.tupL fb2 hB2.tu, fun k hk => B5.tupL fb2 (hB2.el k hk)⟩
        refine ⟨_, rfl, _, rfl, _, rfl, ⟨⟨c, t, ks, kk.2.1, (0 : Int) + (j : Nat), rfl, by rw [hkl]; exact ⟨dx, hc5⟩, hB5, by rw [hkl]; exact O, by omega, n100, by omega, by omega, fun q H6 hq s6 h6 => ?_⟩⟩⟩
        rw [ej] at h6
        refine ⟨_, rfl, _, .inl ⟨_, SqL.of h6, rfl⟩, ?_⟩
        have B6 := B5.trans (sbut s6)
        have hBd6 := s6 _ _ hBd5
        have N6 := N5.same s6
        have tk := drs_take hj (fun d => ks.filter fun k => hind k.2 kk.2.1 d) (fun l => !l.isEmpty)
        have hmt : ((ks.filter fun k => hind k.2 kk.2.1 j).map fun k => V.ref k.1).isEmpty = (ks.filter fun k => hind k.2 kk.2.1 j).isEmpty := by
          cases ks.filter fun k => hind k.2 kk.2.1 j <;> rfl
        rw [hmt]
        have hqB : q ≠ Bd := fun z => by rw [z, hBd5] at hq; cases hq
        cases em : !(ks.filter fun k => hind k.2 kk.2.1 j).isEmpty with
        | false =>
          refine iteF ⟨_, _, fs, rfl, B6, hBd6, N6, ?_, by omega⟩
          rw [tk, if_neg (by rw [em]; exact Bool.false_ne_true)]
          exact e5
        | true =>
          refine iteT ⟨_, rfl, .inl ⟨rfl, _, SqL.of hBd6⟩, _, rfl, Bd, _, _, rfl, rfl, hBd6, by rw [List.length_map]; exact small1000 (by omega), ?_⟩
          refine ⟨_, _, fs ++ [(q, ks.filter fun k => hind k.2 kk.2.1 j)], rfl, fun b o hb eb => ?_, ?_, ⟨fun g hg => ?_⟩, ?_, by rw [List.length_append]; show fs.length + 1 ≤ _; omega⟩
          · rw [upd_ne hb]
            exact B6 _ _ hb eb
          · rw [upd_same, List.map_append]
            rfl
          · rcases List.mem_append.mp hg with hg | hg
            · obtain ⟨z1, z2, z3⟩ := N6.el g hg
              exact ⟨by rw [upd_ne z2]; exact z1, z2, z3⟩
            · rw [List.mem_singleton.mp hg]
              exact ⟨by rw [upd_ne hqB]; exact h6, hqB, fun k hk => (List.mem_filter.mp hk).1⟩
          · rw [tk, if_pos em, List.map_append, e5, List.append_assoc]
            rfl
      · rintro σ H5 ⟨w3, w4, fs, rfl, B5, hBd5, N5, e5, l5⟩
        refine ⟨_, _, _, fs, rfl, B5, hBd5, N5, ?_, by omega⟩
        have e9 : (drs n).take n = drs n := List.take_of_length_le (by rw [drs_len]; exact Nat.le_refl _)
        rw [e9] at e5
        have : rs.take (i + 1) = rs.take i ++ [kk] := by
          obtain ⟨hil, e'⟩ := List.getElem?_eq_some_iff.mp ek
          rw [List.take_succ_eq_append_getElem hil, e']
        rw [e5, this, List.map_append, List.flatMap_append, List.map_cons, List.map_nil, List.flatMap_cons, List.flatMap_nil, List.append_nil]
        rfl
    · rintro σ H3 ⟨u2, u3, u4, gs, rfl, B3, hBd3, N3, e3, l3⟩
      rw [List.take_length] at e3
      refine ⟨_, rfl, k Bd (rs.map (·.2)) gs H3 (fun b o eb => ?_) hBd hBd3 N3 I' e3 (by omega)⟩
      exact B3 _ _ (ne_of_none eb hBd) (s2 _ _ (sb _ _ eb))
end
end DL

set_option Elab.async false
set_option maxRecDepth 100000
set_option maxHeartbeats 2000000
namespace DL
open PySem L2 HT TL
instance : Inhabited Bar := ⟨⟨0, false, 0, false⟩⟩
/-- the code of a bar, its other drawer brought within 0 to 7 -/
def Bar.cc (b : Bar) : Int := ((b.d * 2 + b2n b.w) * 8 + max 0 (min b.o 7)) * 2 + b2n b.t
theorem Bar.cc_low {b : Bar} (h : b.low) : b.cc = b.code := by
  unfold Bar.cc Bar.code
  unfold Bar.low at h
  rw [show max 0 (min b.o 7) = b.o by omega]
abbrev NEnt := Addr × List (Addr × Bar)
/-- at l a list of needs: lists of bars -/
structure NdsAt (H : Hp) (l : Addr) (ns : List NEnt) : Prop where
  at' : H l = some (.lst (ns.map fun n => V.ref n.1))
  el : ∀ n ∈ ns, H n.1 = some (.lst (n.2.map fun b => V.ref b.1))
  bar : ∀ n ∈ ns, ∀ b ∈ n.2, H b.1 = some (.tup b.2.vs)
theorem NdsAt.same {H H' : Hp} {l : Addr} {ns : List NEnt} (N : NdsAt H l ns) (s : Same H H') : NdsAt H' l ns := ⟨s _ _ N.at', fun n hn => s _ _ (N.el n hn), fun n hn b hb => s _ _ (N.bar n hn b hb)⟩
def nsB (ns : List NEnt) : List (List Bar) := ns.map fun n => n.2.map (·.2)
/-- bars that ascend, one at least, of small numbers -/
structure NeedOk (n : List Bar) : Prop where
  ne : n ≠ []
  asc : n.Pairwise fun a b => a.code < b.code
  low : ∀ b ∈ n, b.low
theorem NeedOk.nd {n : List Bar} (h : NeedOk n) : n.Nodup := h.asc.imp fun {a b} h z => by
  rw [z] at h
  omega
structure spMeets (K : PySem.W.Frag) (vs : List V) (H : Hp) (Q : VK) (_ : XK) : Prop where
  h : ∃ (c : Int) (l : Addr) (ms : List Int), vs = [.int c, .ref l] ∧ SqL K H l (ms.map V.int) ∧ Q (.bl (ms.all fun m => decide (Builtin.bitAnd c m ≠ 0))) H
structure spGroup (K : PySem.W.Frag) (vs : List V) (H : Hp) (Q : VK) (_ : XK) : Prop where
  h : ∃ (l : Addr) (ns : List NEnt) (U0 : List Bar), vs = [.ref l] ∧ NdsAt H l ns ∧ ns.length ≤ 1000 ∧ (∀ n ∈ ns, NeedOk (n.2.map (·.2)) ∧ ∀ b ∈ n.2, b.2 ∈ U0) ∧ U0.length ≤ 60 ∧
    ∀ (p : Addr) (R : List (Addr × Bar)) (H' : Hp), Same H H' → H' p = some (.lst (R.map fun b => V.ref b.1)) → (∀ b ∈ R, H' b.1 = some (.tup b.2.vs)) → Least Bar.cc (nsB ns) (R.map (·.2)) → Q (.ref p) H'
theorem mt_indexDK {X : Cx} {K : PySem.W.Frag} (hK : X.K = K) (hu : X.A.units + 65 < cLine) : MtR X "list.index" (rIndexD K) := by subst hK; exact mt_indexD hu
theorem cr_sumK {X : Cx} {K : PySem.W.Frag} (hK : X.K = K) (hc : X.calm = true) : CallR X (.builtin "sum") (rSum K) := by subst hK; exact cr_sum hc
theorem boot_sumK : bootBuiltins "sum" = some (.builtin "sum") := by decide +kernel
theorem keyedL {cs : List (Addr × Bar)} : ∀ {L : List MEnt}, (∀ e ∈ L, e ∈ cs.map fun b => (b.1, b.2.key)) → ∃ bs : List (Addr × Bar), L = bs.map (fun b => (b.1, b.2.key)) ∧ ∀ b ∈ bs, b ∈ cs
  | [], _ => ⟨[], rfl, fun b hb => (by cases hb)⟩
  | e :: L, h => by
    obtain ⟨bs, e1, h1⟩ := keyedL (L := L) fun d hd => h d (List.mem_cons_of_mem _ hd)
    obtain ⟨b, hb, e2⟩ := List.mem_map.mp (h e List.mem_cons_self)
    refine ⟨b :: bs, by rw [List.map_cons, ← e1, e2], fun d hd => ?_⟩
    rcases List.mem_cons.mp hd with rfl | hd
    · exact hb
    · exact h1 d hd
theorem nd_leL {α : Type} [DecidableEq α] : ∀ {L rs : List α}, L.Nodup → (∀ x ∈ L, x ∈ rs) → L.length ≤ rs.length
  | [], _, _, _ => Nat.zero_le _
  | a :: L, rs, nd, h => by
    rw [List.nodup_cons] at nd
    have ha := h a List.mem_cons_self
    have := nd_leL (rs := rs.erase a) nd.2 fun x hx => (List.mem_erase_of_ne (fun e : x = a => nd.1 (by rw [← e]; exact hx))).mpr (h x (List.mem_cons_of_mem _ hx))
    rw [List.length_erase_of_mem ha] at this
    have : 0 < rs.length := List.length_pos_of_mem ha
    rw [List.length_cons]
    omega
/-- what one more bar makes of a set of bars -/
theorem addB {L : List (Addr × Bar)} {b : Addr × Bar} {L2 : List MEnt} (nd : (L.map (·.2)).Nodup) (c1 : b.2.key ∈ (L.map fun b => (b.1, b.2.key)).map (·.2) → L2 = L.map fun b => (b.1, b.2.key)) (c2 : b.2.key ∉ (L.map fun b => (b.1, b.2.key)).map (·.2) → L2.Perm ((b.1, b.2.key) :: L.map fun b => (b.1, b.2.key))) :
    ∃ L' : List (Addr × Bar), L2 = L'.map (fun b => (b.1, b.2.key)) ∧ (L'.map (·.2)).Nodup ∧ (∀ x ∈ L', x ∈ L ∨ x = b) ∧ (∀ x ∈ L.map (·.2), x ∈ L'.map (·.2)) ∧ b.2 ∈ L'.map (·.2) := by
  have ek : (L.map fun b => (b.1, b.2.key)).map (·.2) = (L.map (·.2)).map Bar.key := by rw [List.map_map, List.map_map]; rfl
  by_cases q : b.2 ∈ L.map (·.2)
  · refine ⟨L, c1 ?_, nd, fun x hx => .inl hx, fun x hx => hx, q⟩
    rw [ek]
    exact List.mem_map_of_mem q
  · have h2 := c2 (by
      rw [ek]
      intro z
      obtain ⟨x, hx, e⟩ := List.mem_map.mp z
      exact q (Bar.key_inj e ▸ hx))
    obtain ⟨L', e, sub⟩ := keyedL (cs := b :: L) (L := L2) fun e he => by
      have := h2.mem_iff.mp he
      rw [List.map_cons]
      exact this
    have hp : (L'.map (·.2.key)).Perm ((b :: L).map (·.2.key)) := by
      have := h2.map (·.2)
      rw [e, List.map_map, List.map_cons, List.map_map] at this
      exact this
    have ndk : (L'.map (·.2.key)).Nodup := by
      rw [hp.nodup_iff, List.map_cons, List.nodup_cons]
      refine ⟨fun z => ?_, ?_⟩
      · obtain ⟨x, hx, e⟩ := List.mem_map.mp z
        exact q (Bar.key_inj e ▸ List.mem_map_of_mem (f := (·.2)) hx)
      · have : L.map (·.2.key) = (L.map (·.2)).map Bar.key := by rw [List.map_map]; rfl
        rw [this]
        exact List.Pairwise.map _ (fun a b h z => h (Bar.key_inj z)) nd
    have ndB : (L'.map (·.2)).Nodup := by
      have : L'.map (·.2.key) = (L'.map (·.2)).map Bar.key := by rw [List.map_map]; rfl
      rw [this] at ndk
      exact List.Pairwise.of_map _ (fun a b h z => h (by rw [z])) ndk
    refine ⟨L', e, ndB, fun x hx => ?_, fun x hx => ?_, ?_⟩
    · rcases List.mem_cons.mp (sub x hx) with h | h
      · exact .inr h
      · exact .inl h
    · obtain ⟨y, hy, rfl⟩ := List.mem_map.mp hx
      have : y.2.key ∈ L'.map (·.2.key) := hp.mem_iff.mpr (List.mem_map_of_mem (f := fun b : Addr × Bar => b.2.key) (List.mem_cons_of_mem _ hy))
      obtain ⟨z, hz, ez⟩ := List.mem_map.mp this
      exact List.mem_map.mpr ⟨z, hz, Bar.key_inj ez⟩
    · have : b.2.key ∈ L'.map (·.2.key) := hp.mem_iff.mpr (List.mem_map_of_mem (f := fun b : Addr × Bar => b.2.key) List.mem_cons_self)
      obtain ⟨z, hz, ez⟩ := List.mem_map.mp this
      exact List.mem_map.mpr ⟨z, hz, Bar.key_inj ez⟩
theorem idx_first {U : List Bar} {b : Bar} {m : Nat} {z : Bar} (h : m < U.idxOf b) (hz : U[m]? = some z) : z ≠ b := by
  induction U generalizing m with
  | nil => cases hz
  | cons a U ih =>
    rw [List.idxOf_cons] at h
    by_cases q : a = b
    · subst q
      simp at h
    · cases m with
      | zero =>
        cases hz
        exact q
      | succ m =>
        have q' : (a == b) = false := by simpa using q
        rw [q'] at h
        exact ih (by simpa using h) hz
theorem sum_pow (c : List Nat) : (c.map fun (i : Nat) => (1 : Int) * 2 ^ ((i : Int)).toNat).sum = (powS c : Nat) := by
  induction c with
  | nil => rfl
  | cons i c ih =>
    rw [List.map_cons, List.sum_cons, ih]
    show (1 : Int) * 2 ^ i + ((powS c : Nat) : Int) = ((2 ^ i + powS c : Nat) : Int)
    rw [Int.one_mul, Int.natCast_add, Int.natCast_pow]
    rfl
theorem and_pos (a b : Nat) : (Builtin.bitAnd (a : Int) (b : Int) ≠ 0) ↔ a &&& b ≠ 0 := by
  have e : Builtin.bitAnd (a : Int) (b : Int) = ((a &&& b : Nat) : Int) := by
    unfold Builtin.bitAnd
    simp
  rw [e]
  omega
def idxs (U : List Bar) (n : List Bar) : List Nat := n.map U.idxOf
theorem meets_all_iff {U : List Bar} {N : List (List Bar)} {ms : List Int} {c : List Nat} (hU : U.Pairwise fun a b => a.code < b.code) (hN : ∀ n ∈ N, NeedOk n ∧ ∀ b ∈ n, b ∈ U) (hm : ∀ k, k ∈ ms ↔ ∃ n ∈ N, ((powS (idxs U n) : Nat) : Int) = k) (hc : c.Pairwise (· < ·)) (hl : ∀ i ∈ c, i < U.length) :
    (ms.all fun m => decide (Builtin.bitAnd ((powS c : Nat) : Int) m ≠ 0)) = metB N (pickB U c) := by
  have one : ∀ n ∈ N, (Builtin.bitAnd ((powS c : Nat) : Int) ((powS (idxs U n) : Nat) : Int) ≠ 0) ↔ ∃ b ∈ n, b ∈ pickB U c := fun n hn => by
    obtain ⟨h1, h2⟩ := hN n hn
    obtain ⟨q1, q2, q3⟩ := pick_idx hU h1.asc h2
    rw [and_pos, show idxs U n = n.map (fun a => List.idxOf a U) from rfl, and_ne hc q1]
    constructor
    · rintro ⟨i, hi, hic⟩
      obtain ⟨b, hb, rfl⟩ := List.mem_map.mp hi
      have lt := List.idxOf_lt_length_iff.mpr (h2 b hb)
      refine ⟨b, hb, List.mem_map.mpr ⟨U.idxOf b, hic, ?_⟩⟩
      rw [List.getD_eq_getElem?_getD, List.getElem?_eq_getElem lt, List.getElem_idxOf]
      rfl
    · rintro ⟨b, hb, hbp⟩
      obtain ⟨i, hi, e⟩ := List.mem_map.mp hbp
      have li := hl i hi
      have lt := List.idxOf_lt_length_iff.mpr (h2 b hb)
      refine ⟨U.idxOf b, List.mem_map_of_mem hb, ?_⟩
      have e : U.getD i default = b := e
      have e2 : U.getD (U.idxOf b) default = b := by
        rw [List.getD_eq_getElem?_getD, List.getElem?_eq_getElem lt, List.getElem_idxOf]
        rfl
      rcases Nat.lt_trichotomy i (U.idxOf b) with z | z | z
      · have := getD_lt hU z lt
        rw [e, e2] at this
        omega
      · rw [← z]
        exact hi
      · have := getD_lt hU z li
        rw [e, e2] at this
        omega
  rw [Bool.eq_iff_iff, met_iff, List.all_eq_true]
  constructor
  · intro h n hn
    exact (one n hn).mp (of_decide_eq_true (h _ ((hm _).mpr ⟨n, hn, rfl⟩)))
  · intro h m hm'
    obtain ⟨n, hn, rfl⟩ := (hm m).mp hm'
    exact decide_eq_true ((one n hn).mpr (h n hn))
theorem pick_all (U : List Bar) : pickB U (List.range U.length) = U := by
  refine List.ext_getElem? fun i => ?_
  unfold pickB
  rw [List.getElem?_map]
  rcases Nat.lt_or_ge i U.length with h | h
  · rw [List.getElem?_range h, List.getElem?_eq_getElem h, Option.map_some, List.getD_eq_getElem?_getD, List.getElem?_eq_getElem h]
    rfl
  · rw [List.getElem?_eq_none (by rw [List.length_range]; exact h), List.getElem?_eq_none h]
    rfl
section
variable {P : Program} {w : World} {K : PySem.W.Frag} {mg : Str → Option Value} {base : Heap}
abbrev nMe : List Str := ["chosen", "masks", "mask"]
theorem scMe : FnScope nMe ["chosen", "masks"] (defScope s_meets_all) := ⟨rfl, rfl, rfl, by decide +kernel, rfl, by decide +kernel, by decide +kernel⟩
theorem ok_meets {f : Addr} {fd : FuncData} (F : Fun K "meets_all" "meets_all" s_meets_all f fd) : FnOk P w K mg base CX0 1 f fd ["chosen", "masks"] (spMeets K) := by
  refine F.ok scMe (fun vs H Q E h => ?_) (fun cdv A outer s H vs Q E hr h => ?_)
  · obtain ⟨c, l, ms, rfl, _⟩ := h.h
    rfl
  · obtain ⟨c, l, ms, rfl, S, k⟩ := h.h
    refine ⟨_, pss_cons (ps_for PassesOwn.never rfl (pi_list (pv 1)) (pg_name (i := 2) scMe.nd rfl (Or.inl rfl))
        (pss_one (ps_if (pt_not (pt_truth (pe_op op_and (pv 0) (pv 2)) (by intro _; rfl))) (pss_one (ps_ret pe_bl)) pss_nil)))
      (pss_one (ps_ret pe_bl)), ?_⟩
    refine ⟨_, rfl, l, rfl, ⟨_, S⟩, ?_⟩
    refine for_list (K := K) (a := l) (xs := ms.map V.int) (fun i σ H' => ∃ u2 : Option V, σ = [some (.int c), some (.ref l), u2] ∧ H' = H ∧ ∀ m ∈ ms.take i, Builtin.bitAnd c m ≠ 0) ⟨_, rfl, rfl, fun m hm => (by cases hm)⟩ ?_ ?_ ?_
    · rintro i σ H' _ ⟨_, _, rfl, _⟩
      exact S
    · rintro i x σ H1 hx ⟨u2, rfl, rfl, hno⟩
      rw [List.getElem?_map] at hx
      cases em : ms[i]? with
      | none => rw [em] at hx; cases hx
      | some m =>
        rw [em] at hx
        cases hx
        have hm := List.mem_of_getElem? em
        refine ⟨_, rfl, _, rfl, _, _, rfl, rfl, _, rfl, ?_⟩
        by_cases q : Builtin.bitAnd c m = 0
        · rw [q]
          refine iteT ?_
          have e : (ms.all fun m => decide (Builtin.bitAnd c m ≠ 0)) = false := by
            rw [List.all_eq_false]
            exact ⟨m, hm, by rw [decide_eq_true_iff]; exact fun z => z q⟩
          rw [e] at k
          exact k
        · have e : (Builtin.bitAnd c m != 0) = true := by simpa using q
          show if (!(Builtin.bitAnd c m != 0)) = true then _ else _
          rw [e]
          refine iteF ⟨_, rfl, rfl, fun m' hm' => ?_⟩
          obtain ⟨hil, e'⟩ := List.getElem?_eq_some_iff.mp em
          rw [List.take_succ_eq_append_getElem hil, e'] at hm'
          rcases List.mem_append.mp hm' with h | h
          · exact hno m' h
          · rw [List.mem_singleton.mp h]
            exact q
    · rintro σ H1 ⟨u2, rfl, rfl, hno⟩
      rw [List.length_map, List.take_length] at hno
      have e : (ms.all fun m => decide (Builtin.bitAnd c m ≠ 0)) = true := by
        rw [List.all_eq_true]
        exact fun m hm => decide_eq_true (hno m hm)
      rw [e] at k
      exact k
abbrev nFg : List Str := ["needs", "bars", "masks", "many", "places", "need", "bar", "place"]
theorem scFg : FnScope nFg ["needs"] (defScope s_fewest_of_group) := ⟨rfl, rfl, rfl, by decide +kernel, rfl, by decide +kernel, by decide +kernel⟩
theorem ok_group {f f1 : Addr} {fd fd1 : FuncData} (F : Fun K "fewest_of_group" "fewest_of_group" s_fewest_of_group f fd) (T : Bt mg) (zS : mg "sum" = none) (cm : mg "combinations" = some (.type "itertools.combinations"))
    (G1 : FnOk P w K mg base CX0 1 f1 fd1 ["chosen", "masks"] (spMeets K)) (g1 : mg "meets_all" = some (.ref f1)) (k1 : PySem.W.keepIn K (.ref f1) = true) (b1 : Binds K fd1 ["chosen", "masks"] []) :
    FnOk P w K mg base CX0 3 f fd ["needs"] (spGroup K) := by
  refine F.ok scFg (fun vs H Q E h => ?_) (fun cdv A outer s H vs Q E hr h => ?_)
  · obtain ⟨l, ns, U0, rfl, _⟩ := h.h
    rfl
  · obtain ⟨l, ns, U0, rfl, N, few, hn, hU, k⟩ := h.h
    have hu : _ + 64 < cLine := hr.units
    have hu1 := hu_of hr
    have hu2 := hr.un
    rw [Nat.add_assoc] at hu2
    have hu3 := Nat.lt_of_le_of_lt (Nat.add_le_add_left (by decide : 65 ≤ 16 * 2 + 200) _) hu2
    refine ⟨_, pss_cons (ps_set (i := 1) scFg.nd rfl (Or.inr rfl) (pe_callB (cr_sortM rfl) (by rfl) T.sorted (by decide +kernel) (pa_cons
        (pe_scN (own := [("need", 5), ("bar", 6)]) (g := gName 5) (tt := tYes) (cs := [⟨iList K (tVar 5), gName 6, tYes, [6]⟩]) (by rfl) hu1 scFg.nd (pi_list (pv 0)) (blkOk_by (N := nFg) (sc := defScope s_fewest_of_group) (by decide +kernel))
          (fun _ _ _ _ _ => pg_name (i := 5) scFg.nd rfl (Or.inl rfl)) (fun _ _ _ _ _ => pts_nil)
          (fun _ _ _ _ _ => ⟨rfl, pi_listK (K := K) rfl (pv 5), pg_name (i := 6) scFg.nd rfl (Or.inl rfl), pts_nil, fun _ => rfl, trivial⟩) ⟨fun i hi => (by cases hi), trivial⟩ (fun i (hi : i ∈ [6]) => (by rw [List.mem_singleton.mp hi]; decide)) (fun _ _ _ _ _ => pv 6)) pa_nil)))
      (pss_cons (ps_set (i := 2) scFg.nd rfl (Or.inl rfl) (pe_callB (cr_setSJ rfl) (by rfl) T.sorted (by decide +kernel) (pa_cons
        (pe_scW (own := [("need", 5)]) (g := gName 5) (tt := tYes) (by rfl) scFg.nd (pi_list (pv 0)) (blkOk_by (N := nFg) (sc := defScope s_fewest_of_group) (by decide +kernel))
          (fun _ _ _ _ _ => pg_name (i := 5) scFg.nd rfl (Or.inl rfl)) (fun _ _ _ _ _ => pts_nil)
          (fun _ _ _ _ _ => pe_callB (cr_sumK (K := K) rfl rfl) (by rfl) zS boot_sumK (pa_cons
            (by exact (pe_lc (own := [("bar", 6)]) (g := gName 6) (tt := tYes) (by rfl) scFg.nd (pi_listK (K := K) rfl (pv 5)) (blkOk_by (N := nFg) (by rfl)) (fun _ _ _ _ _ => pg_name (i := 6) scFg.nd rfl (Or.inl rfl)) (fun _ _ _ _ _ => pts_nil)
              (fun _ _ _ _ _ => pe_op op_shl pe_int (pe_bmK (K := K) rfl PySem.F.plainAttrs_list PySem.F.slot_list_index PySem.F.type_list_index (mt_indexDK (K := K) rfl hu3) (pv 1) (pa_cons (pv 6) pa_nil))))) pa_nil))) pa_nil)))
      (pss_cons (ps_for PassesOwn.never rfl (pi_range1 rfl T.range (pa_cons (pe_callB call_len_seq (by rfl) T.len PySem.boot_len (pa_cons (pv 1) pa_nil)) pa_nil)) (pg_name (i := 3) scFg.nd rfl (Or.inl rfl))
        (pss_one (ps_for PassesOwn.never rfl (pi_comR (by rfl) cm (by rfl) T.range rfl (pe_callB call_len_seq (by rfl) T.len PySem.boot_len (pa_cons (pv 1) pa_nil)) (pv 3)) (pg_name (i := 4) scFg.nd rfl (Or.inl rfl))
          (pss_one (ps_if (pt_val (pe_call G1 (hr.mono (by decide)) rfl g1 k1 b1 .nil pass0 (pa_cons
              (pe_callB (cr_sum rfl) (by rfl) zS boot_sumK (pa_cons (pe_lc (own := [("place", 7)]) (g := gName 7) (tt := tYes) (by rfl) scFg.nd (pi_tup (pv 4)) (blkOk_by (N := nFg) (sc := defScope s_fewest_of_group) (by decide +kernel)) (fun _ _ _ _ _ => pg_name (i := 7) scFg.nd rfl (Or.inl rfl)) (fun _ _ _ _ _ => pts_nil)
                (fun _ _ _ _ _ => pe_op op_shl pe_int (pv 7))) pa_nil)) (pa_cons (pv 2) pa_nil))))
            (pss_one (ps_ret (pe_lc (own := [("place", 7)]) (g := gName 7) (tt := tYes) (by rfl) scFg.nd (pi_tup (pv 4)) (blkOk_by (N := nFg) (sc := defScope s_fewest_of_group) (by decide +kernel)) (fun _ _ _ _ _ => pg_name (i := 7) scFg.nd rfl (Or.inl rfl)) (fun _ _ _ _ _ => pts_nil)
                (fun _ _ _ _ _ => pe_ix (ix_listK (K := K) rfl) (pv 1) (pv 7) (fun _ _ => rfl))))) pss_nil)))))
      (pss_one (ps_ret (pv 1))))), ?_⟩
    refine ⟨_, rfl, l, rfl, ⟨_, SqL.of N.at'⟩, fun D hD => ?_⟩
    refine readN_by (walk_lst (K := K) (a := l) (l := ns) (f := fun n => V.ref n.1)) (fun i H' => Same H H' ∧ ∃ L : List (Addr × Bar), H' D = some (SetMO P w D (L.map fun b => (b.1, b.2.key))) ∧ (∀ b ∈ L, ∃ n ∈ ns, b ∈ n.2) ∧ (∀ n ∈ ns.take i, ∀ b ∈ n.2, b.2 ∈ L.map (·.2)) ∧ (L.map (·.2)).Nodup)
      ⟨same_upd hD, [], upd_same, fun b hb => (by cases hb), fun n hn => (by cases hn), List.nodup_nil⟩ (fun i H' _ q => SqL.of (q.1 _ _ N.at')) ?_ ?_
    · rintro i x H1 H1' hi ⟨s1, L, hD1, hL1, hL2, hL3⟩ ⟨rfl, n, en, rfl⟩
      have hnm := List.mem_of_getElem? en
      have N1 := N.same s1
      refine ⟨rfl, tYes_of (iteT ?_)⟩
      refine ⟨_, rfl, n.1, rfl, ⟨_, SqL.of (N1.el n hnm)⟩, ?_⟩
      have htk : ns.take (i + 1) = ns.take i ++ [n] := by
        obtain ⟨hil, e⟩ := List.getElem?_eq_some_iff.mp en
        rw [List.take_succ_eq_append_getElem hil, e]
      refine inW_by (walk_lst (K := K) (a := n.1) (l := n.2) (f := fun b => V.ref b.1)) (fun j H' => Same H H' ∧ ∃ L : List (Addr × Bar), H' D = some (SetMO P w D (L.map fun b => (b.1, b.2.key))) ∧ (∀ b ∈ L, ∃ n ∈ ns, b ∈ n.2) ∧ (∀ m ∈ ns.take i, ∀ b ∈ m.2, b.2 ∈ L.map (·.2)) ∧ (L.map (·.2)).Nodup ∧ ∀ b ∈ n.2.take j, b.2 ∈ L.map (·.2))
        ⟨s1, L, hD1, hL1, hL2, hL3, fun b hb => (by cases hb)⟩ (fun j H' _ q => SqL.of (q.1 _ _ (N.el n hnm))) ?_ ?_
      · rintro j x H2 H2' hj ⟨s2, L, hD2, hL1, hL2, hL3, hL4⟩ ⟨rfl, b, eb, rfl⟩
        have hbm := List.mem_of_getElem? eb
        have N2 := N.same s2
        refine ⟨rfl, tt_yes rfl (iteT ?_)⟩
        have hlen : L.length ≤ 60 := by
          have := nd_leL hL3 (rs := U0) fun x hx => by
            obtain ⟨y, hy, rfl⟩ := List.mem_map.mp hx
            obtain ⟨m, hm, hym⟩ := hL1 y hy
            exact (hn m hm).2 y hym
          rw [List.length_map] at this
          omega
        refine ⟨_, rfl, b.1, b.2.key, _, rfl, hD2, SqT.of' (N2.bar n hnm b hbm), fun e he => ?_, by rw [List.length_map]; omega, fun L2 c1 c2 => ?_⟩
        · obtain ⟨y, hy, rfl⟩ := List.mem_map.mp he
          obtain ⟨m, hm, hym⟩ := hL1 y hy
          exact SqT.of' (N2.bar m hm y hym)
        · obtain ⟨L', rfl, nd', sub', old', new'⟩ := addB hL3 c1 c2
          refine ⟨fun c o eb => by rw [upd_ne (ne_of_none eb hD)]; exact s2 _ _ eb, L', upd_same, fun y hy => ?_, fun m hm y hy => old' _ (hL2 m hm y hy), nd', fun y hy => ?_⟩
          · rcases sub' y hy with h | rfl
            · exact hL1 y h
            · exact ⟨n, hnm, hbm⟩
          · obtain ⟨hil, e⟩ := List.getElem?_eq_some_iff.mp eb
            rw [List.take_succ_eq_append_getElem hil, e] at hy
            rcases List.mem_append.mp hy with h | h
            · exact old' _ (hL4 y h)
            · rw [List.mem_singleton.mp h]
              exact new'
      · rintro H2 ⟨s2, L, hD2, hL1, hL2, hL3, hL4⟩
        rw [List.take_length] at hL4
        refine ⟨s2, L, hD2, hL1, fun m hm => ?_, hL3⟩
        rw [htk] at hm
        rcases List.mem_append.mp hm with h | h
        · exact hL2 m h
        · rw [List.mem_singleton.mp h]
          exact hL4
    · rintro H1 ⟨s1, L, hD1, hL1, hL2, hL3⟩
      rw [List.take_length] at hL2
      have N1 := N.same s1
      refine ⟨D, L, rfl, hD1, fun b hb => ?_, fun ks p0 perm pw hp0 => ?_⟩
      · obtain ⟨n, hnm, hb'⟩ := hL1 b hb
        exact ⟨N1.bar n hnm b hb', (hn n hnm).1.low _ (List.mem_map_of_mem hb')⟩
      have hks : ∀ b ∈ ks, b ∈ L := fun b hb => perm.mem_iff.mp hb
      have hlow : ∀ b ∈ ks, b.2.low := fun b hb => by
        obtain ⟨n, hnm, hb'⟩ := hL1 b (hks b hb)
        exact (hn n hnm).1.low _ (List.mem_map_of_mem hb')
      have ndU : (ks.map (·.2)).Nodup := (perm.map (·.2)).nodup_iff.mpr hL3
      have hU' : (ks.map (·.2)).Pairwise fun a b => a.code < b.code := by
        rw [List.pairwise_map]
        have nd2 := List.pairwise_map.mp ndU
        refine List.Pairwise.imp_of_mem (fun {x y} hx hy h => ?_) (pw.and nd2)
        obtain ⟨h1, h2⟩ := h
        rcases Int.lt_or_eq_of_le h1 with z | z
        · exact z
        · exact absurd (Bar.code_inj (hlow x hx) (hlow y hy) z) h2
      have hUc : (ks.map (·.2)).Pairwise fun a b => a.cc < b.cc := by
        refine List.Pairwise.imp_of_mem (fun {a b} ha hb h => ?_) hU'
        obtain ⟨x, hx, rfl⟩ := List.mem_map.mp ha
        obtain ⟨y, hy, rfl⟩ := List.mem_map.mp hb
        rw [Bar.cc_low (hlow x hx), Bar.cc_low (hlow y hy)]
        exact h
      have hmem : ∀ b, b ∈ ks.map (·.2) ↔ ∃ n ∈ nsB ns, b ∈ n := fun b => by
        rw [(perm.map (·.2)).mem_iff]
        constructor
        · intro hb
          obtain ⟨y, hy, rfl⟩ := List.mem_map.mp hb
          obtain ⟨n, hnm, hyn⟩ := hL1 y hy
          exact ⟨_, List.mem_map_of_mem hnm, List.mem_map_of_mem hyn⟩
        · rintro ⟨n, hnm, hbn⟩
          obtain ⟨m, hm, rfl⟩ := List.mem_map.mp hnm
          obtain ⟨y, hy, rfl⟩ := List.mem_map.mp hbn
          exact hL2 m hm y hy
      have lU : (ks.map (·.2)).length ≤ 60 := by
        have := nd_leL ndU (rs := U0) fun x hx => by
          obtain ⟨n, hnm, hxn⟩ := (hmem x).mp hx
          obtain ⟨m, hm, rfl⟩ := List.mem_map.mp hnm
          obtain ⟨y, hy, rfl⟩ := List.mem_map.mp hxn
          exact (hn m hm).2 y hy
        omega
      have hel : ∀ b ∈ ks, H1 b.1 = some (.tup b.2.vs) := fun b hb => by
        obtain ⟨n, hnm, hb'⟩ := hL1 b (hks b hb)
        exact N1.bar n hnm b hb'
      have s2 := same_upd (o := .lst (ks.map fun k => V.ref k.1)) hp0
      have hp2 : (upd H1 p0 (.lst (ks.map fun k => V.ref k.1))) p0 = some (.lst (ks.map fun k => V.ref k.1)) := upd_same
      have hel2 : ∀ b ∈ ks, (upd H1 p0 (.lst (ks.map fun k => V.ref k.1))) b.1 = some (.tup b.2.vs) := fun b hb => s2 _ _ (hel b hb)
      have s12 := s1.trans s2
      generalize (upd H1 p0 (.lst (ks.map fun k => V.ref k.1))) = H2 at s12 hp2 hel2 ⊢
      have N2 := N.same s12
      clear hp0 s2 s1 N1 hel hD1 hL1 hL2 hL3 hks perm pw N hD
      generalize hUe : ks.map (·.2) = U at hU' hUc hmem lU ndU
      have lks : ks.length = U.length := by rw [← hUe, List.length_map]
      have hnU : ∀ n ∈ ns, ∀ b ∈ n.2, b.2 ∈ U := fun n hnm b hb => (hmem b.2).mpr ⟨_, List.mem_map_of_mem (f := fun n : NEnt => n.2.map (·.2)) hnm, List.mem_map_of_mem hb⟩
      refine ⟨_, rfl, l, rfl, ⟨_, SqL.of N2.at'⟩, fun D hD => ?_⟩
      refine sc_pick (walk_lst (K := K) (a := l) (l := ns) (f := fun n => V.ref n.1)) ns rfl (by omega) (fun _ => true) (fun n => Sum.inl ((powS (idxs U (n.2.map (·.2))) : Nat) : Int)) hD (fun H' s => SqL.of (s _ _ N2.at')) ?_ ?_
      · rintro i x n H3 H3' Tk Nk en s3 ⟨rfl, n', en', rfl⟩ kT kF
        rw [en] at en'
        cases en'
        have hnm := List.mem_of_getElem? en
        have N3 := N2.same s3
        refine ⟨rfl, tYes_of (iteT ?_)⟩
        refine ⟨_, rfl, n.1, rfl, ⟨_, SqL.of (N3.el n hnm)⟩, fun D2 hD2 => ?_⟩
        refine lc_pick (walk_lst (K := K) (a := n.1) (l := n.2) (f := fun b => V.ref b.1)) n.2 rfl ?_ (fun _ => true) (fun b => V.int ((1 : Int) * 2 ^ (((U.idxOf b.2 : Nat) : Int)).toNat)) hD2 (fun H' s => SqL.of (s _ _ (N3.el n hnm))) ?_ ?_
        · have h1 := nd_leL (L := n.2.map (·.2)) (rs := U) (hn n hnm).1.nd fun x hx => by
            obtain ⟨y, hy, rfl⟩ := List.mem_map.mp hx
            exact hnU n hnm y hy
          rw [List.length_map] at h1
          omega
        · rintro j x b H4 H4' Tk2 Nk2 eb s4 ⟨rfl, b', eb', rfl⟩ kT2 kF2
          rw [eb] at eb'
          cases eb'
          have hbm := List.mem_of_getElem? eb
          have s24 := s3.trans s4
          have hbU := hnU n hnm b hbm
          have lt := List.idxOf_lt_length_iff.mpr hbU
          have hds : (U.map barD)[U.idxOf b.2]? = some (barD b.2) := by
            rw [List.getElem?_map, List.getElem?_eq_getElem lt, List.getElem_idxOf]
            rfl
          have hdp : DpAll K H4' (ks.map fun k => V.ref k.1) (U.map barD) := by
            have := dpAll_bars (K := K) (fun k hk => s24 _ _ (hel2 k hk))
            rw [← hUe, List.map_map]
            exact this
          refine ⟨rfl, tYes_of (iteT ?_)⟩
          refine ⟨_, rfl, .inl ⟨rfl, _, SqL.of (s24 _ _ hp2)⟩, _, rfl, ?_⟩
          refine ⟨p0, .ref b.1, barD b.2, U.map barD, U.idxOf b.2, barD b.2, rfl, rfl, .lst (SqL.of (s24 _ _ hp2)) hdp, dp_bar (SqT.of' (s24 _ _ (N2.bar n hnm b hbm))), dok_shaped (dok_list (k := 2) fun d hd => by
            obtain ⟨y, _, rfl⟩ := List.mem_map.mp hd
            exact dok_bar _) (by decide), dok_shaped (dok_bar _) (by decide), hds, ?_, fun m z' hm hz => ?_, ?_⟩
          · rw [eqv_bar]
            exact decide_eq_true rfl
          · rw [List.getElem?_map] at hz
            cases e : U[m]? with
            | none => rw [e] at hz; cases hz
            | some z =>
              rw [e] at hz
              cases hz
              rw [eqv_bar]
              exact decide_eq_false (idx_first hm e)
          · exact ⟨_, _, rfl, rfl, ⟨by omega, by omega, by decide⟩, kT2 _ rfl (Same.refl _)⟩
        · intro H4 s4 hD4
          rw [List.filter_eq_self.mpr fun _ _ => rfl] at hD4
          have hD5 : H4 D2 = some (.lst ((n.2.map fun b => (1 : Int) * 2 ^ (((U.idxOf b.2 : Nat) : Int)).toNat).map V.int)) := by
            rw [hD4, List.map_map]
            rfl
          refine ⟨D2, _, rfl, SqL.of hD5, ?_⟩
          have es : (n.2.map fun b => (1 : Int) * 2 ^ (((U.idxOf b.2 : Nat) : Int)).toNat).sum = ((powS (idxs U (n.2.map (·.2))) : Nat) : Int) := by
            rw [← sum_pow]
            unfold idxs
            rw [List.map_map, List.map_map]
            rfl
          rw [es]
          exact kT _ rfl s4
      · intro H3 Lm s3 ndm memm hD3
        have memm' : ∀ k, k ∈ Lm ↔ ∃ n ∈ nsB ns, Sum.inl ((powS (idxs U n) : Nat) : Int) = k := fun k => by
          rw [memm k]
          constructor
          · rintro ⟨n, hnm, _, e⟩
            exact ⟨_, List.mem_map_of_mem hnm, e⟩
          · rintro ⟨n, hnm, e⟩
            obtain ⟨m, hm, rfl⟩ := List.mem_map.mp hnm
            exact ⟨m, hm, rfl, e⟩
        obtain ⟨ms0, rfl⟩ : ∃ ms0 : List Int, Lm = ms0.map Sum.inl := by
          have : ∀ L : List Key, (∀ k ∈ L, ∃ i : Int, k = .inl i) → ∃ ms0 : List Int, L = ms0.map Sum.inl := fun L => by
            induction L with
            | nil => exact fun _ => ⟨[], rfl⟩
            | cons k L ih =>
              intro h
              obtain ⟨i, rfl⟩ := h k List.mem_cons_self
              obtain ⟨ms, rfl⟩ := ih fun k hk => h k (List.mem_cons_of_mem _ hk)
              exact ⟨i :: ms, rfl⟩
          refine this Lm fun k hk => ?_
          obtain ⟨n, _, e⟩ := (memm' k).mp hk
          exact ⟨_, e.symm⟩
        refine ⟨D, ms0, rfl, hD3, fun ms pm perm2 _ hpm => ?_⟩
        have hms : ∀ k, k ∈ ms ↔ ∃ n ∈ nsB ns, ((powS (idxs U n) : Nat) : Int) = k := fun k => by
          rw [perm2.mem_iff]
          constructor
          · intro hk
            obtain ⟨n, hnm, e⟩ := (memm' (Sum.inl k)).mp (List.mem_map_of_mem hk)
            exact ⟨n, hnm, by injection e⟩
          · rintro ⟨n, hnm, e⟩
            obtain ⟨k', hk', e2⟩ := List.mem_map.mp ((memm' (Sum.inl k)).mpr ⟨n, hnm, by rw [e]⟩)
            injection e2 with e2
            exact e2 ▸ hk'
        have s4 := s3.trans (same_upd (o := .lst (ms.map V.int)) hpm)
        have hpm4 : (upd H3 pm (.lst (ms.map V.int))) pm = some (.lst (ms.map V.int)) := upd_same
        generalize (upd H3 pm (.lst (ms.map V.int))) = H4 at s4 hpm4 ⊢
        have hp4 := s4 _ _ hp2
        clear hD3 hD hpm perm2 memm' memm ndm s3
        have hNo : ∀ n ∈ nsB ns, NeedOk n ∧ ∀ b ∈ n, b ∈ U := fun n hnm => by
          obtain ⟨m, hm, rfl⟩ := List.mem_map.mp hnm
          refine ⟨(hn m hm).1, fun b hb => ?_⟩
          obtain ⟨y, hy, rfl⟩ := List.mem_map.mp hb
          exact hnU m hm y hy
        have allk : ∀ c : List Nat, c.Pairwise (· < ·) → (∀ i ∈ c, i < U.length) → (ms.all fun m => decide (Builtin.bitAnd ((powS c : Nat) : Int) m ≠ 0)) = metB (nsB ns) (pickB U c) := fun c h1 h2 => meets_all_iff hU' hNo hms h1 h2
        refine ⟨_, rfl, p0, _, rfl, .inl (SqL.of hp4), _, rfl, by rw [List.length_map]; omega, by rw [List.length_map]; omega, ?_⟩
        rw [List.length_map, Int.toNat_natCast, lks]
        refine for_range (lo := 0) (n := U.length) (fun r σ H' => ∃ u3 u4 : Option V, σ = [some (.ref l), some (.ref p0), some (.ref pm), u3, u4, none, none, none] ∧ Same H4 H' ∧ ∀ m' < r, ∀ d ∈ combsL U.length m' 0, metB (nsB ns) (pickB U d) = false)
          ⟨_, _, rfl, Same.refl _, fun m' hm => by omega⟩ ?_ ?_
        · rintro r σ H5 hr' ⟨u3, u4, rfl, s5, hno⟩
          have er : (0 : Int) + (r : Nat) = (r : Int) := by omega
          rw [er]
          refine ⟨_, rfl, p0, _, rfl, .inl (SqL.of (s5 _ _ hp4)), U.length, by rw [List.length_map, lks], by omega, _, rfl, r, rfl, by omega, ?_⟩
          refine for_it walk_com (fun i σ H' => ∃ u4 : Option V, σ = [some (.ref l), some (.ref p0), some (.ref pm), some (.int (r : Nat)), u4, none, none, none] ∧ Same H4 H' ∧ ∀ d ∈ (combsL U.length r 0).take i, metB (nsB ns) (pickB U d) = false)
            ⟨_, rfl, s5, fun d hd => (by cases hd)⟩ (fun _ _ _ _ _ => trivial) ?_ ?_
          · rintro i x σ H6 H6' hi ⟨u4, rfl, s6, hno2⟩ ⟨T', c, rfl, hT', rfl, ec⟩
            obtain ⟨s7, f7⟩ := new_at (o := .tup (pickV ((List.range U.length).map fun (i : Nat) => V.int i) c)) hT'
            generalize upd H6 T' (.tup (pickV ((List.range U.length).map fun (i : Nat) => V.int i) c)) = H7 at s7 f7 ⊢
            have hcm := List.mem_of_getElem? ec
            have hca := combs_asc hcm
            have hcl : ∀ i ∈ c, i < U.length := fun i hi => (combs_lt hcm i hi).2
            have hcn := combs_len hcm
            have epv : pickV ((List.range U.length).map fun (i : Nat) => V.int i) c = c.map fun (i : Nat) => V.int i := by
              unfold pickV
              refine List.map_congr_left fun i hi => ?_
              rw [List.getD_eq_getElem?_getD, List.getElem?_map, List.getElem?_range (hcl i hi)]
              rfl
            rw [epv] at f7
            have s47 := s6.trans s7
            refine ⟨_, rfl, T', rfl, ⟨_, SqT.of' f7⟩, fun D hD => ?_⟩
            refine lc_pick (walk_bars (K := K) (a := T') (l := c) (f := fun (i : Nat) => V.int i)) c rfl (by omega) (fun _ => true) (fun (i : Nat) => V.int ((1 : Int) * 2 ^ ((i : Int)).toNat)) hD (fun H' s => SqT.of' (s _ _ f7)) ?_ ?_
            · rintro j x z H8 H8' Tk Nk ez s8 ⟨rfl, z', ez', rfl⟩ kT kF
              rw [ez] at ez'
              cases ez'
              have hz := hcl z (List.mem_of_getElem? ez)
              refine ⟨rfl, tYes_of (iteT ?_)⟩
              exact ⟨_, rfl, 1, z, rfl, rfl, ⟨by omega, by omega, by decide⟩, kT _ rfl (Same.refl _)⟩
            · intro H8 s8 hD8
              rw [List.filter_eq_self.mpr fun _ _ => rfl] at hD8
              have hD9 : H8 D = some (.lst ((c.map fun (i : Nat) => (1 : Int) * 2 ^ ((i : Int)).toNat).map V.int)) := by
                rw [hD8, List.map_map]
                rfl
              refine ⟨D, _, rfl, SqL.of hD9, ?_⟩
              rw [sum_pow]
              have s48 := s47.trans s8
              refine ⟨_, rfl, ⟨⟨_, pm, ms, rfl, SqL.of (s48 _ _ hpm4), ?_⟩⟩⟩
              rw [allk c hca hcl]
              refine ⟨_, rfl, ?_⟩
              cases e : metB (nsB ns) (pickB U c) with
              | false =>
                refine iteF ⟨_, rfl, s48, fun d hd => ?_⟩
                obtain ⟨hil, e'⟩ := List.getElem?_eq_some_iff.mp ec
                rw [List.take_succ_eq_append_getElem hil, e'] at hd
                rcases List.mem_append.mp hd with h | h
                · exact hno2 d h
                · rw [List.mem_singleton.mp h]
                  exact e
              | true =>
                refine iteT ?_
                refine ⟨_, rfl, T', rfl, ⟨_, SqT.of' (s8 _ _ f7)⟩, fun D2 hD2 => ?_⟩
                have hp8 := s48 _ _ hp4
                refine lc_pick (walk_bars (K := K) (a := T') (l := c) (f := fun (i : Nat) => V.int i)) c rfl (by omega) (fun _ => true) (fun i => V.ref (ks.getD i (0, default)).1) hD2 (fun H' s => SqT.of' (s _ _ (s8 _ _ f7))) ?_ ?_
                · rintro j x z H9 H9' Tk Nk ez s9 ⟨rfl, z', ez', rfl⟩ kT kF
                  rw [ez] at ez'
                  cases ez'
                  have hz := hcl z (List.mem_of_getElem? ez)
                  refine ⟨rfl, tYes_of (iteT ?_)⟩
                  have hat : (ks.map fun k => V.ref k.1)[z]? = some (V.ref (ks.getD z (0, default)).1) := by
                    rw [List.getElem?_map, List.getD_eq_getElem?_getD, List.getElem?_eq_getElem (by omega : z < ks.length)]
                    rfl
                  exact ⟨_, rfl, _, rfl, p0, _, (z : Int), _, rfl, rfl, SqL.of (s9 _ _ hp8), atI_nat hat, kT _ rfl (Same.refl _)⟩
                · intro H9 s9 hD9'
                  rw [List.filter_eq_self.mpr fun _ _ => rfl] at hD9'
                  have hR : H9 D2 = some (.lst ((c.map fun i => ks.getD i (0, default)).map fun b => V.ref b.1)) := by
                    rw [hD9', List.map_map]
                    rfl
                  have s49 := s48.trans s9
                  refine k D2 (c.map fun i => ks.getD i (0, default)) H9 ((s12.trans s4).trans s49) hR (fun b hb => ?_) ?_
                  · obtain ⟨i, hi, rfl⟩ := List.mem_map.mp hb
                    have : ks.getD i (0, default) ∈ ks := by
                      rw [List.getD_eq_getElem?_getD, List.getElem?_eq_getElem (by have := hcl i hi; omega : i < ks.length)]
                      exact List.getElem_mem _
                    exact s49 _ _ (s4 _ _ (hel2 _ this))
                  · have eR : (c.map fun i => ks.getD i (0, default)).map (·.2) = pickB U c := by
                      rw [List.map_map]
                      refine List.map_congr_left fun i hi => ?_
                      show (ks.getD i (0, default)).2 = U.getD i default
                      rw [← hUe, List.getD_eq_getElem?_getD, List.getD_eq_getElem?_getD, List.getElem?_map, List.getElem?_eq_getElem (by have := hcl i hi; omega : i < ks.length)]
                      rfl
                    rw [eR]
                    exact least_of_first hUc hmem (first_of hno ec hno2 e)
          · rintro σ H6 ⟨u4, rfl, s6, hno2⟩
            refine ⟨_, _, rfl, s6, fun m' hm' d hd => ?_⟩
            rcases Nat.lt_or_ge m' r with z | z
            · exact hno m' z d hd
            · obtain rfl : m' = r := by omega
              rw [List.take_length] at hno2
              exact hno2 d hd
        · rintro σ H5 ⟨u3, u4, rfl, s5, hno⟩
          refine ⟨_, rfl, k p0 ks H5 ((s12.trans s4).trans s5) (s5 _ _ hp4) (fun b hb => s5 _ _ (s4 _ _ (hel2 b hb))) ?_⟩
          rw [hUe]
          have := least_of_first hUc hmem (first_all hno (by
            rw [pick_all]
            refine met_iff.mpr fun n hnm => ?_
            obtain ⟨h1, h2⟩ := hNo n hnm
            cases n with
            | nil => exact absurd rfl h1.ne
            | cons b n => exact ⟨b, List.mem_cons_self, h2 b List.mem_cons_self⟩))
          rw [pick_all] at this
          exact this
end
end DL

set_option Elab.async false
set_option maxRecDepth 100000
set_option maxHeartbeats 3200000
namespace DL
open PySem PySem.Spec PyProof.Rows L2
/-! ### sorted(list of tuples of a kind), the kinds: bars, pairs of a drawer and a way -/
def IsTupV (h : Heap) (v : Value) (xs : List V) : Prop := ∃ (a : Addr) (o : Obj) (its : List Value) (n : Nat), v = .ref a ∧ h.get? a = some o ∧ o.cls = .type "tuple" ∧ o.data = .seq its.toArray n ∧ Vals xs its
theorem IsTupV.keeps {h h' : Heap} {v : Value} {xs : List V} (p : IsTupV h v xs) (k : ∀ c o, h.get? c = some o → o.cls = .type "tuple" → h'.get? c = some o) : IsTupV h' v xs := by
  obtain ⟨a, o, its, n, e, ho, hc, hd, hv⟩ := p
  exact ⟨a, o, its, n, e, k _ _ ho hc, hc, hd, hv⟩
structure Kd (β : Type) where
  vs : β → List V
  dec : List V → β
  low : β → Prop
  code : β → Int
  back : ∀ b, dec (vs b) = b
  sortable : ∀ {prog : Program} {w : World} {A : Around} {s : Shared} {a : Addr} {us : List Value} {kb : Value → β}, 0 < us.length → (∀ v ∈ us, IsTupV s.heap v (vs (kb v)) ∧ low (kb v)) → (∀ o, s.heap.get? a = some o → o.cls ≠ .type "tuple") → SrtO.SortableO prog w A s a us fun v u => decide (code (kb v) < code (kb u))
def tupAt (H : Hp) : V → List V
  | .ref a => (match H a with | some (.tup xs) => xs | _ => [])
  | _ => []
theorem tupAt_of {H : Hp} {a : Addr} {xs : List V} (h : H a = some (.tup xs)) : tupAt H (.ref a) = xs := by
  show (match H a with | some (.tup xs) => xs | _ => []) = xs
  rw [h]
theorem refs_backG {β : Type} : ∀ {bs : List (Addr × β)} {its : List Value}, Vals (bs.map fun b => V.ref b.1) its → its = bs.map fun b => Value.ref b.1
  | [], _, .nil => rfl
  | b :: bs, _, .cons r1 rv => by
    cases r1
    rw [refs_backG rv]
    rfl
def rSortG {β : Type} (D : Kd β) (K : PySem.W.Frag) : List V → Hp → VK → Prop := fun xs H Q => ∃ (l : Addr) (bs : List (Addr × β)), xs = [V.ref l] ∧ SqL K H l (bs.map fun b => V.ref b.1) ∧ (∀ b ∈ bs, H b.1 = some (.tup (D.vs b.2)) ∧ D.low b.2) ∧
  ∀ (ks : List (Addr × β)) (p : Addr), ks.Perm bs → ks.Pairwise (fun x y => D.code x.2 ≤ D.code y.2) → H p = none → Q (.ref p) (upd H p (.lst (ks.map fun k => V.ref k.1)))
theorem isTup_of {X : Cx} {pins : List (Addr × Obj)} {σ : L2.St} {H : Hp} {s : Shared} {a : Addr} {xs : List V} (I : Inv X pins σ H s) (h : H a = some (.tup xs)) : IsTupV s.heap (.ref a) xs := by
  obtain ⟨_, its, rv, oo, h1, h2, n, h3⟩ := (show ObjOk X.prog X.w H s.heap a (.tup xs) from I.hok a _ h)
  exact ⟨a, oo, its, n, rfl, h1, h2, h3, rv⟩
theorem swoG {β : Type} (code : β → Int) (kb : Value → β) : SrtO.Swo fun v u => decide (code (kb v) < code (kb u)) := by
  refine ⟨fun x y h => ?_, fun x y z h1 h2 => ?_⟩
  · have a := of_decide_eq_true h
    exact decide_eq_false (by omega)
  · have a := of_decide_eq_false h1
    have b := of_decide_eq_false h2
    exact decide_eq_false (by omega)
theorem cr_sortG {X : Cx} {β : Type} (D : Kd β) : CallR X (.builtin "sorted") (rSortG D X.K) := by
  intro pins s σ H vs us Q I r h
  obtain ⟨l, bs, rfl, hl, hb, q⟩ := h
  rw [Vals.ref1 r]
  obtain ⟨its, rv, pl, hz⟩ := I.list hl
  have eits : its = bs.map fun b => Value.ref b.1 := refs_backG rv
  have hlen := rv.length
  rw [List.length_map] at hlen
  refine Calls.call_function_entry PyProof.Rows.kind_sorted PyProof.Rows.plain_sorted PyProof.Rows.entry_sorted (PyProof.Rows.args_sorted1 _) ?_
  unfold Builtin.«sorted»
  refine wpAny_bind (m := checkCount "sorted" 1 1 _) (wpAny_pure ?_)
  refine wpAny_bind (collect_list (vs := its) pl.isList ?_ (by rw [List.length_map] at hz; omega))
  have I1 : Inv X pins σ H { s with heap := (s.heap.push (seqObj "list" #[] 0)).update s.heap.objs.size (Obj.mapSeq (· ++ its.toArray)), toks := s.toks } := I.kept (t' := s.toks) fun c u e => by
    have z : c ≠ s.heap.objs.size := Nat.ne_of_lt (Heap.lt_size e)
    exact (Heap.SameBut.update (h := s.heap.push (seqObj "list" #[] 0)) s.heap.objs.size (Obj.mapSeq (· ++ its.toArray))).extBut c u z (Heap.get?_push_of_some _ e)
  generalize (s.heap.push (seqObj "list" #[] 0)).update s.heap.objs.size (Obj.mapSeq (· ++ its.toArray)) = g1 at I1 ⊢
  have hol : its.length ≤ sizeLine := by rw [List.length_map] at hz; omega
  refine wpAny_bind (wpAny_newList ?_ hol)
  have hoL : (g1.push (seqObj "list" its.toArray 0)).get? g1.objs.size = some (seqObj "list" its.toArray 0) := Heap.get?_push_size _ rfl
  have hbk : ∀ b ∈ bs, D.dec (tupAt H (backV (Value.ref b.1))) = b.2 := fun b hbm => by
    show D.dec (tupAt H (.ref b.1)) = b.2
    rw [tupAt_of (hb b hbm).1]
    exact D.back b.2
  have hbar : ∀ v ∈ its, IsTupV (g1.push (seqObj "list" its.toArray 0)) v (D.vs (D.dec (tupAt H (backV v)))) ∧ D.low (D.dec (tupAt H (backV v))) := fun v hv => by
    rw [eits] at hv
    obtain ⟨b, hbm, rfl⟩ := List.mem_map.mp hv
    rw [hbk b hbm]
    exact ⟨(isTup_of I1 (hb b hbm).1).keeps fun c oo e _ => Heap.get?_push_of_some _ e, (hb b hbm).2⟩
  refine wpAny_bind (wpAny_holding (wpAny_call_entry PyProof.Rows.slot_list_sort ⟨_, hoL, rfl⟩ PyProof.Rows.entry_list_sort
    (SrtO.list_sort_ord (s := { s with heap := g1.push (seqObj "list" its.toArray 0) }) (swoG D.code fun v => D.dec (tupAt H (backV v))) hoL hol (fun h2 => ?_) fun out hs hp => ⟨_, rfl, ?_⟩)
    (PyProof.Rows.args_list_sort _)))
  · refine D.sortable (by omega) hbar fun oo e => ?_
    have e' : some oo = some (seqObj "list" its.toArray 0) := e.symm.trans hoL
    cases e'
    intro c
    exact absurd (Value.type.inj c) (by decide)
  · obtain ⟨e', he'⟩ := PyProof.Rows.sortedHeap_at (vs := its) (out := out.toArray) hoL
    have pm2 : out.Perm (bs.map fun b => Value.ref b.1) := by rw [← eits]; exact hp.perm
    have href : ∀ v ∈ out, ∃ b ∈ bs, v = Value.ref b.1 := fun v hv => by
      obtain ⟨b, hbm, e⟩ := List.mem_map.mp (pm2.mem_iff.mp hv)
      exact ⟨b, hbm, e.symm⟩
    have e1 : out.map backV = (out.map fun v => ((match v with | .ref a => a | _ => 0 : Addr), D.dec (tupAt H (backV v)))).map fun k => V.ref k.1 := by
      rw [List.map_map]
      refine List.map_congr_left fun v hv => ?_
      obtain ⟨b, _, rfl⟩ := href v hv
      rfl
    have pk : (out.map fun v => ((match v with | .ref a => a | _ => 0 : Addr), D.dec (tupAt H (backV v)))).Perm bs := by
      have z := pm2.map fun v => ((match v with | .ref a => a | _ => 0 : Addr), D.dec (tupAt H (backV v)))
      have y : (bs.map fun b => Value.ref b.1).map (fun v => ((match v with | .ref a => a | _ => 0 : Addr), D.dec (tupAt H (backV v)))) = bs := by
        rw [List.map_map]
        conv => rhs; rw [← List.map_id bs]
        refine List.map_congr_left fun b hbm => ?_
        show (b.1, D.dec (tupAt H (backV (Value.ref b.1)))) = b
        rw [hbk b hbm]
      rw [y] at z
      exact z
    have pw : (out.map fun v => ((match v with | .ref a => a | _ => 0 : Addr), D.dec (tupAt H (backV v)))).Pairwise fun x y => D.code x.2 ≤ D.code y.2 := by
      rw [List.pairwise_map]
      refine hs.imp fun {x y} z => ?_
      have z := of_decide_eq_false z
      show D.code (D.dec (tupAt H (backV x))) ≤ D.code (D.dec (tupAt H (backV y)))
      omega
    have hno : H g1.objs.size = none := I1.hok.fresh (Nat.le_refl _)
    have qq := q _ g1.objs.size pk pw hno
    rw [← e1] at qq
    refine wpAny_pure ⟨_, rfl, .ref g1.objs.size, upd H g1.objs.size (.lst (out.map backV)), I1.laid (t' := s.toks) (fun b u e => ?_) (Nat.le_refl _)
      (show ObjOk X.prog X.w _ _ _ (.lst (out.map backV)) from ⟨?_, out, e', L2.vals_back fun v hv => ?_, he'⟩), rfl, qq⟩
    · have hb : b < g1.objs.size := Heap.lt_size e
      rw [PyProof.Rows.sortedHeap_old (Nat.ne_of_lt hb) (by rw [size_push']; exact Nat.lt_succ_of_lt hb)]
      exact Heap.get?_push_of_some _ e
    · rw [List.length_map, hp.perm.length_eq]
      exact hol
    · obtain ⟨b, _, e⟩ := href v hv
      exact ⟨b.1, e⟩
/-- pairs of a drawer and a way -/
abbrev Pr := Int × Bool
def prVs (p : Pr) : List V := [.int p.1, .str (wd p.2)]
def prOf : List V → Pr
  | [.int d, .str w] => (d, decide (w = "shut"))
  | _ => (0, false)
theorem prOf_vs (p : Pr) : prOf (prVs p) = p := by
  show (p.1, decide (wd p.2 = "shut")) = p
  rw [wd_dec]
def prCode (p : Pr) : Int := p.1 * 2 + b2n p.2
def IsPrV (h : Heap) (v : Value) (p : Pr) : Prop := ∃ a o t1 t2 n, v = .ref a ∧ h.get? a = some o ∧ o.cls = .type "tuple" ∧ o.data = .seq #[.int p.1 t1, .str (wd p.2) t2] n
theorem IsPrV.keeps {h h' : Heap} {v : Value} {b : Pr} (p : IsPrV h v b) (k : ∀ c o, h.get? c = some o → o.cls = .type "tuple" → h'.get? c = some o) : IsPrV h' v b := by
  obtain ⟨a, o, t1, t2, n, e, ho, hc, hd⟩ := p
  exact ⟨a, o, t1, t2, n, e, k _ _ ho hc, hc, hd⟩
def prLtb (a b : Pr) : Bool := if a.1 = b.1 then (!a.2 && b.2) else decide (a.1 < b.1)
theorem prLtb_code (a b : Pr) : prLtb a b = decide (prCode a < prCode b) := by
  obtain ⟨ad, aw⟩ := a
  obtain ⟨bd, bw⟩ := b
  unfold prLtb prCode b2n
  simp only
  by_cases h1 : ad = bd
  · rw [if_pos h1]
    subst h1
    cases aw <;> cases bw <;> simp <;> omega
  · rw [if_neg h1]
    cases aw <;> cases bw <;> simp <;> omega
section
variable {prog : Program} {w : World} {A : Around} {E : Value → Shared → Prop} {s : Shared}
theorem pr_cmp {vs : List Value} {kb : Value → Pr} (hp : ∀ v ∈ vs, IsPrV s.heap v (kb v)) : SrtO.Cmp prog w A s (tuples' true) (fun p => p.1 ∈ vs) (SrtO.lt2 fun v u => decide (prCode (kb v) < prCode (kb u))) := by
  intro p q hm hm'
  have h1 := hp _ hm
  have h2 := hp _ hm'
  show wpAny (model prog w) A (keyLt' (tuples' true) p.1 q.1) (fun r s' => s' = s ∧ r = decide (prCode (kb p.1) < prCode (kb q.1))) (fun _ _ => False) s
  generalize kb p.1 = x at h1 ⊢
  generalize kb q.1 = y at h2 ⊢
  rw [← prLtb_code]
  obtain ⟨a, o, t1, t2, n, e, ho, hc, hd⟩ := h1
  obtain ⟨a', o', t1', t2', n', e', ho', hc', hd'⟩ := h2
  rw [e, e']
  refine PySem.W.kat_lt ho hd ho' hd' ?_
  show PySem.W.KatLex prog w A true (decide (2 < 2)) _ [(.int x.1 t1, .int y.1 t1'), (.str (wd x.2) t2, .str (wd y.2) t2')] 0 s
  refine PySem.W.kat_cons (SeqAt.EqAt.int_int x.1 t1 y.1 t1' prog w _ _ ?_)
  refine PySem.W.kat_go (fun e1 => ?_) (fun e1 => ?_)
  · have e1' : x.1 = y.1 := by simpa using e1
    refine PySem.W.kat_yes (PySem.W.kat_cons (wpAny_eqBool_str ?_))
    refine PySem.W.kat_go (fun e2 => ?_) (fun e2 => ?_)
    · have e2' : x.2 = y.2 := wd_inj (by simpa using e2)
      refine PySem.W.kat_yes (PySem.W.kat_nil ⟨rfl, ?_⟩)
      unfold prLtb
      rw [if_pos e1', e2']
      cases y.2 <;> rfl
    · refine PySem.W.kat_no (oneLt_words _ rfl ⟨rfl, ?_⟩)
      unfold prLtb
      rw [if_pos e1', wd_lt]
  · have e1' : ¬ x.1 = y.1 := by simpa using e1
    refine PySem.W.kat_no (oneLt_int ⟨rfl, ?_⟩)
    unfold prLtb
    rw [if_neg e1']
theorem pr_firsts {h : Heap} : ∀ {vs : List Value}, (∀ v ∈ vs, ∃ b, IsPrV h v b) → ∃ fs : List Value, PySem.W.KatTups h vs fs ∧ fs.length = vs.length ∧ ∀ f ∈ fs, ∃ x t, f = Value.int x t
  | [], _ => ⟨[], PySem.W.KatTups.nil, rfl, fun _ hm => by simp at hm⟩
  | v :: vs, hp => by
    obtain ⟨fs, h1, h2, h3⟩ := pr_firsts (vs := vs) fun v' hm => hp v' (List.mem_cons_of_mem _ hm)
    obtain ⟨b, a, o, t1, t2, n, e, ho, hc, hd⟩ := hp v (List.mem_cons_self ..)
    subst e
    refine ⟨.int b.1 t1 :: fs, PySem.W.KatTups.cons ho hc hd rfl h1, by rw [List.length_cons, List.length_cons, h2], fun f hm => ?_⟩
    rcases List.mem_cons.mp hm with rfl | hm
    · exact ⟨b.1, t1, rfl⟩
    · exact h3 f hm
theorem pr_sortableO {a : Addr} {vs : List Value} {kb : Value → Pr} (h0 : 0 < vs.length) (hp : ∀ v ∈ vs, IsPrV s.heap v (kb v)) (ha : ∀ o, s.heap.get? a = some o → o.cls ≠ .type "tuple") :
    SrtO.SortableO prog w A s a vs fun v u => decide (prCode (kb v) < prCode (kb u)) := by
  intro h' keep
  have hp' : ∀ v ∈ vs, IsPrV h' v (kb v) := fun v hm => (hp v hm).keeps fun b o e c => keep b o (fun z => by subst z; exact ha o e c) e
  obtain ⟨fs, h1, h2, h3⟩ := pr_firsts fun v hm => ⟨_, hp' v hm⟩
  refine ⟨tuples' true, fun Q E hq => ?_, pr_cmp hp'⟩
  refine PySem.W.kat_kind (T := .type "int") h1 (by omega) (fun f hm => ?_) (by rfl) ?_
  · obtain ⟨x, t, rfl⟩ := h3 f hm
    exact PySem.W.Looks.now
  · have e : (Value.type "int" != Value.type "tuple") = true := by first | decide +kernel | rfl | decide
    rw [e]
    exact hq
end
theorem isPr_tup {h : Heap} {v : Value} {b : Pr} (p : IsTupV h v (prVs b)) : IsPrV h v b := by
  obtain ⟨a, o, its, n, e, ho, hc, hd, hv⟩ := p
  cases hv with
  | cons r1 rv =>
    cases rv with
    | cons r2 rv =>
      cases rv
      obtain ⟨t1, rfl⟩ := r1
      obtain ⟨t2, rfl⟩ := r2
      exact ⟨a, o, t1, t2, n, e, ho, hc, hd⟩
def kdPr : Kd Pr where
  vs := prVs
  dec := prOf
  low := fun _ => True
  code := prCode
  back := prOf_vs
  sortable := fun h0 hp ha => pr_sortableO h0 (fun v hv => isPr_tup (hp v hv).1) ha
/-! ### d.setdefault(t, x), t a tuple -/
def rSetdT : V → List V → Hp → VK → Prop := fun x xs H Q => ∃ (a : Addr) (kvs : List (List Key × V)) (k : List Key) (b : Addr) (d : V), x = .ref a ∧ xs = [.ref b, d] ∧ H a = some (.dT kvs) ∧ H b = some (.tup (k.map kV)) ∧ kvs.length < sizeLine ∧
  (∀ v, valV kvs k = some v → Q v H) ∧ (valV kvs k = none → Q d (upd H a (.dT (putK kvs k d))))
theorem mt_setdT {X : Cx} (hu : X.A.units + 1 < cLine) : MtR X "dict.setdefault" rSetdT := by
  intro pins s σ H x xs v us Q I rx rxs h
  obtain ⟨a, kvs, k, b, d, rfl, rfl, ha, hb, hl, q1, q2⟩ := h
  cases rx
  obtain ⟨u1, u2, rfl, r1, r2⟩ := vals2 rxs
  cases r1
  obtain ⟨z, hd, xs', rel, dd⟩ := dt_of I.hok ha
  have hz : xs'.length ≤ sizeLine := by rw [← Paired.length rel]; exact z
  refine call_setdefault_heap (knd := tupleKind (mixKind X.prog X.w)) (tupleKind_room_in1 hu) (key_of I.hok hb) hd dd (fun p hp => ?_) (fun hn h' dd' hs => ?_) hz
  · have r := rel.val k
    rw [hp] at r
    cases ev : valV kvs k with
    | none =>
      rw [ev] at r
      exact (show False from r).elim
    | some v0 =>
      rw [ev] at r
      exact ⟨v0, H, I.tok _, r, q1 v0 ev⟩
  · have r := rel.val k
    rw [hn] at r
    have ev : valV kvs k = none := by
      cases ev : valV kvs k with
      | none => rfl
      | some v0 =>
        rw [ev] at r
        exact (show False from r).elim
    have hl2 : (putK kvs k d).length ≤ sizeLine := by
      have := length_putK kvs k d
      omega
    obtain ⟨q, es, ep, hq, h2, h3, h4, _, h5⟩ := dd'
    refine ⟨d, upd H a (.dT (putK kvs k d)), d_write (t' := s.toks + (tupleKind (mixKind X.prog X.w)).draws k) I (by rw [ha]; exact True.intro) hs ⟨q, hq⟩ ⟨hl2, hd, _, (rel.put k hb r2).keeps fun c ys ec => ?_, q, es, ep, hq, h2, h3, h4, h5⟩, r2, q2 ev⟩
    rw [upd_ne (ne_of ec ha (fun z => nomatch z))]
    exact ec
end DL

set_option Elab.async false
set_option maxRecDepth 100000
set_option maxHeartbeats 2000000
namespace DL
open PySem L2 HT TL
/-- a need's drawer and way -/
def pk (n : NEnt) : Pr := match n.2 with
  | [] => (0, false)
  | b :: _ => (b.2.d, b.2.w)
def prKey (p : Pr) : List Key := [.inl p.1, .inr (wd p.2)]
theorem prKey_inj {a b : Pr} (h : prKey a = prKey b) : a = b := by
  unfold prKey at h
  injection h with h1 h2
  injection h1 with h1
  injection h2 with h2 _
  injection h2 with h2
  exact Prod.ext h1 (wd_inj h2)
def gT (gs : List (Pr × Addr)) : List (List Key × V) := gs.map fun g => (prKey g.1, .ref g.2)
theorem gT_val (gs : List (Pr × Addr)) (p : Pr) : valV (gT gs) (prKey p) = (gs.find? fun g => decide (g.1 = p)).map fun g => V.ref g.2 := by
  unfold valV gT
  induction gs with
  | nil => rfl
  | cons g gs ih =>
    rw [List.map_cons, List.find?_cons, List.find?_cons]
    by_cases q : g.1 = p
    · rw [decide_eq_true q, decide_eq_true (by show prKey g.1 = prKey p; rw [q])]
      rfl
    · rw [decide_eq_false q, decide_eq_false (fun z => q (prKey_inj z))]
      exact ih
theorem nd_fst_eq {α β : Type} {f : α → β} : ∀ {l : List α} {a b : α}, (l.map f).Nodup → a ∈ l → b ∈ l → f a = f b → a = b
  | [], _, _, _, h, _, _ => by cases h
  | c :: l, a, b, nd, ha, hb, e => by
    rw [List.map_cons, List.nodup_cons] at nd
    rcases List.mem_cons.mp ha with h1 | h1
    · rcases List.mem_cons.mp hb with h2 | h2
      · rw [h1, h2]
      · exact absurd (by rw [← h1, e]; exact List.mem_map_of_mem h2) nd.1
    · rcases List.mem_cons.mp hb with h2 | h2
      · exact absurd (by rw [← h2, ← e]; exact List.mem_map_of_mem h1) nd.1
      · exact nd_fst_eq nd.2 h1 h2 e
theorem keys_prs {H : Hp} : ∀ {gs : List (Pr × Addr)} {bs : List Addr}, IsKeys H (gT gs) bs → ∃ ps : List (Addr × Pr), bs = ps.map (·.1) ∧ ps.map (·.2) = gs.map (·.1) ∧ ∀ p ∈ ps, H p.1 = some (.tup (prVs p.2))
  | [], _, h => by
    have h : Paired (fun (p : List Key × V) b => H b = some (.tup (p.1.map kV))) [] _ := h
    cases h
    exact ⟨[], rfl, rfl, fun p hp => (by cases hp)⟩
  | g :: gs, _, h => by
    have h : Paired (fun (p : List Key × V) b => H b = some (.tup (p.1.map kV))) ((prKey g.1, .ref g.2) :: gT gs) _ := h
    cases h with
    | cons h1 h2 =>
      rename_i b bs
      obtain ⟨ps, rfl, e2, h3⟩ := keys_prs (gs := gs) h2
      refine ⟨(b, g.1) :: ps, rfl, by rw [List.map_cons, List.map_cons, e2], fun p hp => ?_⟩
      rcases List.mem_cons.mp hp with rfl | hp
      · exact h1
      · exact h3 p hp
theorem prCode_inj {a b : Pr} (h : prCode a = prCode b) : a = b := by
  unfold prCode at h
  have := b2n_le a.2
  have := b2n_le b.2
  exact Prod.ext (by omega) (b2n_inj (by omega))
theorem cc_group (a b : Bar) (h : prCode (a.d, a.w) < prCode (b.d, b.w)) : a.cc < b.cc := by
  unfold prCode at h
  unfold Bar.cc
  have := b2n_le a.t
  have := b2n_le b.t
  have h : a.d * 2 + b2n a.w < b.d * 2 + b2n b.w := h
  omega
theorem gk_pk {n : NEnt} (h : n.2 ≠ []) : gk (fun b : Bar => prCode (b.d, b.w)) (n.2.map (·.2)) = prCode (pk n) := by
  unfold pk
  cases e : n.2 with
  | nil => exact absurd e h
  | cons b r => rfl
theorem flatMap_congrM {α β : Type} {l : List α} {f g : α → List β} (h : ∀ a ∈ l, f a = g a) : l.flatMap f = l.flatMap g := by
  induction l with
  | nil => rfl
  | cons a l ih => rw [List.flatMap_cons, List.flatMap_cons, h a List.mem_cons_self, ih fun b hb => h b (List.mem_cons_of_mem _ hb)]
structure spEach (K : PySem.W.Frag) (vs : List V) (H : Hp) (Q : VK) (_ : XK) : Prop where
  h : ∃ (l : Addr) (ns : List NEnt), vs = [.ref l] ∧ NdsAt H l ns ∧ (∀ n ∈ ns, NeedOk (n.2.map (·.2)) ∧ ∀ b ∈ n.2, (b.2.d, b.2.w) = pk n) ∧ (∀ p : Pr, ∃ U0 : List Bar, U0.length ≤ 60 ∧ ∀ n ∈ ns, pk n = p → ∀ b ∈ n.2, b.2 ∈ U0) ∧ ns.length ≤ 1000 ∧
    ∀ (p : Addr) (R : List (Addr × Bar)) (H' : Hp), Same H H' → H' p = some (.tup (R.map fun b => V.ref b.1)) → (∀ b ∈ R, H' b.1 = some (.tup b.2.vs)) → Least Bar.cc (nsB ns) (R.map (·.2)) → Q (.ref p) H'
section
variable {P : Program} {w : World} {K : PySem.W.Frag} {mg : Str → Option Value} {base : Heap}
abbrev nFe : List Str := ["needs", "groups", "need", "chosen", "group"]
theorem scFe : FnScope nFe ["needs"] (defScope s_fewest_of_each) := ⟨rfl, rfl, rfl, by decide +kernel, rfl, by decide +kernel, by decide +kernel⟩
theorem ok_each {f f1 : Addr} {fd fd1 : FuncData} (F : Fun K "fewest_of_each" "fewest_of_each" s_fewest_of_each f fd) (T : Bt mg) (zL : mg "list" = none)
    (G1 : FnOk P w K mg base CX0 3 f1 fd1 ["needs"] (spGroup K)) (g1 : mg "fewest_of_group" = some (.ref f1)) (k1 : PySem.W.keepIn K (.ref f1) = true) (b1 : Binds K fd1 ["needs"] []) :
    FnOk P w K mg base CX0 5 f fd ["needs"] (spEach K) := by
  refine F.ok scFe (fun vs H Q E h => ?_) (fun cdv A outer s H vs Q E hr h => ?_)
  · obtain ⟨l, ns, rfl, _⟩ := h.h
    rfl
  · obtain ⟨l, ns, rfl, N, hn, hg, few, k⟩ := h.h
    have hu : _ + 64 < cLine := hr.units
    have hu1 := hu_of hr
    refine ⟨_, pss_cons (ps_set (i := 1) scFe.nd rfl (Or.inl rfl) pe_dnewT)
      (pss_cons (ps_for PassesOwn.never rfl (pi_list (pv 0)) (pg_name (i := 2) scFe.nd rfl (Or.inl rfl))
        (pss_one (ps_expr (pe_bm PySem.F.plainAttrs_list PySem.F.slot_list_append PySem.F.type_list_append mt_append
          (pe_bm PySem.F.plainAttrs_dict PySem.F.slot_dict_setdefault PySem.F.type_dict_setdefault (mt_setdT hu1) (pv 1) (pa_cons (pe_slice sl_tupA (pe_ix ix_list (pv 2) pe_int (fun _ _ => rfl)) po_none (po_some pe_int)) (pa_cons (pe_lst pa_nil) pa_nil))) (pa_cons (pv 2) pa_nil)))))
      (pss_cons (ps_set (i := 3) scFe.nd rfl (Or.inl rfl) (pe_lst pa_nil))
      (pss_cons (ps_for PassesOwn.never rfl (pi_list (pe_callB (cr_sortG kdPr) (by rfl) T.sorted (by decide +kernel) (pa_cons (pe_callTy (call_list_dT rfl) (by rfl) zL (by decide +kernel) (pa_cons (pv 1) pa_nil)) pa_nil))) (pg_name (i := 4) scFe.nd rfl (Or.inl rfl))
        (pss_one (ps_expr (pe_bm PySem.F.plainAttrs_list PySem.F.slot_list_extend PySem.F.type_list_extend mt_extend (pv 3) (pa_cons (pe_call G1 (hr.mono (by decide)) rfl g1 k1 b1 .nil pass0 (pa_cons (pe_dget hu1 (pv 1) (pv 4) (fun _ _ => rfl)) pa_nil)) pa_nil)))))
      (pss_one (ps_ret (pe_tupleOf (by rfl) T.tuple (pv 3))))))), ?_⟩
    intro G hG
    refine ⟨_, rfl, l, rfl, ⟨_, SqL.of (same_upd hG _ _ N.at')⟩, ?_⟩
    refine for_list (K := K) (a := l) (xs := ns.map fun n => V.ref n.1) (fun i σ H' => ∃ (gs : List (Pr × Addr)) (u2 : Option V), σ = [some (.ref l), some (.ref G), u2, none, none] ∧ Same H H' ∧ H' G = some (.dT (gT gs)) ∧ (gs.map (·.1)).Nodup ∧
        (∀ g ∈ gs, H g.2 = none ∧ g.2 ≠ G ∧ H' g.2 = some (.lst (((ns.take i).filter fun n => decide (pk n = g.1)).map fun n => V.ref n.1))) ∧ (gs.map (·.2)).Nodup ∧ (∀ n ∈ ns.take i, pk n ∈ gs.map (·.1)) ∧ gs.length ≤ i)
      ⟨[], _, rfl, same_upd hG, upd_same, List.nodup_nil, fun g hg => (by cases hg), List.nodup_nil, fun n hn => (by cases hn), Nat.le_refl _⟩ (fun i σ H' _ q => by
        obtain ⟨_, _, _, s, _⟩ := q
        exact SqL.of (s _ _ N.at')) ?_ ?_
    · rintro i x σ H1 hx ⟨gs, u2, rfl, s1, hG1, nd1, hg1, nd2, cov, lgs⟩
      rw [List.getElem?_map] at hx
      cases en : ns[i]? with
      | none => rw [en] at hx; cases hx
      | some n =>
        rw [en] at hx
        cases hx
        have hnm := List.mem_of_getElem? en
        have N1 := N.same s1
        obtain ⟨b0, rest, hb0⟩ : ∃ b0 rest, n.2 = b0 :: rest := by
          cases e : n.2 with
          | nil => exact absurd (by rw [e]; rfl) (hn n hnm).1.ne
          | cons b r => exact ⟨b, r, rfl⟩
        have epk : pk n = (b0.2.d, b0.2.w) := by
          unfold pk
          rw [hb0]
        have hel := N1.el n hnm
        rw [hb0] at hel
        have hb0m : H1 b0.1 = some (.tup b0.2.vs) := N1.bar n hnm b0 (by rw [hb0]; exact List.mem_cons_self)
        refine ⟨_, rfl, .inr (.inr (.inl ⟨rfl, .inr ⟨_, hG1⟩⟩)), ?_⟩
        refine ⟨_, rfl, n.1, _, 0, .ref b0.1, rfl, rfl, SqL.of hel, atI_nat (j := 0) rfl, ?_⟩
        refine ⟨2, rfl, b0.1, b0.2.vs, rfl, SqT.of' hb0m, fun z => absurd z.2 (by show ¬ (2 = 4); decide), fun _ p hp => ?_⟩
        have ecut : cutV b0.2.vs none (some 2) = (prKey (pk n)).map kV := by rw [epk]; rfl
        rw [ecut]
        obtain ⟨s2, f2⟩ := new_at (o := .tup ((prKey (pk n)).map kV)) hp
        generalize upd H1 p (.tup ((prKey (pk n)).map kV)) = H2 at s2 f2 ⊢
        refine ⟨(by show 0 ≤ sizeLine; decide), fun e he => ?_⟩
        obtain ⟨s3, f3⟩ := new_at (o := .lst []) he
        generalize upd H2 e (.lst []) = H3 at s3 f3 ⊢
        have s23 := s2.trans s3
        have hG3 := s23 _ _ hG1
        have s13 := s1.trans s23
        have heH : H e = none := (s1.trans s2).free he
        have neG : e ≠ G := (ne_of_none (s2 _ _ hG1) he).symm
        have htk : ∀ p : Pr, (ns.take (i + 1)).filter (fun n => decide (pk n = p)) = if pk n = p then (ns.take i).filter (fun n => decide (pk n = p)) ++ [n] else (ns.take i).filter fun n => decide (pk n = p) := fun p => by
          rw [take_succ_filter (fun n => decide (pk n = p)) en]
          by_cases q : pk n = p
          · rw [if_pos q, if_pos (decide_eq_true q)]
          · rw [if_neg q, if_neg (by rw [decide_eq_false q]; exact Bool.false_ne_true)]
        have hil := (List.getElem?_eq_some_iff.mp en).1
        have ftk : ∀ p : Pr, ((ns.take i).filter fun n => decide (pk n = p)).length ≤ 1000 := fun p => by
          have := List.length_filter_le (fun n => decide (pk n = p)) (ns.take i)
          rw [List.length_take] at this
          omega
        refine ⟨G, gT gs, prKey (pk n), p, .ref e, rfl, rfl, hG3, s3 _ _ f2, by unfold gT; rw [List.length_map]; exact small1000 (by omega), fun v hv => ?_, fun hv => ?_⟩
        · rw [gT_val] at hv
          cases eg : gs.find? fun g => decide (g.1 = pk n) with
          | none => rw [eg] at hv; cases hv
          | some g =>
            rw [eg] at hv
            cases hv
            have hgm := List.mem_of_find?_eq_some eg
            have hg1' : g.1 = pk n := by simpa using List.find?_some eg
            obtain ⟨hgH, hgG, hgl⟩ := hg1 g hgm
            have hgl3 := s23 _ _ hgl
            refine ⟨.inl ⟨rfl, _, SqL.of hgl3⟩, _, rfl, g.2, _, _, rfl, rfl, hgl3, by rw [List.length_map]; exact small1000 (by have := ftk g.1; omega), ?_⟩
            refine ⟨gs, _, rfl, fun b o eb => ?_, ?_, nd1, fun g' hg' => ?_, nd2, fun m hm => ?_, by omega⟩
            · rw [upd_ne (ne_of_none eb hgH)]
              exact s13 _ _ eb
            · rw [upd_ne hgG.symm]
              exact hG3
            · obtain ⟨h1, h2, h3⟩ := hg1 g' hg'
              refine ⟨h1, h2, ?_⟩
              rw [htk]
              by_cases q : g'.2 = g.2
              · have : g' = g := by
                  have nd := List.pairwise_map.mp nd2
                  exact nd_fst_eq nd2 hg' hgm q
                subst this
                rw [if_pos hg1'.symm, upd_same, List.map_append]
                rfl
              · have q1 : ¬ pk n = g'.1 := fun z => q (by rw [nd_fst_eq (f := (·.1)) nd1 hg' hgm (by rw [← z, hg1'])])
                rw [if_neg q1, upd_ne q]
                exact s23 _ _ h3
            · rcases mem_take_succ en hm with h | rfl
              · exact cov m h
              · rw [← hg1']
                exact List.mem_map_of_mem hgm
        · rw [gT_val] at hv
          have hni : pk n ∉ gs.map (·.1) := fun z => by
            obtain ⟨g, hgm, eg⟩ := List.mem_map.mp z
            cases e' : gs.find? fun g => decide (g.1 = pk n) with
            | none =>
              rw [List.find?_eq_none] at e'
              exact e' g hgm (decide_eq_true eg)
            | some g' => rw [e'] at hv; cases hv
          have eput : putK (gT gs) (prKey (pk n)) (.ref e) = gT (gs ++ [(pk n, e)]) := by
            rw [putK_new _ (by rw [gT_val]; exact hv)]
            unfold gT
            rw [List.map_append]
            rfl
          rw [eput]
          have f3' : (upd H3 G (.dT (gT (gs ++ [(pk n, e)])))) e = some (.lst []) := by rw [upd_ne neG]; exact f3
          refine ⟨.inl ⟨rfl, _, SqL.of f3'⟩, _, rfl, e, _, _, rfl, rfl, f3', by decide, ?_⟩
          have hno : (ns.take i).filter (fun m => decide (pk m = pk n)) = [] := by
            rw [List.filter_eq_nil_iff]
            intro m hm z
            exact hni ((of_decide_eq_true z) ▸ cov m hm)
          have hne : ∀ g ∈ gs, g.2 ≠ e := fun g hgm z => by
            have h3 := s2 _ _ (hg1 g hgm).2.2
            rw [z, he] at h3
            cases h3
          refine ⟨gs ++ [(pk n, e)], _, rfl, fun b o eb => ?_, ?_, ?_, fun g' hg' => ?_, ?_, fun m hm => ?_, by rw [List.length_append, List.length_singleton]; omega⟩
          · rw [upd_ne (ne_of_none eb heH), upd_ne (ne_of_none eb hG)]
            exact s13 _ _ eb
          · rw [upd_ne neG.symm, upd_same]
          · rw [List.map_append, List.nodup_append]
            refine ⟨nd1, by simp, fun x hx y hy => ?_⟩
            rw [List.mem_singleton.mp hy]
            intro z
            have z : x = pk n := z
            exact hni (z ▸ hx)
          · rw [htk]
            rcases List.mem_append.mp hg' with h | h
            · obtain ⟨h1, h2, h3⟩ := hg1 g' h
              refine ⟨h1, h2, ?_⟩
              rw [if_neg (fun z => hni (by rw [z]; exact List.mem_map_of_mem h)), upd_ne (hne g' h), upd_ne h2]
              exact s23 _ _ h3
            · rw [List.mem_singleton.mp h]
              refine ⟨heH, neG, ?_⟩
              show _ = some (HO.lst ((if pk n = pk n then (ns.take i).filter (fun m => decide (pk m = pk n)) ++ [n] else (ns.take i).filter fun m => decide (pk m = pk n)).map fun n => V.ref n.1))
              rw [if_pos rfl, hno, upd_same]
              rfl
          · rw [List.map_append, List.nodup_append]
            refine ⟨nd2, by simp, fun x hx y hy => ?_⟩
            rw [List.mem_singleton.mp hy]
            obtain ⟨g, hgm, rfl⟩ := List.mem_map.mp hx
            exact hne g hgm
          · rw [List.map_append]
            rcases mem_take_succ en hm with h | rfl
            · exact List.mem_append_left _ (cov m h)
            · exact List.mem_append_right _ (List.mem_singleton.mpr rfl)
    · rintro σ H1 ⟨gs, u2, rfl, s1, hG1, nd1, hg1, nd2, cov, lgs⟩
      rw [List.length_map] at hg1 cov lgs
      rw [List.take_length] at hg1 cov
      refine ⟨(by show 0 ≤ sizeLine; decide), fun Ch hCh => ?_⟩
      obtain ⟨s2, f2⟩ := new_at (o := .lst []) hCh
      generalize upd H1 Ch (.lst []) = H2 at s2 f2 ⊢
      have hG2 := s2 _ _ hG1
      have hg2 : ∀ g ∈ gs, H2 g.2 = some (.lst ((ns.filter fun n => decide (pk n = g.1)).map fun n => V.ref n.1)) := fun g hgm => s2 _ _ (hg1 g hgm).2.2
      have s12 := s1.trans s2
      have hChH : H Ch = none := s1.free hCh
      refine ⟨_, rfl, G, gT gs, rfl, .inl hG2, fun p bs hp ik => ?_⟩
      obtain ⟨ps, rfl, eps, hps⟩ := keys_prs ik
      have s3 := same_upd (o := .lst ((ps.map (·.1)).map V.ref)) hp
      have hp3 : (upd H2 p (.lst ((ps.map (·.1)).map V.ref))) p = some (.lst (ps.map fun b => V.ref b.1)) := by rw [upd_same, List.map_map]; rfl
      generalize upd H2 p (.lst ((ps.map (·.1)).map V.ref)) = H3 at s3 hp3 ⊢
      refine ⟨p, ps, rfl, SqL.of hp3, fun b hb => ⟨s3 _ _ (hps b hb), trivial⟩, fun ks q perm pw hq => ?_⟩
      obtain ⟨s4, f4⟩ := new_at (o := .lst (ks.map fun k => V.ref k.1)) hq
      generalize upd H3 q (.lst (ks.map fun k => V.ref k.1)) = H4 at s4 f4 ⊢
      have s24 := s3.trans s4
      have s14 := s12.trans s24
      have hks : ∀ k ∈ ks, H4 k.1 = some (.tup (prVs k.2)) ∧ ∃ g ∈ gs, g.1 = k.2 := fun k hk => by
        have hkp := perm.mem_iff.mp hk
        refine ⟨s24 _ _ (hps k hkp), ?_⟩
        have : k.2 ∈ gs.map (·.1) := by rw [← eps]; exact List.mem_map_of_mem hkp
        obtain ⟨g, hgm, e⟩ := List.mem_map.mp this
        exact ⟨g, hgm, e⟩
      have ndk : (ks.map (·.2)).Nodup := (perm.map (·.2)).nodup_iff.mpr (by rw [eps]; exact nd1)
      have hst : ks.Pairwise fun a b => prCode a.2 < prCode b.2 := by
        refine List.Pairwise.imp (fun {a b} h => ?_) (pw.and (List.pairwise_map.mp ndk))
        obtain ⟨h1, h2⟩ := h
        have h1 : prCode a.2 ≤ prCode b.2 := h1
        rcases Int.lt_or_eq_of_le h1 with z | z
        · exact z
        · exact absurd (prCode_inj z) h2
      have hcov : ∀ n ∈ ns, ∃ k ∈ ks, k.2 = pk n := fun n hnm => by
        have : pk n ∈ ks.map (·.2) := by
          rw [(perm.map (·.2)).mem_iff, eps]
          exact cov n hnm
        obtain ⟨k, hk, e⟩ := List.mem_map.mp this
        exact ⟨k, hk, e⟩
      have lks : ks.length ≤ 1000 := by
        have := perm.length_eq
        have h2 := congrArg List.length eps
        rw [List.length_map, List.length_map] at h2
        omega
      have hG4 := s24 _ _ hG2
      have f2' := s24 _ _ f2
      have N4 := N.same s14
      have hg4 : ∀ g ∈ gs, H4 g.2 = some (.lst ((ns.filter fun n => decide (pk n = g.1)).map fun n => V.ref n.1)) := fun g hgm => s24 _ _ (hg2 g hgm)
      have neChG : G ≠ Ch := ne_of hG4 f2' (by intro z; cases z)
      have neCh : ∀ g ∈ gs, g.2 ≠ Ch := fun g hgm z => by
        have h3 := (hg1 g hgm).2.2
        rw [z, hCh] at h3
        cases h3
      have hqCh : q ≠ Ch := fun z => by
        rw [z, s3 _ _ f2] at hq
        cases hq
      clear hp3 hG2 hg2 f2 hps ik hp hq s3 s4 s24 s2 hCh hg1 hG1 s1 s12
      refine ⟨q, rfl, ⟨_, SqL.of f4⟩, ?_⟩
      refine for_list (K := K) (a := q) (xs := ks.map fun k => V.ref k.1) (fun i σ H' => ∃ (R : Pr → List (Addr × Bar)) (u4 : Option V), σ = [some (.ref l), some (.ref G), u2, some (.ref Ch), u4] ∧ But Ch H4 H' ∧
          H' Ch = some (.lst (((ks.take i).flatMap fun k => R k.2).map fun b => V.ref b.1)) ∧ ∀ k ∈ ks.take i, (∀ b ∈ R k.2, H' b.1 = some (.tup b.2.vs)) ∧ (R k.2).length ≤ 60 ∧ Least Bar.cc ((nsB ns).filter fun n => decide (gk (fun b : Bar => prCode (b.d, b.w)) n = prCode k.2)) ((R k.2).map (·.2)))
        ⟨fun _ => [], _, rfl, But.refl _ _, f2', fun k hk => (by cases hk)⟩ (fun i σ H' _ q => by
          obtain ⟨_, _, _, B, _⟩ := q
          exact SqL.of (B _ _ hqCh f4)) ?_ ?_
      · rintro i x σ H5 hx ⟨R, u4, rfl, B5, hC5, hR5⟩
        rw [List.getElem?_map] at hx
        cases ek : ks[i]? with
        | none => rw [ek] at hx; cases hx
        | some kk =>
          rw [ek] at hx
          cases hx
          have hkm := List.mem_of_getElem? ek
          obtain ⟨hk4, g, hgm, eg⟩ := hks kk hkm
          have nkC : kk.1 ≠ Ch := ne_of hk4 f2' (by intro z; cases z)
          have hG5 := B5 _ _ neChG hG4
          have hg5 := B5 _ _ (neCh g hgm) (hg4 g hgm)
          have hk5 := B5 _ _ nkC hk4
          have hval : valV (gT gs) (prKey kk.2) = some (.ref g.2) := by
            rw [gT_val]
            cases e : gs.find? fun g => decide (g.1 = kk.2) with
            | none =>
              rw [List.find?_eq_none] at e
              exact absurd (decide_eq_true eg) (e g hgm)
            | some g' =>
              have e1 : g'.1 = kk.2 := by simpa using List.find?_some e
              rw [nd_fst_eq (f := (·.1)) nd1 (List.mem_of_find?_eq_some e) hgm (by rw [e1, eg])]
              rfl
          obtain ⟨U0, lU0, hU0⟩ := hg g.1
          have few64 : (ns.filter fun n => decide (pk n = g.1)).length ≤ 1000 := Nat.le_trans (List.length_filter_le _ _) few
          have neN : ∀ n ∈ ns, n.1 ≠ Ch := fun n hnm z => by
            have := N.el n hnm
            rw [z, hChH] at this
            cases this
          have neB : ∀ n ∈ ns, ∀ b ∈ n.2, b.1 ≠ Ch := fun n hnm b hb z => by
            have := N.bar n hnm b hb
            rw [z, hChH] at this
            cases this
          have Nf : NdsAt H5 g.2 (ns.filter fun n => decide (pk n = g.1)) := ⟨hg5, fun n hnm => by
            have := (List.mem_filter.mp hnm).1
            exact B5 _ _ (neN n this) (N4.el n this), fun n hnm b hb => by
            have := (List.mem_filter.mp hnm).1
            exact B5 _ _ (neB n this b hb) (N4.bar n this b hb)⟩
          refine ⟨_, rfl, .inl ⟨rfl, _, SqL.of hC5⟩, _, rfl, _, rfl, G, .ref g.2, rfl, by rw [← hval]; exact DGet.t (k := prKey kk.2) hG5 hk5, ⟨⟨g.2, ns.filter fun n => decide (pk n = g.1), U0, rfl, Nf, few64, fun n hnm => ?_, lU0, fun pr Rn H6 s6 h6 hRb LL => ?_⟩⟩⟩
          · obtain ⟨h1, h2⟩ := List.mem_filter.mp hnm
            exact ⟨(hn n h1).1, hU0 n h1 (of_decide_eq_true h2)⟩
          · have efil : nsB (ns.filter fun n => decide (pk n = g.1)) = (nsB ns).filter fun n => decide (gk (fun b : Bar => prCode (b.d, b.w)) n = prCode kk.2) := by
              unfold nsB
              rw [List.filter_map]
              congr 1
              refine List.filter_congr fun n hnm => ?_
              show decide (pk n = g.1) = decide (gk (fun b : Bar => prCode (b.d, b.w)) (n.2.map (·.2)) = prCode kk.2)
              rw [gk_pk (fun z => (hn n hnm).1.ne (by rw [z]; rfl)), eg]
              exact decide_eq_decide.mpr ⟨fun z => by rw [z], fun z => prCode_inj z⟩
            have lRn : Rn.length ≤ 60 := by
              have := nd_leL (L := Rn.map (·.2)) (rs := U0) LL.nd fun x hx => by
                obtain ⟨m, hm, hxm⟩ := LL.sub x hx
                obtain ⟨n, hnm, rfl⟩ := List.mem_map.mp hm
                obtain ⟨h1, h2⟩ := List.mem_filter.mp hnm
                obtain ⟨y, hy, rfl⟩ := List.mem_map.mp hxm
                exact hU0 n h1 (of_decide_eq_true h2) y hy
              rw [List.length_map] at this
              omega
            have hC6 := s6 _ _ hC5
            have neR : ∀ b ∈ Rn, b.1 ≠ Ch := fun b hb => ne_of (hRb b hb) hC6 (by intro z; cases z)
            have htk : ks.take (i + 1) = ks.take i ++ [kk] := by
              obtain ⟨hil, e⟩ := List.getElem?_eq_some_iff.mp ek
              rw [List.take_succ_eq_append_getElem hil, e]
            have hne : ∀ k ∈ ks.take i, k.2 ≠ kk.2 := fun k hk z => by
              have nd : ((ks.take (i + 1)).map (·.2)).Nodup := ndk.sublist ((List.take_sublist _ _).map _)
              rw [htk, List.map_append, List.nodup_append] at nd
              exact nd.2.2 k.2 (List.mem_map_of_mem hk) kk.2 (List.mem_singleton.mpr rfl) z
            have lsum : ∀ l : List (Addr × Pr), (∀ k ∈ l, (R k.2).length ≤ 60) → (l.flatMap fun k => R k.2).length ≤ 60 * l.length := fun l => by
              induction l with
              | nil => exact fun _ => Nat.le_refl _
              | cons a l ih =>
                intro h
                have h1 := h a List.mem_cons_self
                have h2 := ih fun k hk => h k (List.mem_cons_of_mem _ hk)
                rw [List.flatMap_cons, List.length_append, List.length_cons]
                omega
            have lC := lsum (ks.take i) fun k hk => (hR5 k hk).2.1
            have hil := (List.getElem?_eq_some_iff.mp ek).1
            rw [List.length_take] at lC
            refine ⟨Ch, pr, _, _, rfl, rfl, hC6, h6, ?_, ?_⟩
            · rw [List.length_map, List.length_map]
              have : (100000 : Nat) ≤ sizeLine := by decide
              omega
            · refine ⟨fun p => if p = kk.2 then Rn else R p, _, rfl, fun b o hb eb => by rw [upd_ne hb]; exact s6 _ _ (B5 _ _ hb eb), ?_, fun k hk => ?_⟩
              · rw [upd_same, htk, List.flatMap_append, List.map_append]
                have e1 : (ks.take i).flatMap (fun k => if k.2 = kk.2 then Rn else R k.2) = (ks.take i).flatMap fun k => R k.2 := by
                  refine flatMap_congrM fun k hk => ?_
                  rw [if_neg (hne k hk)]
                rw [e1]
                congr 3
                show Rn.map _ = ((if kk.2 = kk.2 then Rn else R kk.2) ++ []).map _
                rw [if_pos rfl, List.append_nil]
              · rw [htk] at hk
                rcases List.mem_append.mp hk with h | h
                · obtain ⟨h1, h2, h3⟩ := hR5 k h
                  show (∀ b ∈ (if k.2 = kk.2 then Rn else R k.2), _) ∧ (if k.2 = kk.2 then Rn else R k.2).length ≤ 60 ∧ Least Bar.cc _ ((if k.2 = kk.2 then Rn else R k.2).map (·.2))
                  rw [if_neg (hne k h)]
                  exact ⟨fun b hb => by rw [upd_ne (ne_of (h1 b hb) hC5 (by intro z; cases z))]; exact s6 _ _ (h1 b hb), h2, h3⟩
                · rw [List.mem_singleton.mp h]
                  show (∀ b ∈ (if kk.2 = kk.2 then Rn else R kk.2), _) ∧ (if kk.2 = kk.2 then Rn else R kk.2).length ≤ 60 ∧ Least Bar.cc _ ((if kk.2 = kk.2 then Rn else R kk.2).map (·.2))
                  rw [if_pos rfl]
                  exact ⟨fun b hb => by rw [upd_ne (neR b hb)]; exact hRb b hb, lRn, by rw [← efil]; exact LL⟩
      · rintro σ H5 ⟨R, u4, rfl, B5, hC5, hR5⟩
        rw [List.length_map, List.take_length] at hC5 hR5
        refine ⟨_, rfl, .inl ⟨Ch, _, rfl, SqL.of hC5, fun t ht => ?_⟩⟩
        have s5 : Same H H5 := fun b o eb => B5 _ _ (ne_of_none eb hChH) (s14 _ _ eb)
        have s6 := same_upd (o := .tup ((ks.flatMap fun k => R k.2).map fun b => V.ref b.1)) ht
        refine k t (ks.flatMap fun k => R k.2) _ (s5.trans s6) upd_same (fun b hb => ?_) ?_
        · obtain ⟨kx, hkx, hbx⟩ := List.mem_flatMap.mp hb
          exact s6 _ _ ((hR5 kx hkx).1 b hbx)
        · rw [List.map_flatMap]
          refine least_groups (f := fun k : Addr × Pr => prCode k.2) (γ := fun b : Bar => prCode (b.d, b.w)) cc_group hst (fun n hnm => ?_) fun kx hkx => (hR5 kx hkx).2.2
          obtain ⟨m, hm, rfl⟩ := List.mem_map.mp hnm
          have hne : m.2 ≠ [] := fun z => (hn m hm).1.ne (by rw [z]; rfl)
          rw [gk_pk hne]
          obtain ⟨kx, hkx, e⟩ := hcov m hm
          refine ⟨⟨kx, hkx, by rw [e]⟩, fun b hb => ?_⟩
          obtain ⟨y, hy, rfl⟩ := List.mem_map.mp hb
          rw [(hn m hm).2 y hy]
end
end DL

set_option Elab.async false
set_option maxRecDepth 100000
set_option maxHeartbeats 2000000
namespace DL
open PySem L2 HT TL
/-! ### all bars -/
/-- at D the bars that came so far -/
structure AccB (H0 H : Hp) (D : Addr) (pre : List Bar) : Prop where
  s : Same H0 H
  h : ∃ bs : List (Addr × Bar), H D = some (.lst (bs.map fun b => V.ref b.1)) ∧ bs.map (·.2) = pre ∧ ∀ b ∈ bs, H b.1 = some (.tup b.2.vs)
theorem AccB.len {H0 H : Hp} {D : Addr} {pre : List Bar} (A : AccB H0 H D pre) {bs : List (Addr × Bar)} (e : bs.map (·.2) = pre) : bs.length = pre.length := by rw [← e, List.length_map]
theorem AccB.push {H H4 H5 : Hp} {D q : Addr} {pre : List Bar} {b : Bar} (hD : H D = none) (A : AccB H H4 D pre) (s5 : Same H4 H5) (f5 : H5 q = some (.tup b.vs)) (l : pre.length < 1000) : ∃ xs, H5 D = some (.lst xs) ∧ xs.length = pre.length ∧ AccB H (upd H5 D (.lst (xs ++ [.ref q]))) D (pre ++ [b]) := by
  obtain ⟨bs, h1, h2, h3⟩ := A.h
  have hD5 := s5 _ _ h1
  refine ⟨_, hD5, by rw [← h2, List.length_map, List.length_map], fun b o eb => by rw [upd_ne (ne_of_none eb hD)]; exact s5 _ _ (A.s _ _ eb), bs ++ [(q, b)], ?_, ?_, fun x hb => ?_⟩
  · rw [upd_same, List.map_append]
    rfl
  · rw [List.map_append, h2]
    rfl
  · rcases List.mem_append.mp hb with h | h
    · have z := s5 _ _ (h3 x h)
      rw [upd_ne (ne_of z hD5 (by intro y; cases y))]
      exact z
    · rw [List.mem_singleton.mp h, upd_ne (ne_of f5 hD5 (by intro y; cases y))]
      exact f5
end DL

set_option Elab.async false
set_option maxRecDepth 100000
set_option maxHeartbeats 2000000
namespace DL
open PySem L2 HT TL RZ
/-! ### pulls that agree with what was seen -/
def thV : Option Int → V
  | none => .non
  | some d => .int d
end DL

set_option Elab.async false
set_option maxRecDepth 100000
set_option maxHeartbeats 1000000
namespace DL
open PySem L2 HT TL
/-! ### guards that are refused: pairs, numbers -/
def pairB (n : Int) (xs : List V) : Bool := setB n xs && decide (V.int (xs.length : Int) = V.int 2)
structure spIsPair (K : PySem.W.Frag) (vs : List V) (H : Hp) (Q : VK) (_ : XK) : Prop where
  h : ∃ (n : Int) (v : V), vs = [.int n, v] ∧ ((∃ t : Value, TyX K H v t ∧ PySem.W.kitOne K t (.type "tuple") = some false ∧ Q (.bl false) H) ∨
    ∃ (a : Addr) (xs : List V), v = .ref a ∧ SqT K H a xs ∧ xs.length ≤ 1000 ∧ (∀ x ∈ xs, scV x = true) ∧ ∀ H', Same H H' → Q (.bl (pairB n xs)) H')
def GoodPair (K : PySem.W.Frag) (H : Hp) (n : Int) (y : V) : Prop := ∃ a xs, y = .ref a ∧ SqT K H a xs ∧ xs.length ≤ 1000 ∧ (∀ x ∈ xs, scV x = true) ∧ pairB n xs = true
def NoPair (K : PySem.W.Frag) (H : Hp) (n : Int) (y : V) : Prop := (∃ t : Value, TyX K H y t ∧ PySem.W.kitOne K t (.type "tuple") = some false) ∨
  ∃ a xs, y = .ref a ∧ SqT K H a xs ∧ xs.length ≤ 1000 ∧ (∀ x ∈ xs, scV x = true) ∧ pairB n xs = false
theorem GoodPair.same {K : PySem.W.Frag} {H H' : Hp} {n : Int} {y : V} (h : GoodPair K H n y) (s : Same H H') : GoodPair K H' n y := by
  obtain ⟨a, xs, e, S, r⟩ := h
  exact ⟨a, xs, e, SqT.same s S, r⟩
theorem GoodPair.sp {K : PySem.W.Frag} {H : Hp} {n : Int} {y : V} {Q : VK} {E : XK} (h : GoodPair K H n y) (k : ∀ H', Same H H' → Q (.bl true) H') : spIsPair K [.int n, y] H Q E := by
  obtain ⟨a, xs, rfl, S, hl, hs, e⟩ := h
  exact ⟨⟨n, _, rfl, .inr ⟨a, xs, rfl, S, hl, hs, fun H' s => by rw [e]; exact k H' s⟩⟩⟩
theorem NoPair.sp {K : PySem.W.Frag} {H : Hp} {n : Int} {y : V} {Q : VK} {E : XK} (h : NoPair K H n y) (k : ∀ H', Same H H' → Q (.bl false) H') : spIsPair K [.int n, y] H Q E := by
  rcases h with ⟨t, h1, h2⟩ | ⟨a, xs, rfl, S, hl, hs, e⟩
  · exact ⟨⟨n, _, rfl, .inl ⟨t, h1, h2, k H (Same.refl H)⟩⟩⟩
  · exact ⟨⟨n, _, rfl, .inr ⟨a, xs, rfl, S, hl, hs, fun H' s => by rw [e]; exact k H' s⟩⟩⟩
structure spCkNumX (K : PySem.W.Frag) (CN : Addr) (vs : List V) (H : Hp) (_ : VK) (E : XK) : Prop where
  h : ∃ (v : V) (m : Int), vs = [v, .int 0, .int m] ∧ ((∃ (t : Value) (b1 b2 : Bool), TyX K H v t ∧ PySem.W.kitOne K t (.type "int") = some b1 ∧ PySem.W.kitOne K t (.type "bool") = some b2 ∧ (b1 && !b2) = false) ∨ ∃ i : Int, v = .int i ∧ ¬ (0 ≤ i ∧ i ≤ m)) ∧
    exIni CN "n" v H E
structure spCkPrX (K : PySem.W.Frag) (C CP : Addr) (vs : List V) (H : Hp) (Q : VK) (E : XK) : Prop where
  h : ∃ (c : Addr) (v : V) (n : Int) (t : Addr), vs = [.ref c, v] ∧ CabAt C H c n t ∧
    ((∃ t, (∀ H', Same H H' → TyX K H' v t) ∧ PySem.W.kitAny K t [.type "list", .type "tuple"] = some false ∧ ∀ H', Same H H' → exIni CP "index" .non H' E) ∨
    (∃ l xs, v = .ref l ∧ SqL K H l xs ∧ (∀ H', Same H H' → TyX K H' v (.type "list")) ∧ (∀ y ∈ xs, GoodPair K H n y) ∧ ∀ H', Same H H' → Q .non H') ∨
    ∃ l pre x post, v = .ref l ∧ SqL K H l (pre ++ x :: post) ∧ (∀ H', Same H H' → TyX K H' v (.type "list")) ∧ pre.length ≤ 30 ∧ (∀ y ∈ pre, GoodPair K H n y) ∧ (∀ H', Same H H' → NoPair K H' n x) ∧ ∀ H', Same H H' → exIni CP "index" (.int pre.length) H' E)
structure spGuardsX (K : PySem.W.Frag) (C CT CP CN : Addr) (vs : List V) (H : Hp) (_ : VK) (E : XK) : Prop where
  h : ∃ (c : Addr) (v m : V) (n : Int) (t : Addr), vs = [.ref c, v, m] ∧ CabAt C H c n t ∧ ((4 < n ∧ ∀ H', Same H H' → exIni CT "most" (.int 4) H' E) ∨
    (n ≤ 4 ∧ ∀ H1, Same H H1 → spCkPrX K C CP [.ref c, v] H1 (fun _ H2 => spCkNumX K CN [m, .int 0, .int 2] H2 (fun _ _ => False) E) E))
section
variable {P : Program} {w : World} {K : PySem.W.Frag} {mg : Str → Option Value} {base : Heap}
theorem spGuardsX.imp {K : PySem.W.Frag} {C CT CP CN : Addr} {vs : List V} {H : Hp} {Q Q' : VK} {E E' : XK} (h : spGuardsX K C CT CP CN vs H Q E) (he : ∀ c d H', E c d H' → E' c d H') : spGuardsX K C CT CP CN vs H Q' E' := by
  have ex : ∀ D f x H', exIni D f x H' E → exIni D f x H' E' := fun D f x H' k d H2 h1 h2 h3 => he _ _ _ (k d H2 h1 h2 h3)
  obtain ⟨c, v, m, n, t, e, hc, h⟩ := h.h
  refine ⟨⟨c, v, m, n, t, e, hc, ?_⟩⟩
  rcases h with ⟨h4, k⟩ | ⟨h4, k⟩
  · exact .inl ⟨h4, fun H' s => ex _ _ _ _ (k H' s)⟩
  · refine .inr ⟨h4, fun H1 s1 => ?_⟩
    obtain ⟨c', v', n', t', e, hc', h⟩ := (k H1 s1).h
    refine ⟨⟨c', v', n', t', e, hc', ?_⟩⟩
    rcases h with ⟨t, h1, h2, k⟩ | ⟨l, xs, e2, h1, h2, h3, k⟩ | ⟨l, pre, x, post, e2, h1, h2, h3, h4, h5, k⟩
    · exact .inl ⟨t, h1, h2, fun H' s => ex _ _ _ _ (k H' s)⟩
    · refine .inr (.inl ⟨l, xs, e2, h1, h2, h3, fun H' s => ?_⟩)
      obtain ⟨v0, m0, e0, hm, hx⟩ := (k H' s).h
      exact ⟨⟨v0, m0, e0, hm, ex _ _ _ _ hx⟩⟩
    · exact .inr (.inr ⟨l, pre, x, post, e2, h1, h2, h3, h4, h5, fun H' s => ex _ _ _ _ (k H' s)⟩)
end
end DL

set_option Elab.async false
set_option maxRecDepth 100000
set_option maxHeartbeats 2000000
namespace DL
open PySem L2 HT TL RZ
/-! ### rows that agree, mathematics -/
/-- at l: the things that were seen, a list or a tuple -/
def SeenAt (H : Hp) (l : Addr) (xs : List (Option Int)) : Prop := H l = some (.lst (xs.map thV)) ∨ H l = some (.tup (xs.map thV))
theorem SeenAt.same {H H' : Hp} {l : Addr} {xs : List (Option Int)} (S : SeenAt H l xs) (s : Same H H') : SeenAt H' l xs := S.imp (s _ _) (s _ _)
end DL

set_option Elab.async false
set_option maxRecDepth 100000
set_option maxHeartbeats 1000000
namespace DL
open PySem L2 HT TL
/-! ### tries that are refused -/
def GoodTry (H : Hp) (n : Int) (y : V) : Prop := ∃ a x0 x1 x2, y = .ref a ∧ H a = some (.tup [x0, x1, x2]) ∧ scV x0 = true ∧ scV x1 = true ∧ scV x2 = true ∧ (∀ z, x0 = .str z → z.length ≤ 1000) ∧ tryB n x0 x1 x2 = true
def NoTry (K : PySem.W.Frag) (H : Hp) (n : Int) (x : V) : Prop := (∃ t, TyX K H x t ∧ PySem.W.kitOne K t (.type "tuple") = some false) ∨ (∃ a xs, x = .ref a ∧ SqT K H a xs ∧ xs.length ≠ 3) ∨
  ∃ a x0 x1 x2, x = .ref a ∧ SqT K H a [x0, x1, x2] ∧ scV x0 = true ∧ scV x1 = true ∧ scV x2 = true ∧ (∀ z, x0 = .str z → z.length ≤ 1000) ∧ tryB n x0 x1 x2 = false
theorem GoodTry.sp {K : PySem.W.Frag} {H : Hp} {n : Int} {y : V} {Q : VK} {E : XK} (h : GoodTry H n y) (k : ∀ H', Same H H' → Q (.bl true) H') : spIsTry K [.int n, y] H Q E := by
  obtain ⟨a, x0, x1, x2, rfl, ha, c0, c1, c2, hl, ht⟩ := h
  exact ⟨⟨n, _, rfl, .inr (.inr ⟨a, x0, x1, x2, rfl, SqT.of' ha, c0, c1, c2, hl, fun H' s => by rw [ht]; exact k H' s⟩)⟩⟩
theorem NoTry.sp {K : PySem.W.Frag} {H : Hp} {n : Int} {x : V} {Q : VK} {E : XK} (h : NoTry K H n x) (k : ∀ H', Same H H' → Q (.bl false) H') : spIsTry K [.int n, x] H Q E := by
  rcases h with ⟨t, h1, h2⟩ | ⟨a, xs, rfl, h1, h2⟩ | ⟨a, x0, x1, x2, rfl, h1, c0, c1, c2, hl, ht⟩
  · exact ⟨⟨n, _, rfl, .inl ⟨t, h1, h2, k H (Same.refl H)⟩⟩⟩
  · exact ⟨⟨n, _, rfl, .inr (.inl ⟨a, xs, rfl, h1, h2, k H (Same.refl H)⟩)⟩⟩
  · exact ⟨⟨n, _, rfl, .inr (.inr ⟨a, x0, x1, x2, rfl, h1, c0, c1, c2, hl, fun H' s => by rw [ht]; exact k H' s⟩)⟩⟩
theorem GoodTry.same {H H' : Hp} {n : Int} {y : V} (h : GoodTry H n y) (s : Same H H') : GoodTry H' n y := by
  obtain ⟨a, x0, x1, x2, e, ha, r⟩ := h
  exact ⟨a, x0, x1, x2, e, s _ _ ha, r⟩
structure spCkTrX (K : PySem.W.Frag) (CB : Addr) (vs : List V) (H : Hp) (Q : VK) (E : XK) : Prop where
  h : ∃ (n : Int) (v : V), vs = [.int n, v] ∧
    ((∃ t, (∀ H', Same H H' → TyX K H' v t) ∧ PySem.W.kitAny K t [.type "list", .type "tuple"] = some false ∧ ∀ H', Same H H' → exIni CB "index" .non H' E) ∨
    (∃ l xs, v = .ref l ∧ SqL K H l xs ∧ (∀ H', Same H H' → TyX K H' v (.type "list")) ∧ 30 < xs.length ∧ ∀ H', Same H H' → exIni CB "index" .non H' E) ∨
    ∃ l pre x post, v = .ref l ∧ SqL K H l (pre ++ x :: post) ∧ (∀ H', Same H H' → TyX K H' v (.type "list")) ∧ (pre ++ x :: post).length ≤ 30 ∧ (∀ y ∈ pre, GoodTry H n y) ∧ (∀ H', Same H H' → NoTry K H' n x) ∧ ∀ H', Same H H' → exIni CB "index" (.int pre.length) H' E)
theorem spCkTrX.imp {K : PySem.W.Frag} {CB : Addr} {vs : List V} {H : Hp} {Q Q' : VK} {E E' : XK} (h : spCkTrX K CB vs H Q E) (he : ∀ c d H', E c d H' → E' c d H') : spCkTrX K CB vs H Q' E' := by
  have ex : ∀ x H', exIni CB "index" x H' E → exIni CB "index" x H' E' := fun x H' k d H2 h1 h2 h3 => he _ _ _ (k d H2 h1 h2 h3)
  obtain ⟨n, v, e, h⟩ := h.h
  rcases h with ⟨t, h1, h2, k⟩ | ⟨l, xs, e2, h1, h2, h3, k⟩ | ⟨l, pre, x, post, e2, h1, h2, h3, h4, h5, k⟩
  · exact ⟨⟨n, v, e, .inl ⟨t, h1, h2, fun H' s => ex _ _ (k H' s)⟩⟩⟩
  · exact ⟨⟨n, v, e, .inr (.inl ⟨l, xs, e2, h1, h2, h3, fun H' s => ex _ _ (k H' s)⟩)⟩⟩
  · exact ⟨⟨n, v, e, .inr (.inr ⟨l, pre, x, post, e2, h1, h2, h3, h4, h5, fun H' s => ex _ _ (k H' s)⟩)⟩⟩
end DL

set_option Elab.async false
set_option maxRecDepth 100000
set_option maxHeartbeats 2000000
namespace DL
open PySem L2 HT TL
/-! ### tries, and the bars that they leave -/
abbrev Tr := List Bool × Int × Bool
abbrev TEnt := Addr × Tr
def trVs (t : Tr) : List V := [.str (sstr t.1), .int t.2.1, .bl t.2.2]
/-- at l tries of n drawers, a list or a tuple -/
structure TrAt (H : Hp) (l : Addr) (n : Nat) (ts : List TEnt) : Prop where
  at' : H l = some (.lst (ts.map fun t => V.ref t.1)) ∨ H l = some (.tup (ts.map fun t => V.ref t.1))
  el : ∀ t ∈ ts, H t.1 = some (.tup (trVs t.2))
  ok : ∀ t ∈ ts, t.2.1.length = n ∧ 0 ≤ t.2.2.1 ∧ t.2.2.1 < n
  few : ts.length ≤ 30
theorem TrAt.same {H H' : Hp} {l : Addr} {n : Nat} {ts : List TEnt} (T : TrAt H l n ts) (s : Same H H') : TrAt H' l n ts := ⟨T.at'.imp (s _ _) (s _ _), fun t ht => s _ _ (T.el t ht), T.ok, T.few⟩
theorem TrAt.seq {H : Hp} {l : Addr} {n : Nat} {ts : List TEnt} (T : TrAt H l n ts) (K : PySem.W.Frag) : SqA K H l (ts.map fun t => V.ref t.1) := T.at'.imp (fun h => SqL.of h) fun h => SqT.of' h
def hT (b : Bar) (t : Tr) : Bool := hind b t.1 t.2.1
/-- at p a list of bars -/
structure BLst (H : Hp) (p : Addr) (ks : List (Addr × Bar)) : Prop where
  at' : H p = some (.lst (ks.map fun k => V.ref k.1))
  el : ∀ k ∈ ks, H k.1 = some (.tup k.2.vs)
theorem BLst.same {H H' : Hp} {p : Addr} {ks : List (Addr × Bar)} (B : BLst H p ks) (s : Same H H') : BLst H' p ks := ⟨s _ _ B.at', fun k hk => s _ _ (B.el k hk)⟩
end DL

set_option Elab.async false
set_option maxRecDepth 100000
set_option maxHeartbeats 2000000
namespace DL
open PySem L2 HT TL
/-! ### x in a list or tuple of data -/
theorem any_barD (bs : List Bar) (b : Bar) : (bs.map barD).any (fun z => PyData.eqv z (barD b)) = decide (b ∈ bs) := by
  rw [List.any_map, Bool.eq_iff_iff, List.any_eq_true, decide_eq_true_iff]
  constructor
  · rintro ⟨x, hx, e⟩
    have e : PyData.eqv (barD x) (barD b) = true := e
    rw [eqv_bar] at e
    rw [← of_decide_eq_true e]
    exact hx
  · intro h
    exact ⟨b, h, by show PyData.eqv (barD b) (barD b) = true; rw [eqv_bar]; exact decide_eq_true rfl⟩
/-! ### data of needs -/
/-! ### what is known of needs -/
end DL

set_option Elab.async false
set_option maxRecDepth 100000
set_option maxHeartbeats 2000000
namespace DL
open PySem L2 HT TL
/-! ### what the law draws and asks of tries -/
theorem refs_neR {α : Type} {H : Hp} {r a x : Addr} {l : List α} {f : α → Addr} (R : RowOk H r a) (h : H x = some (.lst (l.map fun t => V.ref (f t)))) : x ≠ r := fun e => by
  obtain ⟨i, m, c, hr, _⟩ := R.h
  rw [e, hr] at h
  injection h with h
  injection h with h
  match l, h with
  | [], h => cases h
  | [_], h => cases h
  | _ :: _ :: _, h => cases h
theorem tup_ne {H : Hp} {r a x : Addr} {xs : List V} (R : RowOk H r a) (h : H x = some (.tup xs)) : x ≠ r := fun e => by
  obtain ⟨i, m, c, hr, _⟩ := R.h
  rw [e, hr] at h
  cases h
theorem TrAt.but {H H' : Hp} {r a l : Addr} {n : Nat} {ts : List TEnt} (T : TrAt H l n ts) (R : RowOk H r a) (b : But r H H') : TrAt H' l n ts :=
  ⟨T.at'.imp (fun h => b _ _ (refs_neR R h) h) (fun h => b _ _ (tup_ne R h) h), fun t ht => b _ _ (tup_ne R (T.el t ht)) (T.el t ht), T.ok, T.few⟩
theorem BLst.but {H H' : Hp} {r a p : Addr} {ks : List (Addr × Bar)} (B : BLst H p ks) (R : RowOk H r a) (b : But r H H') : BLst H' p ks :=
  ⟨b _ _ (refs_neR R B.at') B.at', fun k hk => b _ _ (tup_ne R (B.el k hk)) (B.el k hk)⟩
end DL

set_option Elab.async false
set_option maxRecDepth 100000
set_option maxHeartbeats 1000000

set_option Elab.async false
set_option maxRecDepth 100000
set_option linter.all false
namespace DL
/-! ### all ascending lists of so many of some things, in their order -/
def lexS : List Int → List Int → Prop
  | a :: x, b :: y => a < b ∨ (a = b ∧ lexS x y)
  | _, _ => False
theorem lexS.app : ∀ {a b c d : List Int}, lexS a b → lexS (a ++ c) (b ++ d)
  | [], _, _, _, h => h.elim
  | _ :: _, [], _, _, h => h.elim
  | x :: a, y :: b, _, _, h => by
    rcases h with h | ⟨rfl, h⟩
    · exact .inl h
    · exact .inr ⟨rfl, lexS.app h⟩
theorem lexS.same : ∀ (a : List Int) {c d : List Int}, lexS c d → lexS (a ++ c) (a ++ d)
  | [], _, _, h => h
  | x :: a, _, _, h => .inr ⟨rfl, lexS.same a h⟩
theorem lexS.not : ∀ {a b : List Int}, lexS a b → ¬ lexLe b a
  | [], _, h => h.elim
  | _ :: _, [], h => h.elim
  | x :: a, y :: b, h => fun z => by
    rcases h with h | ⟨rfl, h⟩
    · rcases z with z | ⟨z, _⟩
      · omega
      · omega
    · rcases z with z | ⟨_, z⟩
      · omega
      · exact lexS.not h z
section
variable {α : Type} [DecidableEq α] {κ : α → Int}
theorem nd_leS {β : Type} [DecidableEq β] : ∀ {L rs : List β}, L.Nodup → (∀ x ∈ L, x ∈ rs) → L.length ≤ rs.length
  | [], _, _, _ => Nat.zero_le _
  | a :: L, rs, nd, h => by
    rw [List.nodup_cons] at nd
    have ha := h a List.mem_cons_self
    have := nd_leS (rs := rs.erase a) nd.2 fun x hx => (List.mem_erase_of_ne (fun e : x = a => nd.1 (by rw [← e]; exact hx))).mpr (h x (List.mem_cons_of_mem _ hx))
    rw [List.length_erase_of_mem ha] at this
    have : 0 < rs.length := List.length_pos_of_mem ha
    rw [List.length_cons]
    omega
end
end DL

set_option Elab.async false
set_option maxRecDepth 100000
namespace DL
open PySem L2 HT TL RZ
def single (ks : List (Addr × Bar)) (n : Nat) (es : List Ent) (b : Bar) : Bool := (es.flatMap fun e => needE ks n e.1).any fun l => decide (l.map (·.2) = [b])
structure spNeedless (C : Addr) (vs : List V) (H : Hp) (Q : VK) (_ : XK) : Prop where
  h : ∃ (c t : Addr) (ks : List (Addr × Bar)) (n : Nat), vs = [.ref c] ∧ CabAt C H c n t ∧ BarsAt H t ks ∧ OkBars n (ks.map (·.2)) ∧ 1 ≤ n ∧ n ≤ 7 ∧ ks.length ≤ 100 ∧
    ∀ (p : Addr) (es : List Ent) (H' : Hp), Same H H' → H p = none → H' p = some (.lst ((ks.filter fun k => !(single ks n es k.2)).map fun k => V.ref k.1)) → BI (ks.map (·.2)) (shutS n) es.length es → Q (.ref p) H'
def needD (gs : List (Addr × List (Addr × Bar))) : List PyData := gs.map fun g => .list (g.2.map fun k => barD k.2)
theorem dpAll_needs {K : PySem.W.Frag} {H : Hp} {x : Addr} {ks : List (Addr × Bar)} (hel : ∀ k ∈ ks, H k.1 = some (.tup k.2.vs)) : ∀ {gs : List (Addr × List (Addr × Bar))}, NeedsAt H x ks gs → DpAll K H (gs.map fun g => V.ref g.1) (needD gs)
  | [], _ => .nil
  | g :: gs, N => by
    obtain ⟨h1, _, h3⟩ := N.el g List.mem_cons_self
    exact .cons (.lst (SqL.of h1) (dpAll_bars fun k hk => hel k (h3 k hk))) (dpAll_needs hel ⟨fun g' hg' => N.el g' (List.mem_cons_of_mem _ hg')⟩)
theorem dok_needs (gs : List (Addr × List (Addr × Bar))) : dok 4 (.list (needD gs)) := dok_list fun d hd => by
  unfold needD at hd
  obtain ⟨g, _, rfl⟩ := List.mem_map.mp hd
  exact dok_list (dok_bars _)
theorem any_need {gs : List (Addr × List (Addr × Bar))} (b : Bar) : ((needD gs).any fun z => PyData.eqv z (.list [barD b])) = (gs.map (·.2)).any fun l => decide (l.map (·.2) = [b]) := by
  unfold needD
  rw [List.any_map, List.any_map]
  refine congrArg (fun f => gs.any f) ?_
  funext g
  show PyData.eqv (.list (g.2.map fun k => barD k.2)) (.list [barD b]) = decide (g.2.map (·.2) = [b])
  rw [← eqv_barsL (g.2.map (·.2)) [b], List.map_map]
  rfl
section
variable {P : Program} {w : World} {K : PySem.W.Frag} {mg : Str → Option Value} {base : Heap}
abbrev nNl : List Str := ["cabinet", "needs", "bar"]
theorem scNl : FnScope nNl ["cabinet"] (defScope s_needless) := ⟨rfl, rfl, rfl, by decide +kernel, rfl, by decide +kernel, by decide +kernel⟩
theorem ok_needless {f f1 f2 C : Addr} {fd fd1 fd2 : FuncData} (F : Fun K "needless" "needless" s_needless f fd) (CP : CabP P w K mg base C)
    (G1 : FnOk P w K mg base CX0 1 f1 fd1 ["cabinet"] (spCkCab C)) (g1 : mg "check_cabinet" = some (.ref f1)) (k1 : PySem.W.keepIn K (.ref f1) = true) (b1 : Binds K fd1 ["cabinet"] [])
    (G2 : FnOk P w K mg base CX0 14 f2 fd2 ["cabinet"] (spBarredP C)) (g2 : mg "barred_pulls" = some (.ref f2)) (k2 : PySem.W.keepIn K (.ref f2) = true) (b2 : Binds K fd2 ["cabinet"] []) :
    FnOk P w K mg base CX0 16 f fd ["cabinet"] (spNeedless C) := by
  refine F.ok scNl (fun vs H Q E h => ?_) (fun cdv A outer s H vs Q E hr h => ?_)
  · obtain ⟨c, t, ks, n, rfl, _⟩ := h.h
    rfl
  · obtain ⟨c, t, ks, n, rfl, ⟨dx, hc⟩, hB, O, n1, n7, n100, k⟩ := h.h
    have hu := hr.un
    rw [Nat.add_assoc] at hu
    have hu2 := Nat.lt_of_le_of_lt (Nat.add_le_add_left (by decide : 65 ≤ 16 * 15 + 200) _) hu
    obtain ⟨pB, gB, fdB, hpB, GB, bB⟩ := CP.b
    refine ⟨_, pss_cons (ps_expr (pe_call G1 (hr.mono (by decide)) rfl g1 k1 b1 .nil pass0 (pa_cons (pv 0) pa_nil)))
      (pss_cons (ps_set (i := 1) scNl.nd rfl (Or.inr rfl) (pe_call G2 (hr.mono (by decide)) rfl g2 k2 b2 .nil pass0 (pa_cons (pv 0) pa_nil)))
      (pss_one (ps_ret (pe_lc (own := [("bar", 2)]) (g := gName 2) (by rfl) scNl.nd (pi_tup (pe_prop (pv 0) CP.cl hpB GB (hr.mono (by decide)) bB .nil pass0 rfl)) (blkOk_by (N := nNl) (sc := defScope s_needless) (by decide +kernel)) (fun _ _ _ _ _ => pg_name (i := 2) scNl.nd rfl (Or.inl rfl))
        (fun _ _ _ _ _ => pts_one (pt_cmpR (op_notInDK (K := K) rfl hu2) (pe_lst (pa_cons (pv 2) pa_nil)) (pv 1) (by rfl))) (fun _ _ _ _ _ => pv 2))))), ?_⟩
    refine ⟨_, rfl, ⟨⟨c, _, t, rfl, ⟨dx, hc⟩, ?_⟩⟩⟩
    refine ⟨_, rfl, ⟨⟨c, t, ks, n, rfl, ⟨dx, hc⟩, hB, O, n1, n7, n100, fun p es gs H1 s1 hp h1 N1 I e1 l1 => ?_⟩⟩⟩
    have hc1 := s1 _ _ hc
    have hB1 := hB.same s1
    refine ⟨_, rfl, c, dx, _, rfl, hc1, ⟨⟨c, dx, _, t, rfl, hc1, ?_⟩⟩⟩
    refine ⟨t, rfl, ⟨_, SqT.of' hB1.tu⟩, fun D hD => ?_⟩
    refine lc_pick (walk_bars (K := K) (a := t) (l := ks) (f := fun k => V.ref k.1)) ks rfl (by omega) (fun k => !(single ks n es k.2)) (fun k => V.ref k.1) hD (fun H' s => SqT.of' (s _ _ hB1.tu)) ?_ (fun H' s hD1 => k D es H' (s1.trans s) (s1.free hD) hD1 I)
    rintro i x kk H2 H2' Tk Nk ek s2 ⟨rfl, z, ez, rfl⟩ kT kF
    rw [ek] at ez
    cases ez
    have hm : kk ∈ ks := List.mem_of_getElem? ek
    have hB2 := hB1.same s2
    refine ⟨rfl, ?_⟩
    refine ⟨_, rfl, (by show 1 ≤ sizeLine; decide), fun q hq => ?_⟩
    obtain ⟨s3, f3⟩ := new_at (o := .lst [.ref kk.1]) hq
    generalize upd H2' q (.lst [.ref kk.1]) = H3 at s3 f3 ⊢
    have N3 := (N1.same s2).same s3
    have hB3 := hB2.same s3
    refine ⟨_, rfl, .list [barD kk.2], needD gs, .lst (SqL.of f3) (.cons (dp_bar (SqT.of' (hB3.el kk hm))) .nil), .lst (SqL.of (s3 _ _ (s2 _ _ h1))) (dpAll_needs hB3.el N3), dok_shaped (dok_list (dok_bars [kk])) (by decide), dok_shaped (dok_needs gs) (by decide), _, rfl, ?_⟩
    rw [any_need, e1]
    show if (!(single ks n es kk.2)) = true then _ else _
    cases e : !(single ks n es kk.2) with
    | true => exact iteT ⟨_, rfl, kT _ e s3⟩
    | false => exact iteF (kF _ e s3)
end
end DL

set_option Elab.async false
set_option maxRecDepth 100000
namespace DL
open PySem L2 HT TL RZ
/-! ### a bar that stands alone against some pull -/
theorem asc_nodup {n : Int} {bs : List Bar} (O : OkBars n bs) : bs.Nodup := O.asc.imp fun {a b} h z => by
  rw [z] at h
  omega
theorem map_filter {α β : Type} (f : α → β) (p : β → Bool) (l : List α) : (l.filter fun x => p (f x)).map f = (l.map f).filter p := by
  rw [List.filter_map]
  rfl
theorem single_iff {ks : List (Addr × Bar)} {n : Nat} {es : List Ent} {b : Bar} (hb : 0 ≤ b.d ∧ b.d < n) : single ks n es b = es.any fun e => decide (((ks.map (·.2)).filter fun x => hind x e.1 b.d) = [b]) := by
  rw [Bool.eq_iff_iff]
  unfold single
  rw [List.any_eq_true, List.any_eq_true]
  constructor
  · rintro ⟨l, hl, h⟩
    obtain ⟨e, he, hl⟩ := List.mem_flatMap.mp hl
    obtain ⟨hl1, _⟩ := List.mem_filter.mp hl
    obtain ⟨d, _, rfl⟩ := List.mem_map.mp hl1
    have h := of_decide_eq_true h
    rw [map_filter (fun k : Addr × Bar => k.2) (fun x => hind x e.1 d)] at h
    have hbm : b ∈ (ks.map (·.2)).filter fun x => hind x e.1 d := by rw [h]; exact List.mem_cons_self
    have hh := (List.mem_filter.mp hbm).2
    have hd : b.d = d := by
      unfold hind at hh
      rw [Bool.and_eq_true] at hh
      exact of_decide_eq_true hh.1
    subst hd
    exact ⟨e, he, decide_eq_true h⟩
  · rintro ⟨e, he, h⟩
    have h := of_decide_eq_true h
    refine ⟨ks.filter fun k => hind k.2 e.1 b.d, List.mem_flatMap.mpr ⟨e, he, List.mem_filter.mpr ⟨List.mem_map.mpr ⟨b.d, drs_mem.mpr hb, rfl⟩, ?_⟩⟩, decide_eq_true ?_⟩
    · cases q : ks.filter fun k => hind k.2 e.1 b.d with
      | nil =>
        exfalso
        rw [← map_filter (fun k : Addr × Bar => k.2) (fun x => hind x e.1 b.d), q] at h
        cases h
      | cons a l => rfl
    · rw [map_filter (fun k : Addr × Bar => k.2) (fun x => hind x e.1 b.d)]
      exact h
theorem one_all {α : Type} [DecidableEq α] {l : List α} {b : α} (nd : l.Nodup) (h : ∀ x ∈ l, x = b) (hb : b ∈ l) : l = [b] := by
  cases l with
  | nil => cases hb
  | cons a l =>
    have ha : a = b := h a List.mem_cons_self
    subst ha
    cases l with
    | nil => rfl
    | cons c l =>
      have hc : c = a := h c (List.mem_cons_of_mem _ List.mem_cons_self)
      rw [List.nodup_cons] at nd
      exact absurd (by rw [hc]; exact List.mem_cons_self) nd.1
end DL

set_option Elab.async false
set_option maxRecDepth 100000
set_option maxHeartbeats 2000000
namespace DL
open PySem L2 HT TL
/-! ### > of bars -/
/-! ### tuples of bars -/
structure TupsAt (H : Hp) (p : Addr) (ss : List NEnt) : Prop where
  at' : H p = some (.lst (ss.map fun s => V.ref s.1))
  el : ∀ s ∈ ss, H s.1 = some (.tup (s.2.map fun b => V.ref b.1))
  bar : ∀ s ∈ ss, ∀ b ∈ s.2, H b.1 = some (.tup b.2.vs)
theorem TupsAt.same {H H' : Hp} {p : Addr} {ss : List NEnt} (T : TupsAt H p ss) (s : Same H H') : TupsAt H' p ss := ⟨s _ _ T.at', fun x hx => s _ _ (T.el x hx), fun x hx b hb => s _ _ (T.bar x hx b hb)⟩
def kc (k : Addr × Bar) : Int := k.2.code
theorem eqv_tnil (xs : List PyData) : PyData.eqv (.tuple xs) (.tuple []) = xs.isEmpty := by
  cases xs <;> simp [PyData.eqv, PyData.eqvAll]
end DL

set_option Elab.async false
set_option maxRecDepth 100000
set_option maxHeartbeats 1000000

set_option Elab.async false
set_option maxRecDepth 100000
set_option maxHeartbeats 1000000
namespace DL
open PySem L2 HT TL RZ
/-! ### the bars against each pull that does not go, all of a cabinet's reached standings -/
def needN (bs : List Bar) (n : Nat) (es : List Ent) : List (List Bar) := es.flatMap fun e => ((drs n).map fun d => bs.filter fun b => hind b e.1 d).filter fun l => !l.isEmpty
theorem needN_mem {bs : List Bar} {n : Nat} {es : List Ent} {l : List Bar} : l ∈ needN bs n es ↔ ∃ e ∈ es, ∃ d : Int, (0 ≤ d ∧ d < n) ∧ l = bs.filter (fun b => hind b e.1 d) ∧ l ≠ [] := by
  unfold needN
  rw [List.mem_flatMap]
  constructor
  · rintro ⟨e, he, h⟩
    obtain ⟨h1, h2⟩ := List.mem_filter.mp h
    obtain ⟨d, hd, rfl⟩ := List.mem_map.mp h1
    refine ⟨e, he, d, drs_mem.mp hd, rfl, fun z => ?_⟩
    rw [z] at h2
    cases h2
  · rintro ⟨e, he, d, hd, rfl, h⟩
    refine ⟨e, he, List.mem_filter.mpr ⟨List.mem_map.mpr ⟨d, drs_mem.mpr hd, rfl⟩, ?_⟩⟩
    cases q : bs.filter (fun b => hind b e.1 d) with
    | nil => exact absurd q h
    | cons a l => rfl
theorem needN_ents {ks : List (Addr × Bar)} {n : Nat} {es : List Ent} {gs : List NEnt} (h : gs.map (·.2) = es.flatMap (fun e => needE ks n e.1)) : nsB gs = needN (ks.map (·.2)) n es := by
  have e1 : nsB gs = (gs.map (·.2)).map (List.map (·.2)) := by
    unfold nsB
    rw [List.map_map]
    rfl
  rw [e1, h, List.map_flatMap]
  unfold needN
  congr 1
  funext e
  unfold needE
  generalize drs n = D
  induction D with
  | nil => rfl
  | cons d D ih =>
    rw [List.map_cons, List.map_cons, List.filter_cons, List.filter_cons, ← map_filter (fun k : Addr × Bar => k.2) (fun b => hind b e.1 d) ks]
    cases q : ks.filter (fun k => hind k.2 e.1 d) with
    | nil => exact ih
    | cons a l => exact congrArg (((a :: l).map (·.2)) :: ·) ih
theorem needN_ok {bs : List Bar} {n : Nat} {es : List Ent} {l : List Bar} (O : OkBars n bs) (n7 : n ≤ 7) (h : l ∈ needN bs n es) : NeedOk l ∧ ∀ b ∈ l, b ∈ bs := by
  obtain ⟨e, he, d, hd, rfl, hne⟩ := needN_mem.mp h
  exact ⟨⟨hne, O.asc.filter _, fun b hb => (O.ok b (List.mem_filter.mp hb).1).low (by omega)⟩, fun b hb => (List.mem_filter.mp hb).1⟩
theorem hind_iff {b : Bar} {st : List Bool} {d : Int} : hind b st d = true ↔ b.d = d ∧ sat st d = b.w ∧ sat st b.o = b.t := by
  unfold hind
  rw [Bool.and_eq_true, Bool.and_eq_true, decide_eq_true_iff, beq_iff_eq, beq_iff_eq]
/-- bars without which the rows stay the same are those that meet each need -/
theorem apart_iff {bs B : List Bar} {n : Nat} {es : List Ent} (hn : ∀ e ∈ es, e.1.length = n) (hB : ∀ b ∈ B, b ∈ bs) : apartE bs B es = none ↔ ∀ l ∈ needN bs n es, ∃ b ∈ l, b ∈ B := by
  constructor
  · intro h l hl
    obtain ⟨e, he, d, hd, rfl, hne⟩ := needN_mem.mp hl
    have h1 := diff_none (apart_none' h e he) hd.1 (by rw [hn e he]; exact hd.2)
    obtain ⟨b, hb⟩ := List.exists_mem_of_ne_nil _ hne
    obtain ⟨b1, b2⟩ := List.mem_filter.mp hb
    unfold goesB at h1
    rw [List.any_eq_true.mpr ⟨b, b1, b2⟩] at h1
    have h2 : (B.any fun b => hind b e.1 d) = true := by
      cases q : B.any fun b => hind b e.1 d with
      | true => rfl
      | false => rw [q] at h1; cases h1
    obtain ⟨c, c1, c2⟩ := List.any_eq_true.mp h2
    exact ⟨c, List.mem_filter.mpr ⟨hB c c1, c2⟩, c1⟩
  · intro h
    refine apart_none_of fun e he => ?_
    unfold diffD
    rw [List.find?_eq_none]
    intro d hd z
    have hd := drs_mem.mp hd
    rw [hn e he] at hd
    have z : goesB bs e.1 d ≠ goesB B e.1 d := by simpa using z
    refine z ?_
    unfold goesB
    congr 1
    rw [Bool.eq_iff_iff]
    constructor
    · intro q
      obtain ⟨b, b1, b2⟩ := List.any_eq_true.mp q
      obtain ⟨c, c1, c2⟩ := h _ (needN_mem.mpr ⟨e, he, d, hd, rfl, List.ne_nil_of_mem (List.mem_filter.mpr ⟨b1, b2⟩)⟩)
      exact List.any_eq_true.mpr ⟨c, c2, (List.mem_filter.mp c1).2⟩
    · intro q
      obtain ⟨b, b1, b2⟩ := List.any_eq_true.mp q
      exact List.any_eq_true.mpr ⟨b, hB b b1, b2⟩
/-! ### the groups of needs -/
def obN (n : Nat) (p : Pr) : List Bar := (drs n).flatMap fun o => [⟨p.1, p.2, o, false⟩, ⟨p.1, p.2, o, true⟩]
theorem obN_len (n : Nat) (p : Pr) : (obN n p).length = n * 2 := by
  have : ∀ l : List Int, (l.flatMap fun o => ([⟨p.1, p.2, o, false⟩, ⟨p.1, p.2, o, true⟩] : List Bar)).length = l.length * 2 := fun l => by
    induction l with
    | nil => rfl
    | cons a l ih =>
      rw [List.flatMap_cons, List.length_append, ih]
      show 2 + l.length * 2 = (l.length + 1) * 2
      omega
  unfold obN
  rw [this, drs_len]
theorem obN_mem {n : Nat} {b : Bar} (h : b.ok n) : b ∈ obN n (b.d, b.w) := by
  obtain ⟨h1, h2, h3, h4, h5⟩ := h
  refine List.mem_flatMap.mpr ⟨b.o, drs_mem.mpr ⟨h3, h4⟩, ?_⟩
  cases b with
  | mk d w o t => cases t <;> simp
theorem pk_of {m : NEnt} {p : Pr} (hne : m.2 ≠ []) (h : ∀ b ∈ m.2, (b.2.d, b.2.w) = p) : pk m = p := by
  unfold pk
  cases q : m.2 with
  | nil => exact absurd q hne
  | cons b r => exact h b (by rw [q]; exact List.mem_cons_self)
structure spFewest (K : PySem.W.Frag) (C : Addr) (vs : List V) (H : Hp) (Q : VK) (_ : XK) : Prop where
  h : ∃ (c t : Addr) (ks : List (Addr × Bar)) (n : Nat), vs = [.ref c] ∧ CabAt C H c n t ∧ BarsAt H t ks ∧ OkBars n (ks.map (·.2)) ∧ 1 ≤ n ∧ n ≤ 7 ∧ ks.length ≤ 100 ∧
    ∀ (p : Addr) (es : List Ent) (R : List (Addr × Bar)) (H' : Hp), Same H H' → H' p = some (.tup (R.map fun b => V.ref b.1)) → (∀ b ∈ R, H' b.1 = some (.tup b.2.vs)) → BI (ks.map (·.2)) (shutS n) es.length es → Least Bar.cc (needN (ks.map (·.2)) n es) (R.map (·.2)) → Q (.ref p) H'
section
variable {P : Program} {w : World} {K : PySem.W.Frag} {mg : Str → Option Value} {base : Heap}
theorem scFb : FnScope ["cabinet"] ["cabinet"] (defScope s_fewest_bars) := ⟨rfl, rfl, rfl, by decide +kernel, rfl, by decide +kernel, by decide +kernel⟩
theorem ok_fewest {f f1 f2 f3 C : Addr} {fd fd1 fd2 fd3 : FuncData} (F : Fun K "fewest_bars" "fewest_bars" s_fewest_bars f fd)
    (G1 : FnOk P w K mg base CX0 1 f1 fd1 ["cabinet"] (spCkCab C)) (g1 : mg "check_cabinet" = some (.ref f1)) (k1 : PySem.W.keepIn K (.ref f1) = true) (b1 : Binds K fd1 ["cabinet"] [])
    (G2 : FnOk P w K mg base CX0 14 f2 fd2 ["cabinet"] (spBarredP C)) (g2 : mg "barred_pulls" = some (.ref f2)) (k2 : PySem.W.keepIn K (.ref f2) = true) (b2 : Binds K fd2 ["cabinet"] [])
    (G3 : FnOk P w K mg base CX0 5 f3 fd3 ["needs"] (spEach K)) (g3 : mg "fewest_of_each" = some (.ref f3)) (k3 : PySem.W.keepIn K (.ref f3) = true) (b3 : Binds K fd3 ["needs"] []) :
    FnOk P w K mg base CX0 16 f fd ["cabinet"] (spFewest K C) := by
  refine F.ok scFb (fun vs H Q E h => ?_) (fun cdv A outer s H vs Q E hr h => ?_)
  · obtain ⟨c, t, ks, n, rfl, _⟩ := h.h
    rfl
  · obtain ⟨c, t, ks, n, rfl, ⟨dx, hc⟩, hB, O, n1, n7, n100, k⟩ := h.h
    refine ⟨_, pss_cons (ps_expr (pe_call G1 (hr.mono (by decide)) rfl g1 k1 b1 .nil pass0 (pa_cons (pv 0) pa_nil)))
      (pss_one (ps_ret (pe_call G3 (hr.mono (by decide)) rfl g3 k3 b3 .nil pass0 (pa_cons (pe_call G2 (hr.mono (by decide)) rfl g2 k2 b2 .nil pass0 (pa_cons (pv 0) pa_nil)) pa_nil)))), ?_⟩
    refine ⟨_, rfl, ⟨⟨c, _, t, rfl, ⟨dx, hc⟩, ?_⟩⟩⟩
    refine ⟨_, rfl, ⟨⟨c, t, ks, n, rfl, ⟨dx, hc⟩, hB, O, n1, n7, n100, fun p es gs H1 s1 hp h1 N1 I e1 l1 => ?_⟩⟩⟩
    have hin : ∀ g ∈ gs, g.2.map (·.2) ∈ needN (ks.map (·.2)) n es := fun g hg => by
      rw [← needN_ents e1]
      exact List.mem_map.mpr ⟨g, hg, rfl⟩
    have hB1 := hB.same s1
    have hsame : ∀ g ∈ gs, ∀ b ∈ g.2, (b.2.d, b.2.w) = pk g := fun g hg b hb => by
      obtain ⟨e, he, d, hd, el, hne⟩ := needN_mem.mp (hin g hg)
      have h1 : ∀ c ∈ g.2, (c.2.d, c.2.w) = (d, sat e.1 d) := fun c hc => by
        have hc2 : c.2 ∈ g.2.map (·.2) := List.mem_map_of_mem hc
        rw [el] at hc2
        obtain ⟨q1, q2, _⟩ := hind_iff.mp (List.mem_filter.mp hc2).2
        rw [q1, q2]
      rw [h1 b hb, pk_of (fun z => by rw [z] at hb; cases hb) h1]
    refine ⟨⟨p, gs, rfl, ⟨h1, fun g hg => (N1.el g hg).1, fun g hg b hb => hB1.el b ((N1.el g hg).2.2 b hb)⟩, fun g hg => ⟨(needN_ok O n7 (hin g hg)).1, hsame g hg⟩, fun pr => ⟨obN n pr, by rw [obN_len]; omega, fun g hg epk b hb => ?_⟩, by omega, fun q R H2 s2 hq hR L => ?_⟩⟩
    · have := hsame g hg b hb
      rw [epk] at this
      rw [← this]
      exact obN_mem (O.ok b.2 ((needN_ok O n7 (hin g hg)).2 b.2 (List.mem_map_of_mem hb)))
    · rw [needN_ents e1] at L
      exact k q es R H2 (s1.trans s2) hq hR I L
end
end DL

set_option Elab.async false
set_option maxRecDepth 100000
set_option maxHeartbeats 1000000
namespace DL
open PySem L2 HT TL RZ
/-! ### == of tuples of bars, and of lists of them -/
theorem sl_take {K : PySem.W.Frag} {H : Hp} {a : Addr} {xs : List V} {j : Nat} {Q : VK} (h : SqT K H a xs) (k : ∀ (t2 : Addr) (H' : Hp), Same H H' → (H' t2 = some (.tup (xs.take j)) ∨ (xs.take j = xs ∧ t2 = a ∧ H' = H)) → Q (.ref t2) H') : rSlA K (.ref a) none (some (j : Int)) H Q := by
  refine ⟨a, xs, rfl, h, fun z => k a H (Same.refl _) (.inr ⟨?_, rfl, rfl⟩), fun z p hp => ?_⟩
  · obtain ⟨_, z⟩ := z
    rw [HT.sIx_nat] at z
    exact List.take_of_length_le (by omega)
  · refine k p _ (same_upd hp) (.inl ?_)
    rw [upd_same]
    unfold cutV
    rw [HT.sIx_nat, HT.sIx_none, List.drop_zero, Nat.sub_zero]
    have e : xs.take (min j xs.length) = xs.take j := by
      rcases Nat.le_total j xs.length with h | h
      · rw [Nat.min_eq_left h]
      · rw [Nat.min_eq_right h, List.take_length, List.take_of_length_le h]
    rw [e]
end DL

set_option Elab.async false
set_option maxRecDepth 100000
set_option maxHeartbeats 1000000
namespace DL
open PySem L2 HT TL RZ
/-- alike cabinets have the same ledger -/
theorem BI.alike {b1 b2 : List Bar} {s0 : List Bool} {es : List Ent} (I : BI b1 s0 es.length es) (h7 : s0.length ≤ 7) (h : apartE b1 b2 es = none) : BI b2 s0 es.length es := by
  refine ⟨I.nd, I.asc, fun e he => ⟨?_, (I.led e he).2⟩, fun j p hj hp d hd => I.ex j p hj hp d ?_, I.root⟩
  · rw [← apart_none I h7 h e.2 (I.led e he).2.1.2]
    exact (I.led e he).1
  · obtain ⟨⟨d0, d1⟩, hg⟩ := free_mem.mp hd
    refine free_mem.mpr ⟨⟨d0, d1⟩, ?_⟩
    rw [diff_none (apart_none' h p (List.mem_of_getElem? hp)) d0 d1]
    exact hg
section
variable {B R : List Bar} {n : Nat} {es : List Ent}
theorem fewest_sub (O : OkBars n B) (n7 : n ≤ 7) (L : Least Bar.cc (needN B n es) R) : ∀ b ∈ R, b ∈ B := fun b hb => by
  obtain ⟨l, hl, hbl⟩ := L.sub b hb
  exact (needN_ok O n7 hl).2 b hbl
theorem cc_of (O : OkBars n B) (n7 : n ≤ 7) : ∀ b ∈ B, b.cc = b.code := fun b hb => Bar.cc_low ((O.ok b hb).low (by omega))
theorem fewest_okb (O : OkBars n B) (n7 : n ≤ 7) (L : Least Bar.cc (needN B n es) R) : OkBars n R := by
  refine ⟨fun b hb => O.ok b (fewest_sub O n7 L b hb), List.Pairwise.imp_of_mem (fun {a b} ha hb h => ?_) L.asc⟩
  rw [← cc_of O n7 a (fewest_sub O n7 L a ha), ← cc_of O n7 b (fewest_sub O n7 L b hb)]
  exact h
theorem filter_out {S : List Bar} {b : Bar} (hb : b ∈ S) : (S.filter fun x => !decide (x = b)).length < S.length := by
  rcases Nat.lt_or_eq_of_le (List.length_filter_le (fun x => !decide (x = b)) S) with y | y
  · exact y
  · have := filter_len S _ y
    have hm : b ∈ S.filter fun x => !decide (x = b) := by rw [this]; exact hb
    have := (List.mem_filter.mp hm).2
    simp at this
/-- each bar of the fewest stands alone against some pull -/
theorem fewest_single (O : OkBars n B) (n7 : n ≤ 7) (L : Least Bar.cc (needN B n es) R) {b : Bar} (hb : b ∈ R) : ∃ e ∈ es, (R.filter fun x => hind x e.1 b.d) = [b] := by
  have hz : ¬ ∀ l ∈ needN B n es, ∃ x ∈ l, x ∈ R.filter fun x => !decide (x = b) := fun z => by
    have h1 := L.least _ (L.asc.filter _) z
    have h2 := filter_out hb
    omega
  have hz : ∃ l ∈ needN B n es, ∀ x ∈ l, x ∈ R → x = b := by
    refine Classical.byContradiction fun y => hz fun l hl => Classical.byContradiction fun q => y ⟨l, hl, fun x hx hxR => Classical.byContradiction fun ne => q ⟨x, hx, List.mem_filter.mpr ⟨hxR, by simpa using ne⟩⟩⟩
  obtain ⟨l, hl, hall⟩ := hz
  obtain ⟨c, hcl, hcR⟩ := L.meets l hl
  obtain rfl := hall c hcl hcR
  obtain ⟨e, he, d, hd, rfl, _⟩ := needN_mem.mp hl
  have hh := (List.mem_filter.mp hcl).2
  obtain rfl := (hind_iff.mp hh).1
  refine ⟨e, he, one_all ((asc_nodup (fewest_okb O n7 L)).filter _) (fun x hx => ?_) (List.mem_filter.mpr ⟨hb, hh⟩)⟩
  obtain ⟨x1, x2⟩ := List.mem_filter.mp hx
  exact hall x (List.mem_filter.mpr ⟨fewest_sub O n7 L x x1, x2⟩) x1
end
end DL

set_option Elab.async false
set_option maxRecDepth 100000
set_option maxHeartbeats 2000000
namespace DL
open PySem L2 HT TL RZ
/-! ### what is reached by rows -/
def Rc (bs : List Bar) (n : Nat) (st : List Bool) : Prop := ∃ r : List Int, (∀ d ∈ r, 0 ≤ d ∧ d < (shutS n).length) ∧ runB bs (shutS n) r = some st
theorem shut_len (n : Nat) : (shutS n).length = n := List.length_replicate
theorem Rc.root {bs : List Bar} {n : Nat} : Rc bs n (shutS n) := ⟨[], fun d h => (by cases h), rfl⟩
theorem Rc.step {bs : List Bar} {n : Nat} {st : List Bool} {d : Int} (h : Rc bs n st) (hl : st.length = n) (hd : d ∈ freeL bs st) : Rc bs n (flip st d) := by
  obtain ⟨r, h1, h2⟩ := h
  obtain ⟨hd1, hg⟩ := free_mem.mp hd
  refine ⟨r ++ [d], fun x hx => ?_, ?_⟩
  · rcases List.mem_append.mp hx with h | h
    · exact h1 x h
    · rw [List.mem_singleton.mp h, shut_len, ← hl]
      exact hd1
  · rw [runB_snoc, h2, Option.bind_some, if_pos hg]
theorem rc_led {bs : List Bar} {n : Nat} {es : List Ent} (I : BI bs (shutS n) es.length es) (n7 : n ≤ 7) {st : List Bool} : Rc bs n st ↔ st ∈ es.map (·.1) := by
  constructor
  · rintro ⟨r, h1, h2⟩
    obtain ⟨e, he, e1, _⟩ := I.opt (by rw [shut_len]; exact n7) r h1 st h2
    exact List.mem_map.mpr ⟨e, he, e1⟩
  · intro h
    obtain ⟨e, he, rfl⟩ := List.mem_map.mp h
    exact ⟨e.2, (I.led e he).2.1.2, (I.led e he).1⟩
end DL

set_option Elab.async false
set_option maxRecDepth 100000
set_option maxHeartbeats 2000000

set_option Elab.async false
set_option maxRecDepth 100000
set_option maxHeartbeats 1000000
namespace DL
open PySem PySem.Spec PyProof.Rows L2 HT TL RZ
/-! ### list.count of texts -/
/-! ### tables of whole numbers -/
abbrev MRow := Addr × List Int
def refM (ms : List MRow) : List V := ms.map fun p => V.ref p.1
structure MatAt (H : Hp) (w : Addr) (ms : List MRow) : Prop where
  at' : H w = some (.lst (refM ms))
  el : ∀ p ∈ ms, H p.1 = some (.lst (p.2.map V.int))
theorem MatAt.same {H H' : Hp} {w : Addr} {ms : List MRow} (M : MatAt H w ms) (s : Same H H') : MatAt H' w ms := ⟨s _ _ M.at', fun p h => s _ _ (M.el p h)⟩
end DL

set_option Elab.async false
set_option maxRecDepth 100000
set_option maxHeartbeats 2000000
namespace DL
open PySem L2 HT TL RZ
def dotI (xs ys : List Int) : Int := ((xs.zip ys).map fun p => p.1 * p.2).sum
end DL

set_option Elab.async false
set_option maxRecDepth 100000
set_option maxHeartbeats 2000000
namespace DL
open PySem L2 HT TL RZ
/-! ### lists of texts -/
abbrev SRow := Addr × List Str
def refS (ms : List SRow) : List V := ms.map fun p => V.ref p.1
structure LstAt (H : Hp) (w : Addr) (ms : List SRow) : Prop where
  at' : H w = some (.lst (refS ms))
  el : ∀ p ∈ ms, H p.1 = some (.lst (p.2.map V.str))
theorem LstAt.same {H H' : Hp} {w : Addr} {ms : List SRow} (M : LstAt H w ms) (s : Same H H') : LstAt H' w ms := ⟨s _ _ M.at', fun p h => s _ _ (M.el p h)⟩
end DL

set_option Elab.async false
set_option maxRecDepth 100000
set_option maxHeartbeats 2000000
namespace DL
open PySem L2 HT TL RZ
/-! ### rows from any standing, counted -/
def lvlF (bs : List Bar) (s : List Bool) : Nat → List (List Bool)
  | 0 => [s]
  | t + 1 => (lvlF bs s t).flatMap (nextL bs)
theorem lvlF_add (bs : List Bar) (s : List Bool) (a : Nat) : ∀ b, lvlF bs s (a + b) = (lvlF bs s a).flatMap fun x => lvlF bs x b
  | 0 => by
    show lvlF bs s a = (lvlF bs s a).flatMap fun x => [x]
    induction lvlF bs s a with
    | nil => rfl
    | cons y l ih => rw [List.flatMap_cons, ← ih]; rfl
  | b + 1 => by
    show (lvlF bs s (a + b)).flatMap (nextL bs) = _
    rw [lvlF_add bs s a b, List.flatMap_assoc]
    rfl
theorem lvlF_in {bs : List Bar} {rs : List (List Bool)} (ex : ∀ st ∈ rs, ∀ d ∈ freeL bs st, flip st d ∈ rs) {s : List Bool} (hs : s ∈ rs) (t : Nat) : ∀ x ∈ lvlF bs s t, x ∈ rs := by
  induction t with
  | zero =>
    intro x h
    rw [List.mem_singleton.mp h]
    exact hs
  | succ t ih =>
    intro x h
    obtain ⟨y, hy, hm⟩ := List.mem_flatMap.mp h
    obtain ⟨d, hd, rfl⟩ := List.mem_map.mp hm
    exact ex y (ih y hy) d hd
theorem len_flat (L : List (List Bool)) (h : List Bool → List (List Bool)) : (L.flatMap h).length = nSum (L.map fun x => (h x).length) := by
  induction L with
  | nil => rfl
  | cons a L ih =>
    rw [List.flatMap_cons, List.length_append, ih]
    rfl
theorem step_len {bs : List Bar} {n : Nat} {rs : List (List Bool)} (R : Reach bs n rs) {s : List Bool} (hs : s ∈ rs) (a b : Nat) : nSum (rs.map fun x => (lvlF bs s a).count x * (lvlF bs x b).length) = (lvlF bs s (a + b)).length := by
  rw [nSum_count rs R.nd (fun x => (lvlF bs x b).length) _ (lvlF_in R.ex hs a), lvlF_add, len_flat]
/-! ### by rests -/
theorem sum_mod {α : Type} (l : List α) (f : α → Int) (g : α → Nat) (d : Int) (h : ∀ x ∈ l, f x % d = (g x : Int) % d) : (l.map f).sum % d = ((nSum (l.map g) : Nat) : Int) % d := by
  induction l with
  | nil => rfl
  | cons a l ih =>
    have h1 := h a List.mem_cons_self
    have h2 := ih fun x hx => h x (List.mem_cons_of_mem _ hx)
    rw [List.map_cons, List.sum_cons, Int.add_emod, h1, h2, ← Int.add_emod]
    show _ = (((g a + nSum (l.map g) : Nat)) : Int) % d
    rw [Int.natCast_add]
theorem mul_mod {a b d : Int} {x y : Nat} (h1 : a % d = (x : Int) % d) (h2 : b % d = (y : Int) % d) : (a * b) % d = ((x * y : Nat) : Int) % d := by
  rw [Int.mul_emod, h1, h2, ← Int.mul_emod, Int.natCast_mul]
theorem dot_map {α : Type} (l : List α) (f g : α → Int) : dotI (l.map f) (l.map g) = (l.map fun x => f x * g x).sum := by
  unfold dotI
  rw [List.zip_map', List.map_map]
  rfl
end DL

set_option Elab.async false
set_option maxRecDepth 100000
set_option maxHeartbeats 2000000

set_option Elab.async false
set_option maxRecDepth 100000
set_option maxHeartbeats 2000000
namespace DL
open PySem L2 HT TL RZ
/-- the tables: ways of q pulls -/
structure WayOk (bs : List Bar) (rs : List (List Bool)) (d : Int) (q : Nat) (W : List Bool → List Bool → Int) : Prop where
  lo : ∀ s ∈ rs, ∀ b ∈ rs, 0 ≤ W s b ∧ W s b < 2 ^ 40
  eq : ∀ s ∈ rs, ∀ b ∈ rs, W s b % d = ((lvlF bs s q).count b : Nat) % d
structure CntOk (bs : List Bar) (rs : List (List Bool)) (d : Int) (m : Nat) (c : List Bool → Int) : Prop where
  eq : ∀ s ∈ rs, c s % d = ((lvlF bs s m).length : Nat) % d
theorem CntOk.more {bs : List Bar} {n : Nat} {rs : List (List Bool)} {d : Int} {q m : Nat} {W : List Bool → List Bool → Int} {c : List Bool → Int} (R : Reach bs n rs) (h : WayOk bs rs d q W) (k : CntOk bs rs d m c) : CntOk bs rs d (q + m) fun s => dotI (rs.map fun b => W s b) (rs.map c) % d := by
  refine ⟨fun s hs => ?_⟩
  show dotI (rs.map fun b => W s b) (rs.map c) % d % d = _
  rw [Int.emod_emod, dot_map, sum_mod rs _ (fun x => (lvlF bs s q).count x * (lvlF bs x m).length) d fun x hx => mul_mod (h.eq s hs x hx) (k.eq x hx), step_len R hs]
end DL

set_option Elab.async false
set_option maxRecDepth 100000
set_option maxHeartbeats 2000000

set_option Elab.async false
set_option maxRecDepth 100000
set_option maxHeartbeats 2000000
namespace DL
open PySem L2 HT TL RZ PySem.NumText
/-- a list of standings that pulls don't leave -/
structure Shut (bs : List Bar) (ss : List (List Bool)) : Prop where
  nd : ss.Nodup
  ex : ∀ st ∈ ss, ∀ d ∈ freeL bs st, flip st d ∈ ss
  few : ss.length ≤ 128
theorem Shut.step {bs : List Bar} {ss : List (List Bool)} (R : Shut bs ss) {s : List Bool} (hs : s ∈ ss) (a b : Nat) (z : List Bool) : nSum (ss.map fun x => (lvlF bs s a).count x * (lvlF bs x b).count z) = (lvlF bs s (a + b)).count z := by
  rw [nSum_count ss R.nd (fun x => (lvlF bs x b).count z) _ (lvlF_in R.ex hs a), lvlF_add, count_flat]
end DL

set_option Elab.async false
set_option maxRecDepth 100000
set_option maxHeartbeats 2000000
namespace DL
open PySem L2 HT TL RZ
def allT : Nat → List (List Bool)
  | 0 => [[]]
  | n + 1 => ((allT n).map fun st => st ++ [true]) ++ ((allT n).map fun st => st ++ [false])
theorem snoc_inj {a b : List Bool} {x y : Bool} (h : a ++ [x] = b ++ [y]) : a = b ∧ x = y := by
  have h2 := List.append_inj' h rfl
  refine ⟨h2.1, ?_⟩
  have := h2.2
  injection this
theorem allT_nodup : ∀ n, (allT n).Nodup
  | 0 => by simp [allT]
  | n + 1 => by
    have ih := allT_nodup n
    have one : ∀ x : Bool, ((allT n).map fun st => st ++ [x]).Nodup := fun x => (List.pairwise_map.mpr (ih.imp fun hne h => hne (snoc_inj h).1))
    show (((allT n).map fun st => st ++ [true]) ++ ((allT n).map fun st => st ++ [false])).Nodup
    rw [List.nodup_append]
    refine ⟨one true, one false, fun a ha b hb e => ?_⟩
    obtain ⟨s, _, rfl⟩ := List.mem_map.mp ha
    obtain ⟨s', _, rfl⟩ := List.mem_map.mp hb
    exact Bool.false_ne_true (snoc_inj e).2.symm
theorem allT_mem : ∀ n (st : List Bool), st ∈ allT n ↔ st.length = n
  | 0, st => by
    show st ∈ [[]] ↔ _
    rw [List.mem_singleton, List.length_eq_zero_iff]
  | n + 1, st => by
    show st ∈ ((allT n).map fun st => st ++ [true]) ++ ((allT n).map fun st => st ++ [false]) ↔ _
    rw [List.mem_append]
    constructor
    · rintro (h | h) <;>
      · obtain ⟨s, hs, rfl⟩ := List.mem_map.mp h
        rw [List.length_append, (allT_mem n s).mp hs]
        rfl
    · intro h
      have hne : st ≠ [] := by
        intro z
        rw [z] at h
        cases h
      have e := List.dropLast_concat_getLast hne
      have hl : (st.dropLast).length = n := by rw [List.length_dropLast, h]; rfl
      have hm := (allT_mem n _).mpr hl
      rw [← e]
      cases st.getLast hne with
      | true => exact .inl (List.mem_map.mpr ⟨_, hm, rfl⟩)
      | false => exact .inr (List.mem_map.mpr ⟨_, hm, rfl⟩)
theorem perm_all {ks : List (List Bool)} {ys : List Str} (h : ys.Perm (ks.map sstr)) : ∃ sts : List (List Bool), ys = sts.map sstr ∧ sts.Perm ks := by
  have e : ks.map sstr = (ks.map fun k => ((k, []) : Ent)).map fun e => sstr e.1 := by rw [List.map_map]; rfl
  rw [e] at h
  obtain ⟨sts, h1, h2⟩ := any_perm h
  rw [List.map_map, show ((fun e : Ent => e.1) ∘ fun k => ((k, []) : Ent)) = id from rfl, List.map_id] at h2
  exact ⟨sts, h1, h2⟩
end DL

set_option Elab.async false
set_option maxRecDepth 100000

set_option Elab.async false
set_option maxRecDepth 100000
namespace DL
open PySem L2 HT TL RZ
theorem filter_ne {α : Type} {l : List α} {p : α → Bool} {x : α} (hx : x ∈ l) (hp : p x = true) : ∃ a r, l.filter p = a :: r := by
  have : x ∈ l.filter p := List.mem_filter.mpr ⟨hx, hp⟩
  cases h : l.filter p with
  | nil => rw [h] at this; cases this
  | cons a r => exact ⟨a, r, rfl⟩
section
variable {P : Program} {w : World} {K : PySem.W.Frag} {mg : Str → Option Value} {base : Heap}
abbrev nMO : List Str := ["cabinet", "rows", "most", "standing", "row"]
theorem scMO : FnScope nMO ["cabinet"] (defScope s_most_open) := ⟨rfl, rfl, rfl, by decide +kernel, rfl, by decide +kernel, by decide +kernel⟩
theorem ok_most {f f1 f2 f3 C : Addr} {fd fd1 fd2 fd3 : FuncData} (F : Fun K "most_open" "most_open" s_most_open f fd) (zX : mg "max" = none)
    (G1 : FnOk P w K mg base CX0 1 f1 fd1 ["cabinet"] (spCkCab C)) (g1 : mg "check_cabinet" = some (.ref f1)) (k1 : PySem.W.keepIn K (.ref f1) = true) (b1 : Binds K fd1 ["cabinet"] [])
    (G2 : FnOk P w K mg base CX0 12 f2 fd2 ["cabinet"] (spFirstRows C)) (g2 : mg "first_rows" = some (.ref f2)) (k2 : PySem.W.keepIn K (.ref f2) = true) (b2 : Binds K fd2 ["cabinet"] [])
    (G3 : FnOk P w K mg base CX0 1 f3 fd3 ["standing"] spCount) (g3 : mg "open_count" = some (.ref f3)) (k3 : PySem.W.keepIn K (.ref f3) = true) (b3 : Binds K fd3 ["standing"] []) :
    FnOk P w K mg base CX0 14 f fd ["cabinet"] (spMost C) := by
  refine F.ok scMO (fun vs H Q E h => ?_) (fun cdv A outer s H vs Q E hr h => ?_)
  · obtain ⟨c, bs, n, rfl, _⟩ := h.h
    rfl
  · obtain ⟨c, bs, n, rfl, B, k⟩ := h.h
    obtain ⟨t, hc, n7⟩ := B.cab
    refine ⟨_, pss_cons (ps_expr (pe_call G1 (hr.mono (by decide)) rfl g1 k1 b1 .nil pass0 (pa_cons (pv 0) pa_nil)))
      (pss_cons (ps_set (i := 1) scMO.nd rfl (Or.inl rfl) (pe_frz (pe_call G2 (hr.mono (by decide)) rfl g2 k2 b2 .nil pass0 (pa_cons (pv 0) pa_nil))))
      (pss_cons (ps_set (i := 2) scMO.nd rfl (Or.inr rfl) (pe_callB (cr_max rfl) (by rfl) zX boot_max_ (pa_cons
        (pe_lc (own := [("standing", 3)]) (g := gName 3) (tt := tYes) (by rfl) scMO.nd (pi_keys (pv 1)) (blkOk_by (N := nMO) (sc := defScope s_most_open) (by decide +kernel)) (fun _ _ _ _ _ => pg_name (i := 3) scMO.nd rfl (Or.inl rfl)) (fun _ _ _ _ _ => pts_nil)
          (fun _ _ _ _ _ => pe_call G3 (hr.mono (by decide)) rfl g3 k3 b3 .nil pass0 (pa_cons (pv 3) pa_nil))) pa_nil)))
      (pss_one (ps_ret (pe_tup (pa_cons (pv 2) (pa_cons (pe_ix ix_list
        (pe_lc (own := [("standing", 3), ("row", 4)]) (g := gTup K 2 (gCons (gName 3) (gCons (gName 4) gNil))) (by rfl) scMO.nd (pi_items (pv 1)) (blkOk_by (N := nMO) (sc := defScope s_most_open) (by decide +kernel))
          (fun _ _ _ _ _ => pg_tupK (K := K) rfl rfl (pgs_cons (pg_name (i := 3) scMO.nd rfl (Or.inl rfl)) (pgs_cons (pg_name (i := 4) scMO.nd rfl (Or.inl rfl)) pgs_nil)))
          (fun _ _ _ _ _ => pts_one (pt_cmpR op_eq (pe_call G3 (hr.mono (by decide)) rfl g3 k3 b3 .nil pass0 (pa_cons (pv 3) pa_nil)) (pv 2) (nomark _))) (fun _ _ _ _ _ => pv 4)) pe_int (fun _ _ => rfl)) pa_nil))))))), ?_⟩
    refine ⟨_, rfl, ⟨⟨c, _, t, rfl, hc, ?_⟩⟩⟩
    refine ⟨_, rfl, ⟨⟨c, bs, n, rfl, B, fun a ks H1 ha s1 hA hE I => ?_⟩⟩⟩
    have hshut : (shutS n).length = n := List.length_replicate
    have hfew : ks.length ≤ 128 := by
      have := led_few I.nd I.led (by rw [hshut]; omega)
      rw [List.length_map] at this
      exact this
    refine ⟨a, _, rfl, hA, trivial, fun od => ?_⟩
    obtain ⟨s2, R2⟩ := rows_lock od ha s1 hA hE
    generalize (upd H1 a (.frz od (.dK (kvsOf ks)))) = H2 at s2 R2 ⊢
    refine ⟨_, rfl, a, od, rfl, .inl ⟨_, R2.at', fun D hD => ?_⟩⟩
    refine lc_pick walk_keysE ks rfl (by omega) (fun _ => true) (fun k => V.int (cnt k.2.1)) hD (fun H' s => s _ _ R2.at') ?_ ?_
    · rintro i x z H3 H3' Tk Nk ez s3 ⟨rfl, z', ez', rfl⟩ kT kF
      rw [ez] at ez'
      cases ez'
      refine ⟨rfl, tYes_of (iteT ?_)⟩
      exact ⟨_, rfl, ⟨⟨z.2.1, rfl, fun H4 s4 => kT H4 rfl s4⟩⟩⟩
    · intro H3 s3 hD3
      rw [List.filter_eq_self.mpr fun _ _ => rfl] at hD3
      have hroot : 0 < (ks.map fun k => cnt k.2.1).length := by
        obtain ⟨k', hk', _⟩ := List.mem_map.mp I.root
        rw [List.length_map]
        exact List.length_pos_of_mem hk'
      refine ⟨D, ks.map fun k => cnt k.2.1, rfl, SqL.of (by rw [hD3, List.map_map]; rfl), hroot, fun M hM hle => ?_⟩
      have R3 := R2.same s3
      obtain ⟨km, hkm, hkm2⟩ := List.mem_map.mp hM
      obtain ⟨k0, l, hf⟩ := filter_ne (p := fun k : KEnt => decide (cnt k.2.1 = M)) hkm (decide_eq_true hkm2)
      refine ⟨_, rfl, ?_⟩
      refine ⟨_, rfl, a, od, _, rfl, R3.at', fun D' hD' => ?_⟩
      refine lc_pick walk_itemsE ks rfl (by omega) (fun k => decide (cnt k.2.1 = M)) (fun k => V.ref k.1) hD' (fun H' s => s _ _ R3.at') ?_ ?_
      · rintro i x z H4 H4' Tk Nk ez s4 ⟨Tt, z', rfl, hT, rfl, ez'⟩ kT kF
        rw [ez] at ez'
        cases ez'
        have s5 := same_upd (o := .tup [.str (sstr z.2.1), .ref z.1]) hT
        refine ⟨Tt, _, rfl, SqT.of' upd_same, rfl, _, _, rfl, _, _, rfl, rfl, rfl, ?_⟩
        refine ⟨_, rfl, ⟨⟨z.2.1, rfl, fun H5 s6 => ?_⟩⟩⟩
        refine ⟨_, rfl, rfl, _, rfl, ?_⟩
        have e0 : decide ((V.int (cnt z.2.1)) = V.int M) = decide (cnt z.2.1 = M) := decide_eq_decide.mpr ⟨fun z => by injection z, fun z => by rw [z]⟩
        show if decide ((V.int (cnt z.2.1)) = V.int M) = true then _ else _
        rw [e0]
        cases e : decide (cnt z.2.1 = M) with
        | true => exact iteT ⟨_, rfl, kT _ e (s5.trans s6)⟩
        | false => exact iteF (kF _ e (s5.trans s6))
      · intro H4 s4 hD4
        rw [hf] at hD4
        refine ⟨D', _, 0, .ref k0.1, rfl, rfl, SqL.of hD4, atI_nat (j := 0) rfl, (by show 2 ≤ sizeLine; decide), fun p hp => ?_⟩
        exact k p ks M k0 l _ (((s2.trans s3).trans s4).trans (same_upd hp)) (((R3.same s4).same (same_upd hp)).el) I hM (fun k hk => hle _ (List.mem_map.mpr ⟨k, hk, rfl⟩)) hf upd_same
end
end DL

set_option Elab.async false
set_option maxRecDepth 100000
set_option maxHeartbeats 1000000
namespace DL
open PySem L2 HT TL RZ
/-! ### the cabinet without bars: all standings are reached -/
theorem rc_ext {n : Nat} : ∀ (t p : List Bool), p.length + t.length = n → Rc [] n (p ++ List.replicate t.length false) → Rc [] n (p ++ t)
  | [], p, _, h => by simpa using h
  | b :: t, p, hl, h => by
    have h : Rc [] n (p ++ false :: List.replicate t.length false) := h
    rw [List.length_cons] at hl
    have h2 : Rc [] n ((p ++ [b]) ++ List.replicate t.length false) := by
      cases b with
      | false =>
        rw [List.append_assoc]
        exact h
      | true =>
        have e : flip (p ++ false :: List.replicate t.length false) (p.length : Int) = (p ++ [true]) ++ List.replicate t.length false := by
          unfold flip sat
          rw [Int.toNat_natCast]
          simp
        rw [← e]
        have ln : (p ++ false :: List.replicate t.length false).length = n := by
          rw [List.length_append, List.length_cons, List.length_replicate]
          omega
        exact Rc.step (st := p ++ false :: List.replicate t.length false) h ln (free_mem.mpr ⟨⟨by omega, by rw [ln]; omega⟩, rfl⟩)
    have := rc_ext t (p ++ [b]) (by rw [List.length_append, List.length_singleton]; omega) h2
    simpa using this
theorem rc_all {n : Nat} {st : List Bool} (h : st.length = n) : Rc [] n st := by
  have := rc_ext st [] (by simpa using h) (by rw [h]; exact Rc.root)
  simpa using this
theorem free_perm {n : Nat} {es : List Ent} (I : BI [] (shutS n) es.length es) (n7 : n ≤ 7) : (es.map (·.1)).Perm (allT n) := by
  refine (List.perm_ext_iff_of_nodup I.nd (allT_nodup n)).mpr fun st => ?_
  rw [← rc_led I n7, allT_mem]
  constructor
  · intro h
    obtain ⟨e, he, rfl⟩ := List.mem_map.mp ((rc_led I n7).mp h)
    rw [(I.led e he).2.2, shut_len]
  · intro h
    exact rc_all h
/-! ### rows as numbers, from the left -/
theorem rcodeL_cons (x : Int) : ∀ r : List Int, rcode (x :: r) = (x + 1) * 8 ^ r.length + rcode r := by
  intro r
  refine snoc_ind (p := fun r : List Int => rcode (x :: r) = (x + 1) * 8 ^ r.length + rcode r) ?_ (fun l a ih => ?_) r
  · show (0 * 8 + (x + 1) : Int) = (x + 1) * 1 + 0
    omega
  · show rcode ((x :: l) ++ [a]) = _
    rw [rcode_snoc, rcode_snoc, ih, List.length_append, List.length_singleton, Int.pow_succ]
    generalize (8 : Int) ^ l.length = z
    have : (x + 1) * (z * 8) = (x + 1) * z * 8 := by rw [Int.mul_assoc]
    omega
theorem rcodeL_lt : ∀ {r : List Int}, Low7 r → rcode r < 8 ^ r.length
  | [], _ => by decide
  | x :: r, h => by
    have ih := rcodeL_lt (r := r) fun d hd => h d (List.mem_cons_of_mem _ hd)
    have hx := h x List.mem_cons_self
    rw [rcodeL_cons, List.length_cons, Int.pow_succ]
    have h1 : (x + 1) * 8 ^ r.length ≤ 7 * 8 ^ r.length := Int.mul_le_mul_of_nonneg_right (by omega) (by
      have : (0 : Int) < 8 ^ r.length := Int.pow_pos (by decide)
      omega)
    generalize (8 : Int) ^ r.length = z at *
    omega
/-- k, k + 1, .. -/
def ascL (k : Int) : Nat → List Int
  | 0 => []
  | m + 1 => k :: ascL (k + 1) m
theorem ascL_len (k : Int) : ∀ m, (ascL k m).length = m
  | 0 => rfl
  | m + 1 => by
    show (ascL (k + 1) m).length + 1 = m + 1
    rw [ascL_len]
theorem ascL_low : ∀ {m : Nat} {k : Int}, 0 ≤ k → k + m ≤ 7 → Low7 (ascL k m)
  | 0, _, _, _ => fun d hd => by cases hd
  | m + 1, k, h0, h => fun d hd => by
    rcases List.mem_cons.mp hd with rfl | hd
    · omega
    · exact ascL_low (m := m) (k := k + 1) (by omega) (by omega) d hd
theorem ascL_mem : ∀ {m : Nat} {k d : Int}, d ∈ ascL k m ↔ k ≤ d ∧ d < k + m
  | 0, k, d => ⟨fun h => (by cases h), fun h => by omega⟩
  | m + 1, k, d => by
    show d ∈ k :: ascL (k + 1) m ↔ _
    rw [List.mem_cons, ascL_mem]
    omega
theorem ascL_nd : ∀ (m : Nat) (k : Int), (ascL k m).Nodup
  | 0, _ => List.nodup_nil
  | m + 1, k => by
    show (k :: ascL (k + 1) m).Nodup
    rw [List.nodup_cons]
    exact ⟨fun h => by have := (ascL_mem.mp h).1; omega, ascL_nd m _⟩
/-- of all rows of so many drawers that hold each from k on the ascending one is the least -/
theorem asc_least : ∀ {m : Nat} {k : Int} {r : List Int}, r.length = m → (∀ d ∈ ascL k m, d ∈ r) → Low7 r → 0 ≤ k → k + m ≤ 7 → rcode (ascL k m) ≤ rcode r
  | 0, k, r, hl, _, _, _, _ => by
    rw [List.length_eq_zero_iff.mp hl]
    exact Int.le_refl _
  | m + 1, k, [], hl, _, _, _, _ => by cases hl
  | m + 1, k, x :: t, hl, hc, lo, h0, h7 => by
    have ht : t.length = m := by simpa using hl
    have lot : Low7 t := fun d hd => lo d (List.mem_cons_of_mem _ hd)
    have hx : k ≤ x := by
      rcases Int.lt_or_le x k with q | q
      · exfalso
        have nd : (x :: ascL k (m + 1)).Nodup := by
          rw [List.nodup_cons]
          exact ⟨fun h => by have := (ascL_mem.mp h).1; omega, ascL_nd _ _⟩
        have := nd_leS nd (rs := x :: t) fun d hd => by
          rcases List.mem_cons.mp hd with rfl | hd
          · exact List.mem_cons_self
          · exact hc d hd
        rw [List.length_cons, ascL_len, List.length_cons, ht] at this
        omega
      · exact q
    show rcode (k :: ascL (k + 1) m) ≤ _
    rw [rcodeL_cons, rcodeL_cons, ascL_len, ht]
    have lowA : Low7 (ascL (k + 1) m) := ascL_low (by omega) (by omega)
    by_cases q : x = k
    · subst q
      have ih := asc_least (m := m) (k := x + 1) ht (fun d hd => by
        have h1 := ascL_mem.mp hd
        rcases List.mem_cons.mp (hc d (List.mem_cons_of_mem _ hd)) with z | z
        · omega
        · exact z) lot (by omega) (by omega)
      omega
    · have h1 := rcodeL_lt lowA
      rw [ascL_len] at h1
      have h2 := rcode_nn lot
      have h3 : (k + 2) * 8 ^ m ≤ (x + 1) * 8 ^ m := Int.mul_le_mul_of_nonneg_right (by omega) (by
        have : (0 : Int) < 8 ^ m := Int.pow_pos (by decide)
        omega)
      have h4 : (k + 2) * 8 ^ m = (k + 1) * 8 ^ m + 8 ^ m := by
        rw [show k + 2 = (k + 1) + 1 by omega, Int.add_mul, Int.one_mul]
      generalize (8 : Int) ^ m = z at *
      omega
/-! ### how many are open -/
theorem cnt_cons (b : Bool) (st : List Bool) : cnt (b :: st) = (if b = true then 1 else 0) + cnt st := by
  have eo : ("o" : Str) = ⟨#[111]⟩ := by decide +kernel
  unfold cnt
  rw [eo, PyProof.Rows.count_cnt, PyProof.Rows.count_cnt, sstr_tl, sstr_tl, List.map_cons, PyProof.Rows.cnt_cons]
  cases b <;> rfl
theorem cnt_nil : cnt [] = 0 := by
  have eo : ("o" : Str) = ⟨#[111]⟩ := by decide +kernel
  unfold cnt
  rw [eo, PyProof.Rows.count_cnt, sstr_tl]
  rfl
theorem cnt_le : ∀ st : List Bool, cnt st ≤ st.length
  | [] => by rw [cnt_nil]; exact Int.le_refl _
  | b :: st => by
    have := cnt_le st
    rw [cnt_cons, List.length_cons]
    cases b
    · rw [if_neg Bool.false_ne_true]
      omega
    · rw [if_pos rfl]
      omega
theorem cnt_full : ∀ {st : List Bool}, cnt st = st.length → st = List.replicate st.length true
  | [], _ => rfl
  | b :: st, h => by
    have h1 := cnt_le st
    rw [cnt_cons, List.length_cons] at h
    cases b with
    | false =>
      rw [if_neg Bool.false_ne_true] at h
      omega
    | true =>
      rw [if_pos rfl] at h
      have := cnt_full (st := st) (by omega)
      rw [List.length_cons, List.replicate_succ, ← this]
theorem cnt_rep : ∀ n : Nat, cnt (List.replicate n true) = n
  | 0 => cnt_nil
  | n + 1 => by
    rw [List.replicate_succ, cnt_cons, cnt_rep n, if_pos rfl]
    omega
/-! ### the ascending row opens all drawers -/
theorem run_asc : ∀ (m : Nat) (p : List Bool), runB [] (p ++ List.replicate m false) (ascL p.length m) = some (p ++ List.replicate m true)
  | 0, p => rfl
  | m + 1, p => by
    show runB [] (p ++ false :: List.replicate m false) ((p.length : Int) :: ascL ((p.length : Int) + 1) m) = _
    rw [runB_cons, if_pos (by rfl)]
    have e : flip (p ++ false :: List.replicate m false) (p.length : Int) = (p ++ [true]) ++ List.replicate m false := by
      unfold flip sat
      rw [Int.toNat_natCast]
      simp
    have l : ((p.length : Int) + 1) = ((p ++ [true]).length : Int) := by
      rw [List.length_append, List.length_singleton]
      omega
    rw [e, l, run_asc m (p ++ [true]), List.append_assoc]
    rfl
theorem sat_flip_ne {st : List Bool} {x d : Int} (hx : 0 ≤ x) (hd : 0 ≤ d) (h : x ≠ d) : sat (flip st x) d = sat st d := by
  unfold flip sat
  rw [List.getD_eq_getElem?_getD, List.getElem?_set_ne (by omega)]
  exact List.getD_eq_getElem?_getD.symm
theorem run_out {d : Int} (hd : 0 ≤ d) : ∀ {r : List Int} {s s' : List Bool}, (∀ x ∈ r, 0 ≤ x) → runB [] s r = some s' → d ∉ r → sat s' d = sat s d
  | [], s, s', _, h, _ => by
    have h : some s = some s' := h
    injection h with h
    rw [h]
  | x :: r, s, s', hp, h, hn => by
    rw [runB_cons, if_pos (by rfl)] at h
    rw [run_out hd (fun y hy => hp y (List.mem_cons_of_mem _ hy)) h fun z => hn (List.mem_cons_of_mem _ z)]
    exact sat_flip_ne (hp x List.mem_cons_self) hd fun z => hn (by rw [z]; exact List.mem_cons_self)
/-- the row that opens all drawers is the ascending one -/
theorem open_row {n : Nat} {es : List Ent} (I : BI [] (shutS n) es.length es) (n6 : n ≤ 6) {e : Ent} (he : e ∈ es) (h : e.1 = List.replicate n true) : e.2 = ascL 0 n := by
  have h7 : (shutS n).length ≤ 7 := by rw [shut_len]; omega
  have hr : runB [] (shutS n) (ascL 0 n) = some (List.replicate n true) := by
    have := run_asc n []
    exact this
  obtain ⟨f, hf, f1, f2, f3⟩ := I.opt h7 (ascL 0 n) (fun d hd => by
    have := ascL_mem.mp hd
    rw [shut_len]
    omega) _ hr
  obtain rfl : f = e := nd_eq I.nd hf he (by rw [f1, h])
  obtain ⟨l1, ⟨l2, l3⟩, l4⟩ := I.led f hf
  rw [ascL_len] at f3
  have hc : ∀ d ∈ ascL 0 n, d ∈ f.2 := fun d hd => by
    have hd2 := ascL_mem.mp hd
    refine Classical.byContradiction fun z => ?_
    have h1 := run_out (d := d) (by omega) (fun x hx => (l2 x hx).1) l1 z
    rw [h] at h1
    have h2 : sat (List.replicate n true) d = true := by
      unfold sat
      rw [List.getD_eq_getElem?_getD, List.getElem?_replicate, if_pos (by omega)]
      rfl
    have h3 : sat (shutS n) d = false := by
      unfold sat shutS
      rw [List.getD_eq_getElem?_getD, List.getElem?_replicate, if_pos (by omega)]
      rfl
    rw [h2, h3] at h1
    cases h1
  have hl : f.2.length = n := by
    have := nd_leS (ascL_nd n 0) hc
    rw [ascL_len] at this
    omega
  have h4 := asc_least hl hc l2 (by decide) (by omega)
  exact rcode_inj l2 (ascL_low (by decide) (by omega)) (by omega)
end DL

set_option Elab.async false
set_option maxRecDepth 100000
set_option maxHeartbeats 2000000
namespace DL
open PySem L2 HT TL RZ
/-! ### dead ends, no return, frozen drawers, drawers that are never opened -/
theorem run_in {bs : List Bar} {n : Nat} {rs : List (List Bool)} (RR : Reach bs n rs) : ∀ (r : List Int), (∀ d ∈ r, 0 ≤ d ∧ d < n) → ∀ st, runB bs (shutS n) r = some st → st ∈ rs := by
  refine snoc_ind (p := fun (r : List Int) => (∀ d ∈ r, 0 ≤ d ∧ d < n) → ∀ st, runB bs (shutS n) r = some st → st ∈ rs) (fun _ st e => ?_) (fun r d ih hr st e => ?_)
  · cases e
    exact RR.root
  · rw [runB_snoc] at e
    cases q : runB bs (shutS n) r with
    | none => rw [q] at e; cases e
    | some s =>
      rw [q] at e
      have e : (if goesB bs s d = true then some (flip s d) else none) = some st := e
      have hs := ih (fun x hx => hr x (List.mem_append_left _ hx)) s q
      have hd := hr d (List.mem_append_right _ (List.mem_singleton.mpr rfl))
      by_cases g : goesB bs s d = true
      · rw [if_pos g] at e
        cases e
        exact RR.ex s hs d (free_mem.mpr ⟨by rw [RR.len s hs]; exact hd, g⟩)
      · rw [if_neg g] at e
        cases e
theorem ks_in {bs : List Bar} {n i : Nat} {rs : List (List Bool)} {ks : List KEnt} (RR : Reach bs n rs) (I : BI bs (shutS n) i (ks.map (·.2))) : ∀ k ∈ ks, k.2.1 ∈ rs := fun k hk => by
  obtain ⟨h1, ⟨_, h2⟩, _⟩ := I.led k.2 (List.mem_map_of_mem (f := (·.2)) hk)
  have hshut : (shutS n).length = n := List.length_replicate
  rw [hshut] at h2
  exact run_in RR _ h2 _ h1
def rowK : Option KEnt → V
  | some k => .ref k.1
  | none => .non
structure spDead (C : Addr) (vs : List V) (H : Hp) (Q : VK) (_ : XK) : Prop where
  h : ∃ (c : Addr) (bs : List Bar) (n : Nat), vs = [.ref c] ∧ CabOk C H c n bs ∧
    ∀ (ks : List KEnt) (H' : Hp), Same H H' → RowsEl H' ks → BI bs (shutS n) ks.length (ks.map (·.2)) → Q (rowK (ks.find? fun k => (freeL bs k.2.1).isEmpty)) H'
open Classical in
structure spNoRet (C : Addr) (vs : List V) (H : Hp) (Q : VK) (_ : XK) : Prop where
  h : ∃ (c : Addr) (bs : List Bar) (n : Nat), vs = [.ref c] ∧ CabOk C H c n bs ∧
    ∀ (ks : List KEnt) (H' : Hp), Same H H' → RowsEl H' ks → BI bs (shutS n) ks.length (ks.map (·.2)) → Q (rowK (ks.find? fun k => !decide (LeadTo (allP bs) [shutS n] k.2.1))) H'
section
variable {P : Program} {w : World} {K : PySem.W.Frag} {mg : Str → Option Value} {base : Heap}
abbrev nDE : List Str := ["cabinet", "pulls", "standing"]
theorem scDE : FnScope nDE ["cabinet"] (defScope s_dead_end) := ⟨rfl, rfl, rfl, by decide +kernel, rfl, by decide +kernel, by decide +kernel⟩
theorem ok_deadEnd {f f1 f2 f3 C : Addr} {fd fd1 fd2 fd3 : FuncData} (F : Fun K "dead_end" "dead_end" s_dead_end f fd)
    (G1 : FnOk P w K mg base CX0 1 f1 fd1 ["cabinet"] (spCkCab C)) (g1 : mg "check_cabinet" = some (.ref f1)) (k1 : PySem.W.keepIn K (.ref f1) = true) (b1 : Binds K fd1 ["cabinet"] [])
    (G2 : FnOk P w K mg base CX0 14 f2 fd2 ["cabinet"] (spPulls C)) (g2 : mg "reached_pulls" = some (.ref f2)) (k2 : PySem.W.keepIn K (.ref f2) = true) (b2 : Binds K fd2 ["cabinet"] [])
    (G3 : FnOk P w K mg base CX0 14 f3 fd3 ["cabinet", "standings"] (spBeside C)) (g3 : mg "first_row_beside" = some (.ref f3)) (k3 : PySem.W.keepIn K (.ref f3) = true) (b3 : Binds K fd3 ["cabinet", "standings"] []) :
    FnOk P w K mg base CX0 16 f fd ["cabinet"] (spDead C) := by
  refine F.ok scDE (fun vs H Q E h => ?_) (fun cdv A outer s H vs Q E hr h => ?_)
  · obtain ⟨c, bs, n, rfl, _⟩ := h.h
    rfl
  · obtain ⟨c, bs, n, rfl, B, k⟩ := h.h
    have hu := hu_of hr
    obtain ⟨tc, hc, n7⟩ := B.cab
    refine ⟨_, pss_cons (ps_expr (pe_call G1 (hr.mono (by decide)) rfl g1 k1 b1 .nil pass0 (pa_cons (pv 0) pa_nil)))
      (pss_cons (ps_set (i := 1) scDE.nd rfl (Or.inr rfl) (pe_frz (pe_call G2 (hr.mono (by decide)) rfl g2 k2 b2 .nil pass0 (pa_cons (pv 0) pa_nil))))
      (pss_one (ps_ret (pe_call G3 (hr.mono (by decide)) rfl g3 k3 b3 .nil pass0 (pa_cons (pv 0) (pa_cons (pe_lc (own := [("standing", 2)]) (g := gName 2) (by rfl) scDE.nd (pi_keys (pv 1)) (blkOk_by (N := nDE) (sc := defScope s_dead_end) (by decide +kernel))
        (fun _ _ _ _ _ => pg_name (i := 2) scDE.nd rfl (Or.inl rfl)) (fun _ _ _ _ _ => pts_one (pt_truthS (K := K) rfl (pe_dget hu (pv 1) (pv 2) (fun _ _ => rfl)))) (fun _ _ _ _ _ => pv 2)) pa_nil)))))), ?_⟩
    refine ⟨_, rfl, ⟨⟨c, _, tc, rfl, hc, ?_⟩⟩⟩
    refine ⟨_, rfl, ⟨⟨c, bs, n, rfl, B, fun p rs f H1 hp0 s1 hp1 RR PA1 => ?_⟩⟩⟩
    refine ⟨p, _, rfl, hp1, trivial, fun od => ?_⟩
    have s2 : Same H (upd H1 p (.frz od (.dK (tabV rs f)))) := fun b o e => by
      rw [upd_ne (ne_of_none e hp0)]
      exact s1 b o e
    have hp : (upd H1 p (.frz od (.dK (tabV rs f)))) p = some (.frz od (.dK (tabV rs f))) := upd_same
    have PA : PulsG (upd H1 p (.frz od (.dK (tabV rs f)))) rs (allP bs) f := PA1.toG.upd hp1 id
    generalize (upd H1 p (.frz od (.dK (tabV rs f)))) = H2 at s2 hp PA ⊢
    have CC := RR.clo (by omega)
    have hfew := RR.few
    refine ⟨_, rfl, _, rfl, p, od, rfl, .inl ⟨_, hp, fun D hD => ?_⟩⟩
    refine lc_pick walk_tabK rs rfl (by omega) (fun st => !(freeL bs st).isEmpty) (fun st => V.str (sstr st)) hD (fun H' s => s _ _ hp) ?_ ?_
    · rintro j z st H3 H3' Tk Nk est s3 ⟨rfl, st', est', rfl⟩ kT kF
      rw [est] at est'
      cases est'
      have hm := List.mem_of_getElem? est
      obtain ⟨l1, el1, pl⟩ := PA st hm
      obtain ⟨ts, hl, ets, hts⟩ := (pl.same s3).h
      have dg := dget_frz (.inr (sstr st)) (s3 _ _ hp)
      rw [tab_val, if_pos hm, el1] at dg
      refine ⟨rfl, ?_⟩
      refine ⟨_, rfl, _, rfl, p, _, rfl, dg, _, .inl ⟨_, SqL.of hl, rfl⟩, ?_⟩
      have ee : (!(ts.map fun t => V.ref t.1).isEmpty) = !(freeL bs st).isEmpty := by
        have e2 : ts.map (·.2) = (freeL bs st).map fun d => (d, flip st d) := ets
        cases q : freeL bs st with
        | nil =>
          rw [q] at e2
          cases ts with
          | nil => rfl
          | cons a b => cases e2
        | cons a b =>
          rw [q] at e2
          cases ts with
          | nil => cases e2
          | cons a b => rfl
      rw [ee]
      cases q : (!(freeL bs st).isEmpty) with
      | true => exact iteT ⟨_, rfl, kT _ q (Same.refl _)⟩
      | false => exact iteF (kF _ q (Same.refl _))
    · intro H3 s3 hD3
      refine ⟨⟨c, D, bs, n, rs.filter fun st => !(freeL bs st).isEmpty, rfl, B.same (s2.trans s3), by rw [txS_eq]; exact hD3, fun ks H4 s4 hE I => ?_⟩⟩
      have e : (ks.find? fun k => (freeL bs k.2.1).isEmpty) = ks.find? fun k => !decide (k.2.1 ∈ rs.filter fun st => !(freeL bs st).isEmpty) := find_congr fun kk hk => by
        have hm := ks_in RR I kk hk
        cases q : (freeL bs kk.2.1).isEmpty with
        | true => rw [decide_eq_false fun z => by have := (List.mem_filter.mp z).2; rw [q] at this; cases this]; rfl
        | false => rw [decide_eq_true (List.mem_filter.mpr ⟨hm, by rw [q]; rfl⟩)]; rfl
      have z := k ks H4 ((s2.trans s3).trans s4) hE I
      rw [e] at z
      cases q : ks.find? (fun k => !decide (k.2.1 ∈ rs.filter fun st => !(freeL bs st).isEmpty)) with
      | none => rw [q] at z; exact z
      | some kk => rw [q] at z; exact z
theorem scNR : FnScope ["cabinet", "pulls"] ["cabinet"] (defScope s_no_return) := ⟨rfl, rfl, rfl, by decide +kernel, rfl, by decide +kernel, by decide +kernel⟩
open Classical in
theorem ok_noReturn {f f1 f2 f3 f4 f5 C : Addr} {fd fd1 fd2 fd3 fd4 fd5 : FuncData} (F : Fun K "no_return" "no_return" s_no_return f fd) (CP : CabP P w K mg base C)
    (G1 : FnOk P w K mg base CX0 1 f1 fd1 ["cabinet"] (spCkCab C)) (g1 : mg "check_cabinet" = some (.ref f1)) (k1 : PySem.W.keepIn K (.ref f1) = true) (b1 : Binds K fd1 ["cabinet"] [])
    (G2 : FnOk P w K mg base CX0 14 f2 fd2 ["cabinet"] (spPulls C)) (g2 : mg "reached_pulls" = some (.ref f2)) (k2 : PySem.W.keepIn K (.ref f2) = true) (b2 : Binds K fd2 ["cabinet"] [])
    (G3 : FnOk P w K mg base CX0 14 f3 fd3 ["cabinet", "standings"] (spBeside C)) (g3 : mg "first_row_beside" = some (.ref f3)) (k3 : PySem.W.keepIn K (.ref f3) = true) (b3 : Binds K fd3 ["cabinet", "standings"] [])
    (G4 : FnOk P w K mg base CX0 1 f4 fd4 ["pulls", "goals"] spLeading) (g4 : mg "leading_to" = some (.ref f4)) (k4 : PySem.W.keepIn K (.ref f4) = true) (b4 : Binds K fd4 ["pulls", "goals"] [])
    (G5 : FnOk P w K mg base CX0 1 f5 fd5 ["drawers"] spFirst) (g5 : mg "first_standing" = some (.ref f5)) (k5 : PySem.W.keepIn K (.ref f5) = true) (b5 : Binds K fd5 ["drawers"] []) :
    FnOk P w K mg base CX0 16 f fd ["cabinet"] (spNoRet C) := by
  refine F.ok scNR (fun vs H Q E h => ?_) (fun cdv A outer s H vs Q E hr h => ?_)
  · obtain ⟨c, bs, n, rfl, _⟩ := h.h
    rfl
  · obtain ⟨c, bs, n, rfl, B, k⟩ := h.h
    have hu := hu_of hr
    obtain ⟨tc, hc, n7⟩ := B.cab
    have n1 : 1 ≤ n := by
      obtain ⟨_, _, _, _, _, _, q, _⟩ := B.h
      omega
    obtain ⟨pD, gD, fdD, hpD, GD, bD⟩ := CP.d
    refine ⟨_, pss_cons (ps_expr (pe_call G1 (hr.mono (by decide)) rfl g1 k1 b1 .nil pass0 (pa_cons (pv 0) pa_nil)))
      (pss_cons (ps_set (i := 1) scNR.nd rfl (Or.inl rfl) (pe_frz (pe_call G2 (hr.mono (by decide)) rfl g2 k2 b2 .nil pass0 (pa_cons (pv 0) pa_nil))))
      (pss_one (ps_ret (pe_call G3 (hr.mono (by decide)) rfl g3 k3 b3 .nil pass0 (pa_cons (pv 0) (pa_cons (pe_call G4 (hr.mono (by decide)) rfl g4 k4 b4 .nil pass0 (pa_cons (pv 1)
        (pa_cons (pe_lst (pa_cons (pe_call G5 (hr.mono (by decide)) rfl g5 k5 b5 .nil pass0 (pa_cons (pe_prop (pv 0) CP.cl hpD GD (hr.mono (by decide)) bD .nil pass0 rfl) pa_nil)) pa_nil)) pa_nil))) pa_nil)))))), ?_⟩
    refine ⟨_, rfl, ⟨⟨c, _, tc, rfl, hc, ?_⟩⟩⟩
    refine ⟨_, rfl, ⟨⟨c, bs, n, rfl, B, fun p rs f H1 hp0 s1 hp1 RR PA1 => ?_⟩⟩⟩
    refine ⟨p, _, rfl, hp1, trivial, fun od => ?_⟩
    have s2 : Same H (upd H1 p (.frz od (.dK (tabV rs f)))) := fun b o e => by
      rw [upd_ne (ne_of_none e hp0)]
      exact s1 b o e
    have hp : (upd H1 p (.frz od (.dK (tabV rs f)))) p = some (.frz od (.dK (tabV rs f))) := upd_same
    have PA : PulsG (upd H1 p (.frz od (.dK (tabV rs f)))) rs (allP bs) f := PA1.toG.upd hp1 id
    generalize (upd H1 p (.frz od (.dK (tabV rs f)))) = H2 at s2 hp PA ⊢
    have CC := RR.clo (by omega)
    obtain ⟨dx, hc0⟩ := hc
    have hc2 := s2 _ _ hc0
    refine ⟨_, rfl, _, rfl, _, rfl, c, dx, _, rfl, hc2, ⟨⟨c, dx, _, tc, rfl, hc2, ⟨⟨n, rfl, n1, by omega, ?_⟩⟩⟩⟩⟩
    refine ⟨(by show 1 ≤ sizeLine; decide), fun q hq => ?_⟩
    have s3 := same_upd (o := .lst [.str (sstr (shutS n))]) hq
    have hq3 : (upd H2 q (.lst [.str (sstr (shutS n))])) q = some (.lst (txS [shutS n])) := upd_same
    refine ⟨⟨p, q, od, rs, allP bs, f, [shutS n], rfl, s3 _ _ hp, CC, PA.same s3, hq3, by simp, fun g hg => by rw [List.mem_singleton.mp hg]; exact RR.root, fun l L H4 hl s4 hL mL => ?_⟩⟩
    refine ⟨⟨c, l, bs, n, L, rfl, B.same ((s2.trans s3).trans s4), hL, fun ks H5 s5 hE I => ?_⟩⟩
    have e : (ks.find? fun k => !decide (LeadTo (allP bs) [shutS n] k.2.1)) = ks.find? fun k => !decide (k.2.1 ∈ L) := find_congr fun kk hk => by
      rw [decide_eq_decide.mpr (mL _ (ks_in RR I kk hk))]
    have z := k ks H5 (((s2.trans s3).trans s4).trans s5) hE I
    rw [e] at z
    cases q : ks.find? (fun k => !decide (k.2.1 ∈ L)) with
    | none => rw [q] at z; exact z
    | some kk => rw [q] at z; exact z
open Classical in
end
end DL

set_option Elab.async false
set_option maxRecDepth 100000
set_option maxHeartbeats 2000000
namespace DL
open PySem L2 HT TL RZ
/-- what possible and sure tell -/
def Told (ag : Bool) (bs : List Bar) (v : V) (H : Hp) : Prop := (ag = false ∧ v = .non) ∨ (ag = true ∧ ∃ p ks, v = .ref p ∧ BLst H p ks ∧ ks.map (·.2) = bs)
theorem Told.same {ag : Bool} {bs : List Bar} {v : V} {H H' : Hp} (T : Told ag bs v H) (s : Same H H') : Told ag bs v H' := T.imp id fun ⟨e, p, ks, e1, B, e2⟩ => ⟨e, p, ks, e1, B.same s, e2⟩
/-- two lists of bars are unlike: != -/
theorem ne_bars {K : PySem.W.Frag} {H : Hp} {x y : Addr} {ks js : List (Addr × Bar)} {Q : VK} (hx : SqL K H x (ks.map fun k => V.ref k.1)) (hk : ∀ k ∈ ks, H k.1 = some (.tup k.2.vs)) (hy : SqL K H y (js.map fun k => V.ref k.1)) (hj : ∀ k ∈ js, H k.1 = some (.tup k.2.vs)) (e : ks.map (·.2) = js.map (·.2)) (h : Q (.bl false) H) : rNeD K (.ref x) (.ref y) H Q := by
  refine ⟨.list (ks.map fun k => barD k.2), .list (js.map fun k => barD k.2), .lst hx (dpAll_bars hk), .lst hy (dpAll_bars hj), dok_shaped (dok_list (dok_bars ks)) (by decide), dok_shaped (dok_list (dok_bars js)) (by decide), ?_⟩
  have e1 : (ks.map fun k => barD k.2) = (ks.map (·.2)).map barD := by rw [List.map_map]; rfl
  have e2 : (js.map fun k => barD k.2) = (js.map (·.2)).map barD := by rw [List.map_map]; rfl
  rw [e1, e2, eqv_barsL, decide_eq_true e]
  exact h
end DL

set_option Elab.async false
set_option maxRecDepth 100000
set_option maxHeartbeats 2000000
namespace DL
open PySem L2 HT TL RZ
/-! ### the two ways to tell all ascending choices of so many -/
/-! ### the first list that is not empty -/
/-! ### `not in` a list or a tuple of bars -/
def rNotInDT (K : PySem.W.Frag) : R2 := fun x y H Q => ∃ d ds, Dp K H x d ∧ (Dp K H y (.list ds) ∨ Dp K H y (.tuple ds)) ∧ SeqAt.shaped d = true ∧ SeqAt.shaped (.list ds) = true ∧ SeqAt.shaped (.tuple ds) = true ∧ Q (.bl (!(ds.any fun z => PyData.eqv z d))) H
theorem op_notInDT {X : Cx} {K : PySem.W.Frag} (hK : X.K = K) (hu : X.A.units + 65 < cLine) : OpR X (compareOp .NotIn) (rNotInDT K) := by
  subst hK
  intro pins s σ H x y v u Q I rx ry h
  obtain ⟨d, ds, hd, he, sd, se, st, q⟩ := h
  obtain ⟨as, r1⟩ := Dp.reads I d x v hd rx
  rcases he with he | he
  · obtain ⟨bs, r2⟩ := Dp.reads I (.list ds) y u he ry
    exact SeqAt.notIn_list_reads r2 r1 (SeqAt.canLay_of_shaped se) (SeqAt.canLay_of_shaped sd) (PyProof.Rows.room_in_shaped sd hu) ⟨.bl _, H, I, rfl, q⟩
  · obtain ⟨bs, r2⟩ := Dp.reads I (.tuple ds) y u he ry
    exact SeqAt.notIn_tuple_reads r2 r1 (SeqAt.canLay_of_shaped st) (SeqAt.canLay_of_shaped sd) (PyProof.Rows.room_in_shaped sd hu) ⟨.bl _, H, I, rfl, q⟩
theorem notin_bars {K : PySem.W.Frag} {H : Hp} {x q : Addr} {b : Bar} {ks : List (Addr × Bar)} {Q : VK} (hx : H x = some (.tup b.vs)) (hq : SqA K H q (ks.map fun k => V.ref k.1)) (hk : ∀ k ∈ ks, H k.1 = some (.tup k.2.vs)) (h : Q (.bl (!decide (b ∈ ks.map (·.2)))) H) : rNotInDT K (.ref x) (.ref q) H Q := by
  refine ⟨barD b, ks.map fun k => barD k.2, dp_bar (SqT.of' hx), hq.imp (fun z => .lst z (dpAll_bars hk)) (fun z => .tup z (dpAll_bars hk)), dok_shaped (dok_bar b) (by decide), dok_shaped (dok_list (dok_bars ks)) (by decide), dok_shaped (dok_tuple (dok_bars ks)) (by decide), ?_⟩
  have e : (ks.map fun k => barD k.2) = (ks.map (·.2)).map barD := by rw [List.map_map]; rfl
  rw [e, any_barD]
  exact h
/-! ### check_pairs of pairs, guards -/
/-- at l a list or tuple of pairs -/
structure PrsAt (H : Hp) (l : Addr) (n : Nat) (qe : List (Addr × Int × Int)) : Prop where
  at' : H l = some (.lst (qe.map fun e => V.ref e.1)) ∨ H l = some (.tup (qe.map fun e => V.ref e.1))
  el : ∀ e ∈ qe, H e.1 = some (.tup [.int e.2.1, .int e.2.2])
  ok : ∀ e ∈ qe, 0 ≤ e.2.1 ∧ e.2.1 < e.2.2 ∧ e.2.2 < n
  few : qe.length ≤ 30
theorem PrsAt.same {H H' : Hp} {l : Addr} {n : Nat} {qe : List (Addr × Int × Int)} (A : PrsAt H l n qe) (s : Same H H') : PrsAt H' l n qe := ⟨A.at'.imp (s _ _) (s _ _), fun e he => s _ _ (A.el e he), A.ok, A.few⟩
theorem PrsAt.seq {H : Hp} {l : Addr} {n : Nat} {qe : List (Addr × Int × Int)} (A : PrsAt H l n qe) (K : PySem.W.Frag) : SqA K H l (qe.map fun e => V.ref e.1) := A.at'.imp SqL.of SqT.of'
end DL

set_option Elab.async false
set_option maxRecDepth 100000
set_option maxHeartbeats 2000000
namespace DL
open PySem L2 HT TL RZ
structure spLawAll6 (vs : List V) (H : Hp) (Q : VK) (_ : XK) : Prop where
  h : ∃ n : Nat, vs = [.int n] ∧ n ≤ 6 ∧ ∀ (p : Addr) (sts : List (List Bool)) (H' : Hp), H p = none → Same H H' → sts.Perm (allT n) → H' p = some (.lst (sts.map fun st => .str (sstr st))) → sts.length ≤ 64 → Q (.ref p) H'
section
variable {P : Program} {w : World} {K : PySem.W.Frag} {mg : Str → Option Value} {base : Heap}
theorem ok_lawAll6 {f : Addr} {fd : FuncData} (F : Fun K "_law_all" "_law_all" s__law_all f fd) (T : Bt mg) : FnOk P w K mg base CX0 1 f fd ["_law_many"] spLawAll6 := by
  refine F.ok scLA (fun vs H Q E h => ?_) (fun cdv A outer s H vs Q E hr h => ?_)
  · obtain ⟨n, rfl, _⟩ := h.h
    rfl
  · obtain ⟨n, rfl, n6, k⟩ := h.h
    refine ⟨_, pss_cons (ps_set (i := 1) scLA.nd rfl (Or.inl rfl) (pe_lst (pa_cons pe_str pa_nil)))
      (pss_cons (ps_for PassesOwn.never rfl (pi_range1 (by rfl) T.range (pa_cons (pv 0) pa_nil)) (pg_name (i := 2) scLA.nd rfl (Or.inl rfl))
        (pss_one (ps_set (i := 1) scLA.nd rfl (Or.inl rfl) (pe_op op_cat
          (pe_lc (own := [("_law_some", 3)]) (g := gName 3) (tt := tYes) (by rfl) scLA.nd (pi_list (pv 1)) (blkOk_by (N := nLA) (sc := defScope s__law_all) (by decide +kernel)) (fun _ _ _ _ _ => pg_name (i := 3) scLA.nd rfl (Or.inl rfl)) (fun _ _ _ _ _ => pts_nil) (fun _ _ _ _ _ => pe_op op_add_str (pv 3) pe_str))
          (pe_lc (own := [("_law_some", 3)]) (g := gName 3) (tt := tYes) (by rfl) scLA.nd (pi_list (pv 1)) (blkOk_by (N := nLA) (sc := defScope s__law_all) (by decide +kernel)) (fun _ _ _ _ _ => pg_name (i := 3) scLA.nd rfl (Or.inl rfl)) (fun _ _ _ _ _ => pts_nil) (fun _ _ _ _ _ => pe_op op_add_str (pv 3) pe_str))))))
      (pss_one (ps_ret (pe_callB cr_sortSA (by rfl) T.sorted (by decide +kernel) (pa_cons (pv 1) pa_nil))))), ?_⟩
    refine ⟨(by show 1 ≤ sizeLine; decide), fun q hq => ?_⟩
    have e0 : (V.str "" : V) = V.str (sstr []) := by decide +kernel
    refine ⟨_, rfl, _, rfl, by omega, by omega, ?_⟩
    rw [Int.toNat_natCast]
    refine for_range (lo := 0) (n := n) (fun i σ H' => ∃ (p : Addr) (sts : List (List Bool)) (u2 u3 : Option V), σ = [some (.int n), some (.ref p), u2, u3] ∧ H' p = some (.lst (sts.map fun st => .str (sstr st))) ∧ (∀ st ∈ sts, st.length = i) ∧ sts.length ≤ 2 ^ i ∧ sts = allT i ∧ Same H H')
      ⟨q, [[]], _, _, rfl, by rw [upd_same, e0]; rfl, fun st hst => by rw [List.mem_singleton.mp hst]; rfl, Nat.le_refl _, rfl, same_upd hq⟩ ?_ ?_
    · rintro i σ H1 hi ⟨p, sts, u2, u3, rfl, hp, hlen, hfew, eT, s1⟩
      have h32 : 2 ^ i ≤ 2 ^ 6 := Nat.pow_le_pow_right (by decide) (by omega)
      have h32' : (2 : Nat) ^ 6 = 64 := rfl
      have one : ∀ (b : Bool) (z : Str) (_ : z.cps.toList = [sg b]) (σ : L2.St) (H2 : Hp) (Qk : VK) (D : Addr), Same H1 H2 → True := fun _ _ _ _ _ _ _ _ => trivial
      clear one
      refine ⟨_, rfl, p, rfl, ⟨_, SqL.of hp⟩, fun D hD => ?_⟩
      refine lc_it walk_list (fun j H' => Same H1 H' ∧ H' D = some (.lst (((sts.take j).map fun st => st ++ [true]).map fun st => V.str (sstr st)))) ⟨same_upd hD, upd_same⟩ (fun j H' _ q => SqL.of (q.1 _ _ hp)) ?_ ?_
      · rintro j x H2 H3 hj ⟨s2, hD1⟩ ⟨rfl, hx⟩
        rw [List.getElem?_map] at hx
        cases ek : sts[j]? with
        | none => rw [ek] at hx; cases hx
        | some st =>
          rw [ek] at hx
          cases hx
          have hl := hlen st (List.mem_of_getElem? ek)
          refine ⟨rfl, tYes_of (iteT ?_)⟩
          refine ⟨_, rfl, _, _, rfl, rfl, by rw [sstr_len]; exact Nat.le_of_lt (small1000 (by show st.length + 1 ≤ 1000; omega)), ?_⟩
          rw [sstr_snoc st true "o" (by decide +kernel)]
          refine ⟨_, hD1, by rw [List.length_map, List.length_map, List.length_take]; exact small1000 (by omega), fun b o e => ?_, ?_⟩
          · rw [upd_ne (ne_of_none e hD)]
            exact s2 b o e
          · rw [upd_same, ← take_succ_map (fun st => st ++ [true]) ek, List.map_append]
            rfl
      · rintro H2 ⟨s2, hD1⟩
        rw [List.length_map, List.take_length] at hD1
        refine ⟨_, rfl, p, rfl, ⟨_, SqL.of (s2 _ _ hp)⟩, fun D' hD' => ?_⟩
        refine lc_it walk_list (fun j H' => Same H2 H' ∧ H' D' = some (.lst (((sts.take j).map fun st => st ++ [false]).map fun st => V.str (sstr st)))) ⟨same_upd hD', upd_same⟩ (fun j H' _ q => SqL.of (q.1 _ _ (s2 _ _ hp))) ?_ ?_
        · rintro j x H3 H4 hj ⟨s3, hD2⟩ ⟨rfl, hx⟩
          rw [List.getElem?_map] at hx
          cases ek : sts[j]? with
          | none => rw [ek] at hx; cases hx
          | some st =>
            rw [ek] at hx
            cases hx
            have hl := hlen st (List.mem_of_getElem? ek)
            refine ⟨rfl, tYes_of (iteT ?_)⟩
            refine ⟨_, rfl, _, _, rfl, rfl, by rw [sstr_len]; exact Nat.le_of_lt (small1000 (by show st.length + 1 ≤ 1000; omega)), ?_⟩
            rw [sstr_snoc st false "s" (by decide +kernel)]
            refine ⟨_, hD2, by rw [List.length_map, List.length_map, List.length_take]; exact small1000 (by omega), fun b o e => ?_, ?_⟩
            · rw [upd_ne (ne_of_none e hD')]
              exact s3 b o e
            · rw [upd_same, ← take_succ_map (fun st => st ++ [false]) ek, List.map_append]
              rfl
        · rintro H3 ⟨s3, hD2⟩
          rw [List.length_map, List.take_length] at hD2
          refine ⟨D, D', _, _, rfl, rfl, s3 _ _ hD1, hD2, by rw [List.length_map, List.length_map, List.length_map, List.length_map]; exact Nat.le_of_lt (small1000 (by omega)), fun pn hpn => ?_⟩
          refine ⟨pn, (sts.map fun st => st ++ [true]) ++ (sts.map fun st => st ++ [false]), _, _, rfl, by rw [upd_same, List.map_append], fun st hst => ?_, ?_, (by rw [eT]; rfl), ((s1.trans s2).trans s3).trans (same_upd hpn)⟩
          · rcases List.mem_append.mp hst with hst | hst <;>
            · obtain ⟨s', hs', rfl⟩ := List.mem_map.mp hst
              rw [List.length_append, hlen s' hs']
              rfl
          · rw [List.length_append, List.length_map, List.length_map, Nat.pow_succ]
            omega
    · rintro σ H1 ⟨p, sts, u2, u3, rfl, hp, hlen, hfew, eT, s1⟩
      have h32 : 2 ^ n ≤ 2 ^ 6 := Nat.pow_le_pow_right (by decide) n6
      have h32' : (2 : Nat) ^ 6 = 64 := rfl
      refine ⟨_, rfl, p, sts.map sstr, rfl, SqL.of (by rw [hp, List.map_map]; rfl), fun ys pn hperm hsrt hpn => ?_⟩
      obtain ⟨sts', rfl, hp'⟩ := perm_all hperm
      have hpl := hperm.length_eq
      rw [List.length_map, List.length_map] at hpl
      refine k pn sts' _ (s1.free hpn) (s1.trans (same_upd hpn)) (by rw [← eT]; exact hp') ?_ (by omega)
      rw [upd_same, List.map_map]
      rfl
end
theorem sl_dropT {K : PySem.W.Frag} {H : Hp} {a : Addr} {xs : List V} {j : Nat} {i : Int} {Q : VK} (hi : i = j) (h : H a = some (.tup xs)) (k : ∀ (t2 : Addr) (H' : Hp), Same H H' → H' t2 = some (.tup (xs.drop j)) → Q (.ref t2) H') : rSlA K (.ref a) (some i) none H Q := by
  subst hi
  refine ⟨a, xs, rfl, SqT.of' h, fun z => k a H (Same.refl _) ?_, fun z p hp => ?_⟩
  · obtain ⟨z, _⟩ := z
    rw [HT.sIx_nat] at z
    rcases Nat.eq_zero_or_pos j with q | q
    · rw [q, List.drop_zero]
      exact h
    · have : xs.length = 0 := by omega
      have e : xs = [] := List.length_eq_zero_iff.mp this
      rw [e] at h ⊢
      rw [List.drop_nil]
      exact h
  · refine k p _ (same_upd hp) ?_
    rw [upd_same]
    unfold cutV
    rw [HT.sIx_nat, HT.sIx_none, List.take_of_length_le (by rw [List.length_drop]; omega)]
    rcases Nat.le_total j xs.length with q | q
    · rw [Nat.min_eq_left q]
    · rw [Nat.min_eq_right q, List.drop_length, List.drop_of_length_le q]
theorem sl_takeT {K : PySem.W.Frag} {H : Hp} {a : Addr} {xs : List V} {j : Nat} {Q : VK} (h : H a = some (.tup xs)) (k : ∀ (t2 : Addr) (H' : Hp), Same H H' → H' t2 = some (.tup (xs.take j)) → Q (.ref t2) H') : rSlA K (.ref a) none (some (j : Int)) H Q :=
  sl_take (SqT.of' h) fun t2 H' s q => k t2 H' s (q.elim id fun ⟨e, e2, e3⟩ => by rw [e, e2, e3]; exact h)
theorem catT {K : PySem.W.Frag} {H : Hp} {a b : Addr} {xs ys : List V} {Q : VK} (ha : H a = some (.tup xs)) (hb : H b = some (.tup ys)) (hz : xs.length + ys.length ≤ 2000) (k : ∀ (c : Addr) (H' : Hp), Same H H' → H' c = some (.tup (xs ++ ys)) → Q (.ref c) H') : rCatA K (.ref a) (.ref b) H Q := by
  refine ⟨a, b, xs, ys, rfl, rfl, SqT.of' ha, SqT.of' hb, ?_, fun z => k b H (Same.refl _) (by rw [z]; exact hb), fun _ z => k a H (Same.refl _) (by rw [z, List.append_nil]; exact ha), fun _ _ p hp => k p _ (same_upd hp) upd_same⟩
  have : (2000 : Nat) ≤ sizeLine := by decide
  omega
/-- how many rows lead to each standing -/
theorem to_sum {bs : List Bar} {n t : Nat} {sts : List (List Bool)} (h : sts.Perm (allT n)) : nSum (sts.map fun st => ((lvl bs n t).filter fun x => fitB x (st.map sg)).length) = (lvl bs n t).length := by
  have nd : sts.Nodup := h.nodup_iff.mpr (allT_nodup n)
  have mem : ∀ st, st ∈ sts ↔ st.length = n := fun st => by rw [h.mem_iff, allT_mem]
  have root : shutS n ∈ sts := (mem _).mpr (shut_len n)
  have ex : ∀ st ∈ sts, ∀ d ∈ freeL bs st, flip st d ∈ sts := fun st hst d _ => (mem _).mpr (by rw [flip_len]; exact (mem _).mp hst)
  rw [← lvl_all nd root ex t]
  congr 1
  refine List.map_congr_left fun st hst => ?_
  have e : (lvl bs n t).filter (fun x => fitB x (st.map sg)) = (lvl bs n t).filter fun x => x == st := by
    refine List.filter_congr fun x hx => ?_
    rw [fit_exact (by rw [(mem x).mp (lvl_in root ex t x hx), (mem st).mp hst]), Bool.eq_iff_iff, decide_eq_true_iff, beq_iff_eq]
  rw [e, ← List.countP_eq_length_filter]
  rfl
theorem nSum_int : ∀ l : List Nat, (l.map fun (x : Nat) => (x : Int)).sum = ((nSum l : Nat) : Int)
  | [] => rfl
  | x :: l => by
    rw [List.map_cons, List.sum_cons, nSum_int l]
    show (x : Int) + (nSum l : Nat) = ((x + nSum l : Nat) : Int)
    omega
/-- where a row told ends that is not empty, none leads back -/
theorem stuck_ret {bs : List Bar} {n : Nat} {es : List Ent} (I : BI bs (shutS n) es.length es) {e : Ent} (he : e ∈ es) (h0 : freeL bs e.1 = []) (hr : e.2 ≠ []) : ¬ LeadTo (allP bs) [shutS n] e.1 := by
  intro h
  cases h with
  | goal h =>
    have h1 := List.mem_singleton.mp h
    obtain rfl : e = (shutS n, []) := nd_eq I.nd he I.root h1
    exact hr rfl
  | step h _ =>
    unfold allP at h
    rw [h0] at h
    cases h
theorem run_more {b1 b2 : List Bar} (h : ∀ b, b ∈ b2 → b ∈ b1) : ∀ {r : List Int} {s s' : List Bool}, runB b1 s r = some s' → runB b2 s r = some s'
  | [], _, _, e => e
  | d :: r, s, s', e => by
    rw [runB_cons] at e ⊢
    by_cases q : goesB b1 s d = true
    · rw [if_pos q] at e
      have q2 : goesB b2 s d = true := by
        unfold goesB at q ⊢
        rw [Bool.not_eq_true', List.any_eq_false] at q ⊢
        exact fun b hb => q b (h b hb)
      rw [if_pos q2]
      exact run_more h e
    · rw [if_neg q] at e
      cases e
theorem row_fewer {b1 b2 : List Bar} {n : Nat} {es : List Ent} {cs : List Nat} {e : Ent} (h : ∀ b, b ∈ b2 → b ∈ b1) (I : BI b1 (shutS n) es.length es) (he : e ∈ es) (hf : fitB e.1 cs = true) : rowB n b2 cs (e.2.map V.int) = true := by
  obtain ⟨l1, ⟨l2, l3⟩, l4⟩ := I.led e he
  unfold rowB isRowB
  have e1 : (e.2.map V.int).map intOf = e.2 := by
    rw [List.map_map]
    conv => rhs; rw [← List.map_id e.2]
    rfl
  rw [e1, run_more h l1, Bool.and_eq_true]
  refine ⟨List.all_eq_true.mpr fun x hx => ?_, hf⟩
  obtain ⟨d, hd, rfl⟩ := List.mem_map.mp hx
  have := l3 d hd
  rw [shut_len] at this
  show (decide (0 ≤ d) && decide (d < (n : Int))) = true
  rw [decide_eq_true this.1, decide_eq_true this.2]
  rfl
/-- rows of a ledger are no longer than it is -/
theorem row_len {bs : List Bar} {n : Nat} {es : List Ent} (I : BI bs (shutS n) es.length es) (n7 : n ≤ 7) : ∀ (L : Nat) (e : Ent), e ∈ es → e.2.length = L → ∃ fs : List Ent, fs.length = L + 1 ∧ (∀ f ∈ fs, f ∈ es ∧ f.2.length ≤ L) ∧ fs.Nodup
  | 0, e, he, hl => ⟨[e], rfl, fun f hf => (by rw [List.mem_singleton.mp hf]; exact ⟨he, by omega⟩), by simp⟩
  | L + 1, e, he, hl => by
    have h7 : (shutS n).length ≤ 7 := by rw [shut_len]; exact n7
    obtain ⟨l1, ⟨l2, l3⟩, l4⟩ := I.led e he
    rcases List.eq_nil_or_concat e.2 with z | ⟨l, d, z⟩
    · rw [z] at hl
      cases hl
    · rw [List.concat_eq_append] at z
      rw [z, runB_snoc] at l1
      cases q : runB bs (shutS n) l with
      | none => rw [q] at l1; cases l1
      | some st =>
        rw [q, Option.bind_some] at l1
        have hll : l.length = L := by
          rw [z, List.length_append, List.length_singleton] at hl
          omega
        obtain ⟨f, hf, f1, f2, f3⟩ := I.opt h7 l (fun x hx => l3 x (by rw [z]; exact List.mem_append_left _ hx)) st q
        by_cases g : goesB bs st d = true
        · rw [if_pos g] at l1
          injection l1 with l1
          obtain ⟨j, hj⟩ := List.getElem?_of_mem hf
          have hd := l3 d (by rw [z]; exact List.mem_append_right _ (List.mem_singleton.mpr rfl))
          obtain ⟨e', he', k1, k2, k3⟩ := I.ex j f (List.getElem?_eq_some_iff.mp hj).1 hj d (free_mem.mpr ⟨by rw [(I.led f hf).2.2]; exact hd, by rw [f1]; exact g⟩)
          obtain rfl : e' = e := nd_eq I.nd he' he (by rw [k1, f1, l1])
          have hfl : f.2.length = L := by omega
          obtain ⟨fs, q1, q2, q3⟩ := row_len I n7 L f hf hfl
          refine ⟨e' :: fs, by rw [List.length_cons, q1], fun x hx => ?_, ?_⟩
          · rcases List.mem_cons.mp hx with rfl | hx
            · exact ⟨he, by omega⟩
            · obtain ⟨z1, z2⟩ := q2 x hx
              exact ⟨z1, by omega⟩
          · rw [List.nodup_cons]
            refine ⟨fun h => ?_, q3⟩
            have := (q2 e' h).2
            omega
        · rw [if_neg g] at l1
          cases l1
theorem row_short {bs : List Bar} {n : Nat} {es : List Ent} (I : BI bs (shutS n) es.length es) (n6 : n ≤ 6) {e : Ent} (he : e ∈ es) : e.2.length ≤ 64 := by
  obtain ⟨fs, h1, h2, h3⟩ := row_len I (by omega) _ e he rfl
  have h4 : fs.length ≤ es.length := nd_leS h3 fun f hf => (h2 f hf).1
  have h5 := few n (es.map (·.1)) I.nd fun st hst => by
    obtain ⟨e', he', rfl⟩ := List.mem_map.mp hst
    rw [(I.led e' he').2.2, shut_len]
  rw [List.length_map] at h5
  have h6 : 2 ^ n ≤ 2 ^ 6 := Nat.pow_le_pow_right (by decide) n6
  have h7 : (2 : Nat) ^ 6 = 64 := rfl
  omega
end DL

set_option Elab.async false
set_option maxRecDepth 100000
set_option maxHeartbeats 1000000
namespace DL
open PySem L2 HT TL RZ
def spLaw (K : PySem.W.Frag) : Sp := fun vs H Q _ => ∃ (a : Addr) (ns : List Int), vs = [.ref a] ∧ SqL K H a (ns.map V.int) ∧ ns.length ≤ 63 ∧ ∀ H', Q (.bl true) H'
theorem ascL_range : ∀ (m : Nat) (k : Int), ascL k m = (List.range m).map fun (i : Nat) => k + (i : Int)
  | 0, _ => rfl
  | m + 1, k => by
    rw [List.range_succ_eq_map, List.map_cons, List.map_map]
    show k :: ascL (k + 1) m = _
    rw [ascL_range m (k + 1)]
    congr 1
    · omega
    · refine List.map_congr_left fun i _ => ?_
      show k + 1 + (i : Int) = k + ((i + 1 : Nat) : Int)
      omega
theorem rgV_asc (n : Nat) : rgV 0 (n : Int) = (ascL 0 n).map V.int := by
  unfold rgV
  rw [ascL_range, List.map_map, show ((n : Int) - 0).toNat = n by omega]
  rfl
/-- what is told of the most drawers open without bars -/
theorem most_free {n : Nat} {km : List KEnt} {M : Int} {k0 : KEnt} {l : List KEnt} (I : BI [] (shutS n) km.length (km.map (·.2))) (n6 : n ≤ 6) (hM : M ∈ km.map (fun k => cnt k.2.1)) (hmax : ∀ k ∈ km, cnt k.2.1 ≤ M) (hf : km.filter (fun k => decide (cnt k.2.1 = M)) = k0 :: l) : M = n ∧ k0.2.2 = ascL 0 n := by
  have I' : BI [] (shutS n) (km.map (·.2)).length (km.map (·.2)) := by rw [List.length_map]; exact I
  have len : ∀ k ∈ km, k.2.1.length = n := fun k hk => by rw [(I'.led k.2 (List.mem_map_of_mem hk)).2.2, shut_len]
  have h1 : List.replicate n true ∈ (km.map (·.2)).map (·.1) := (rc_led I' (by omega)).mp (rc_all List.length_replicate)
  obtain ⟨e1, he1, q1⟩ := List.mem_map.mp h1
  obtain ⟨k1, hk1, rfl⟩ := List.mem_map.mp he1
  have h2 := hmax k1 hk1
  rw [q1, cnt_rep] at h2
  obtain ⟨k2, hk2, rfl⟩ := List.mem_map.mp hM
  have h3 := cnt_le k2.2.1
  rw [len k2 hk2] at h3
  have hMn : cnt k2.2.1 = n := by omega
  have hk0 : k0 ∈ km.filter (fun k => decide (cnt k.2.1 = cnt k2.2.1)) := by rw [hf]; exact List.mem_cons_self
  obtain ⟨m0, c0⟩ := List.mem_filter.mp hk0
  have c0 := of_decide_eq_true c0
  have hfull := cnt_full (st := k0.2.1) (by rw [c0, hMn, len k0 m0])
  rw [len k0 m0] at hfull
  exact ⟨hMn, open_row I' n6 (List.mem_map_of_mem m0) hfull⟩
/-- what stands all along: the draw, its cabinet, the cabinet without bars -/
structure W27 (C r p t c x e0 : Addr) (N : Nat) (ks : List (Addr × Bar)) (H : Hp) : Prop where
  hp : H p = some (.lst [.int N, .ref t])
  hB : BarsAt H t ks
  cc : CabAt C H c N t
  cx : CabAt C H x N e0
  he : H e0 = some (.tup [])
  ne : p ≠ r
theorem W27.same {C r p t c x e0 : Addr} {N : Nat} {ks : List (Addr × Bar)} {H H' : Hp} (W : W27 C r p t c x e0 N ks H) (s : Same H H') : W27 C r p t c x e0 N ks H' := by
  obtain ⟨d1, h1⟩ := W.cc
  obtain ⟨d2, h2⟩ := W.cx
  exact ⟨s _ _ W.hp, W.hB.same s, ⟨d1, s _ _ h1⟩, ⟨d2, s _ _ h2⟩, s _ _ W.he, W.ne⟩
theorem W27.but {C r a p t c x e0 : Addr} {N : Nat} {ks : List (Addr × Bar)} {H H' : Hp} (W : W27 C r p t c x e0 N ks H) (R : RowOk H r a) (B : But r H H') : W27 C r p t c x e0 N ks H' := by
  obtain ⟨_, _, _, q, _⟩ := R.h
  obtain ⟨d1, h1⟩ := W.cc
  obtain ⟨d2, h2⟩ := W.cx
  exact ⟨B _ _ W.ne W.hp, ⟨B.tupL q W.hB.tu, fun k hk => B.tupL q (W.hB.el k hk)⟩, ⟨d1, B _ _ (ne_of h1 q (by intro z; cases z)) h1⟩, ⟨d2, B _ _ (ne_of h2 q (by intro z; cases z)) h2⟩, B.tupL q W.he, W.ne⟩
section
variable {P : Program} {w : World} {K : PySem.W.Frag} {mg : Str → Option Value} {base : Heap}
abbrev nLaw : List Str := ["_law_script", "_law_row", "_law_d", "_law_cabinet", "_law_free", "_law_some", "_law_pattern_here", "_law_told", "_law_at", "_law_fewer", "_law_idle", "_law_standing", "_law_length", "_law_drawer"]
theorem scLaw : FnScope nLaw ["_law_script"] (defScope s_law) := ⟨rfl, rfl, rfl, by decide +kernel, rfl, by decide +kernel, by decide +kernel⟩
theorem ok_law {f fT fP fM fPa fO fD fNr fRe fAl fMo fPt fRt fRi fH fN fF fCr fCt fI C : Addr} {fd dT dP dM dPa dO dD dNr dRe dAl dMo dPt dRt dRi dH dN dF dCr dCt dI : FuncData} (F : Fun K "law" "law" s_law f fd) (T : Bt mg) (zS : mg "sum" = none) (T2 : CabT K mg C) (M : Mk K C fI) (GI : FnOk P w K mg base CX0 5 fI dI ["self", "drawers", "bars"] (spInit C)) (bI : Binds K dI ["self", "drawers", "bars"] [])
    (GT : FnOk P w K mg base CX0 1 fT dT ["_law_row", "_law_many"] (spTaken K)) (gT : mg "_law_taken" = some (.ref fT)) (kT : PySem.W.keepIn K (.ref fT) = true) (bT : Binds K dT ["_law_row", "_law_many"] [])
    (GP : FnOk P w K mg base CX0 2 fP dP ["_law_row", "_law_most"] (spParts K)) (gP : mg "_law_parts" = some (.ref fP)) (kP : PySem.W.keepIn K (.ref fP) = true) (bP : Binds K dP ["_law_row", "_law_most"] [])
    (GM : FnOk P w K mg base CX0 7 fM dM ["_law_d"] (spMade C)) (gM : mg "_law_made" = some (.ref fM)) (kM : PySem.W.keepIn K (.ref fM) = true) (bM : Binds K dM ["_law_d"] [])
    (GPa : FnOk P w K mg base CX0 16 fPa dPa ["cabinet", "some"] (spPaper K C)) (gPa : mg "paper" = some (.ref fPa)) (kPa : PySem.W.keepIn K (.ref fPa) = true) (bPa : Binds K dPa ["cabinet", "some"] [])
    (GO : FnOk P w K mg base CX0 14 fO dO ["cabinet", "some"] (spOpenT K C)) (gO : mg "open_together" = some (.ref fO)) (kO : PySem.W.keepIn K (.ref fO) = true) (bO : Binds K dO ["cabinet", "some"] [])
    (GD : FnOk P w K mg base CX0 16 fD dD ["cabinet"] (spDead C)) (gD : mg "dead_end" = some (.ref fD)) (kD : PySem.W.keepIn K (.ref fD) = true) (bD : Binds K dD ["cabinet"] [])
    (GNr : FnOk P w K mg base CX0 16 fNr dNr ["cabinet"] (spNoRet C)) (gNr : mg "no_return" = some (.ref fNr)) (kNr : PySem.W.keepIn K (.ref fNr) = true) (bNr : Binds K dNr ["cabinet"] [])
    (GRe : FnOk P w K mg base CX0 14 fRe dRe ["cabinet"] (spReachedA C)) (gRe : mg "reached" = some (.ref fRe)) (kRe : PySem.W.keepIn K (.ref fRe) = true) (bRe : Binds K dRe ["cabinet"] [])
    (GAl : FnOk P w K mg base CX0 1 fAl dAl ["_law_many"] spLawAll6) (gAl : mg "_law_all" = some (.ref fAl)) (kAl : PySem.W.keepIn K (.ref fAl) = true) (bAl : Binds K dAl ["_law_many"] [])
    (GMo : FnOk P w K mg base CX0 14 fMo dMo ["cabinet"] (spMost C)) (gMo : mg "most_open" = some (.ref fMo)) (kMo : PySem.W.keepIn K (.ref fMo) = true) (bMo : Binds K dMo ["cabinet"] [])
    (GPt : FnOk P w K mg base CX0 2 fPt dPt ["_law_row", "_law_many", "_law_signs"] (spPattern K)) (gPt : mg "_law_pattern" = some (.ref fPt)) (kPt : PySem.W.keepIn K (.ref fPt) = true) (bPt : Binds K dPt ["_law_row", "_law_many", "_law_signs"] [])
    (GRt : FnOk P w K mg base CX0 14 fRt dRt ["cabinet", "pattern"] (spRowTo C)) (gRt : mg "row_to" = some (.ref fRt)) (kRt : PySem.W.keepIn K (.ref fRt) = true) (bRt : Binds K dRt ["cabinet", "pattern"] [])
    (GRi : FnOk P w K mg base CX0 12 fRi dRi ["cabinet", "pattern", "value"] (spRight K C)) (gRi : mg "right_row" = some (.ref fRi)) (kRi : PySem.W.keepIn K (.ref fRi) = true) (bRi : Binds K dRi ["cabinet", "pattern", "value"] [])
    (GH : FnOk P w K mg base CX0 1 fH dH ["_law_bar", "_law_standing", "_law_drawer"] (spHold K)) (gH : mg "_law_hold" = some (.ref fH)) (kH : PySem.W.keepIn K (.ref fH) = true) (bH : Binds K dH ["_law_bar", "_law_standing", "_law_drawer"] [])
    (GN : FnOk P w K mg base CX0 16 fN dN ["cabinet"] (spNeedless C)) (gN : mg "needless" = some (.ref fN)) (kN : PySem.W.keepIn K (.ref fN) = true) (bN : Binds K dN ["cabinet"] [])
    (GF : FnOk P w K mg base CX0 16 fF dF ["cabinet"] (spFewest K C)) (gF : mg "fewest_bars" = some (.ref fF)) (kF : PySem.W.keepIn K (.ref fF) = true) (bF : Binds K dF ["cabinet"] [])
    (GCr : FnOk P w K mg base CX0 18 fCr dCr ["cabinet", "length"] (spCtRows C)) (gCr : mg "count_rows" = some (.ref fCr)) (kCr : PySem.W.keepIn K (.ref fCr) = true) (bCr : Binds K dCr ["cabinet", "length"] [])
    (GCt : FnOk P w K mg base CX0 18 fCt dCt ["cabinet", "length", "pattern"] (spCtTo C)) (gCt : mg "count_to" = some (.ref fCt)) (kCt : PySem.W.keepIn K (.ref fCt) = true) (bCt : Binds K dCt ["cabinet", "length", "pattern"] []) :
    FnOk P w K mg base CX0 20 f fd ["_law_script"] (spLaw K) := by
  refine F.ok scLaw (fun vs H Q E h => ?_) (fun cdv A outer s H vs Q E hr h => ?_)
  · obtain ⟨a, ns, rfl, _⟩ := h
    rfl
  · obtain ⟨a, ns, rfl, hS, hlen, k⟩ := h
    have hu : _ + 64 < cLine := hr.units
    have hu1 := hu_of hr
    have hu2 := hr.un
    rw [Nat.add_assoc] at hu2
    have hu3 := Nat.lt_of_le_of_lt (Nat.add_le_add_left (by decide : 65 ≤ 16 * 19 + 200) _) hu2
    refine ⟨_, pss_cons (ps_set (i := 1) scLaw.nd rfl (Or.inr rfl) (pe_lst (pa_cons (pv 0) (pa_cons pe_int (pa_cons pe_int (pa_cons pe_int pa_nil))))))
      (pss_cons (ps_set (i := 2) scLaw.nd rfl (Or.inl rfl) (pe_call GP (hr.mono (by decide)) rfl gP kP bP .nil pass0 (pa_cons (pv 1) (pa_cons pe_int pa_nil))))
      (pss_cons (ps_asg (pe_tup (pa_cons (pe_call GM (hr.mono (by decide)) rfl gM kM bM .nil pass0 (pa_cons (pv 2) pa_nil)) (pa_cons (pe_make M GI (hr.mono (by decide)) rfl T2.mgC bI .nil pass0 (pa_cons (pe_ix ix_list (pv 2) pe_int (fun _ _ => rfl)) (pa_cons (pe_tup pa_nil) pa_nil))) pa_nil))) (pg_tup (by rfl) (pgs_cons (pg_name (i := 3) scLaw.nd rfl (.inr rfl)) (pgs_cons (pg_name (i := 4) scLaw.nd rfl (.inl rfl)) pgs_nil))))
      (pss_cons (ps_set (i := 5) scLaw.nd rfl (Or.inl rfl) (pe_tupleOf (by rfl) T.tuple (pe_lc (own := [("_law_drawer", 13)]) (g := gName 13) (by rfl) scLaw.nd (pi_range1 (by rfl) T.range (pa_cons (pe_ix ix_list (pv 2) pe_int (fun _ _ => rfl)) pa_nil)) (blkOk_by (N := nLaw) (sc := defScope s_law) (by decide +kernel)) (fun _ _ _ _ _ => pg_name (i := 13) scLaw.nd rfl (by first | exact Or.inl rfl | exact Or.inr rfl))
          (fun _ _ _ _ _ => pts_one (pt_cmpR op_eq (pe_call GT (hr.mono (by decide)) rfl gT kT bT .nil pass0 (pa_cons (pv 1) (pa_cons pe_int pa_nil))) pe_int (nomark _))) (fun _ _ _ _ _ => pv 13))))
      (C8.pss_cut (ps_if (pt_cmpR op_ne (pe_cmp (pc_isN (pe_call GPa (hr.mono (by decide)) rfl gPa kPa bPa .nil pass0 (pa_cons (pv 3) (pa_cons (pv 5) pa_nil))))) (pe_cmp (pc_notN (pe_call GO (hr.mono (by decide)) rfl gO kO bO .nil pass0 (pa_cons (pv 3) (pa_cons (pv 5) pa_nil))))) (nomark _)) (pss_one (ps_ret pe_bl)) pss_nil)
      (C8.pss_cut (ps_if (PW.pt (pw_and (pt_cmpR (op_notInDT (K := K) rfl hu3) (pe_call GD (hr.mono (by decide)) rfl gD kD bD .nil pass0 (pa_cons (pv 3) pa_nil)) (pe_lst (pa_cons pe_non (pa_cons (pe_tup pa_nil) pa_nil))) (by rfl)) (pw_and1 (pt_cmp (pc_isN (pe_call GNr (hr.mono (by decide)) rfl gNr kNr bNr .nil pass0 (pa_cons (pv 3) pa_nil))))))) (pss_one (ps_ret pe_bl)) pss_nil)
      (C8.pss_cut (ps_if (PW.pt (pw_or (pt_cmpR op_ne (pe_callB call_len_seq (by rfl) T.len PySem.boot_len (pa_cons (pe_call GRe (hr.mono (by decide)) rfl gRe kRe bRe .nil pass0 (pa_cons (pv 4) pa_nil)) pa_nil)) (pe_callB call_len_seq (by rfl) T.len PySem.boot_len (pa_cons (pe_call GAl (hr.mono (by decide)) rfl gAl kAl bAl .nil pass0 (pa_cons (pe_ix ix_list (pv 2) pe_int (fun _ _ => rfl)) pa_nil)) pa_nil)) (nomark _))
          (pw_or1 (pt_cmpR (op_neD hu) (pe_call GMo (hr.mono (by decide)) rfl gMo kMo bMo .nil pass0 (pa_cons (pv 4) pa_nil)) (pe_tup (pa_cons (pe_ix ix_list (pv 2) pe_int (fun _ _ => rfl)) (pa_cons (pe_tupRg rfl (by rfl) T.tuple (prg_1 (by rfl) T.range (pe_ix ix_list (pv 2) pe_int (fun _ _ => rfl)))) pa_nil))) (nomark _))))) (pss_one (ps_ret pe_bl)) pss_nil)
      (pss_cons (ps_set (i := 6) scLaw.nd rfl (Or.inl rfl) (pe_call GPt (hr.mono (by decide)) rfl gPt kPt bPt .nil pass0 (pa_cons (pv 1) (pa_cons (pe_ix ix_list (pv 2) pe_int (fun _ _ => rfl)) (pa_cons pe_str pa_nil)))))
      (pss_cons (ps_set (i := 7) scLaw.nd rfl (Or.inl rfl) (pe_call GRt (hr.mono (by decide)) rfl gRt kRt bRt .nil pass0 (pa_cons (pv 3) (pa_cons (pv 6) pa_nil))))
      (C8.pss_cut (ps_if (pt_cmpR (op_neD hu) (pe_ix ix_list (pv 2) pe_int (fun _ _ => rfl)) (pe_tup pa_nil) (nomark _))
          (pss_cons (ps_set (i := 8) scLaw.nd rfl (Or.inl rfl) (pe_call GT (hr.mono (by decide)) rfl gT kT bT .nil pass0 (pa_cons (pv 1) (pa_cons (pe_callB call_len_seq (by rfl) T.len PySem.boot_len (pa_cons (pe_ix ix_list (pv 2) pe_int (fun _ _ => rfl)) pa_nil)) pa_nil))))
          (pss_cons (ps_set (i := 9) scLaw.nd rfl (Or.inl rfl) (pe_make M GI (hr.mono (by decide)) rfl T2.mgC bI .nil pass0 (pa_cons (pe_ix ix_list (pv 2) pe_int (fun _ _ => rfl)) (pa_cons (pe_op op_catA (pe_slice sl_tupA (pe_ix ix_list (pv 2) pe_int (fun _ _ => rfl)) po_none (po_some (pv 8))) (pe_slice sl_tupA (pe_ix ix_list (pv 2) pe_int (fun _ _ => rfl)) (po_some (pe_op op_add (pv 8) pe_int)) po_none)) pa_nil))))
          (C8.pss_cut (ps_if (PW.pt (pw_and (pt_cmp (pc_notN (pv 7))) (pw_and1 (pt_not (pt_val (pe_call GRi (hr.mono (by decide)) rfl gRi kRi bRi .nil pass0 (pa_cons (pv 9) (pa_cons (pv 6) (pa_cons (pv 7) pa_nil))))))))) (pss_one (ps_ret pe_bl)) pss_nil)
          (pss_cons (ps_set (i := 10) scLaw.nd rfl (Or.inl rfl) pe_bl)
          (pss_cons (ps_for PassesOwn.never rfl (pi_list (pe_call GRe (hr.mono (by decide)) rfl gRe kRe bRe .nil pass0 (pa_cons (pv 3) pa_nil))) (pg_name (i := 11) scLaw.nd rfl (Or.inl rfl))
            (pss_one (ps_if (pt_val (pe_call GH (hr.mono (by decide)) rfl gH kH bH .nil pass0 (pa_cons (pe_ix ix_tup (pe_ix ix_list (pv 2) pe_int (fun _ _ => rfl)) (pv 8) (fun _ _ => rfl)) (pa_cons (pv 11) (pa_cons (pe_ix ix_tup (pe_ix ix_tup (pe_ix ix_list (pv 2) pe_int (fun _ _ => rfl)) (pv 8) (fun _ _ => rfl)) pe_int (fun _ _ => rfl)) pa_nil)))))
              (pss_one (ps_set (i := 10) scLaw.nd rfl (Or.inl rfl) pe_bl)) pss_nil)))
          (pss_one (ps_if (PW.pt (pw_and (pt_val (pv 10)) (pw_and1 (pt_cmpR (op_notInDT (K := K) rfl hu3) (pe_ix ix_tup (pe_ix ix_list (pv 2) pe_int (fun _ _ => rfl)) (pv 8) (fun _ _ => rfl)) (pe_call GN (hr.mono (by decide)) rfl gN kN bN .nil pass0 (pa_cons (pv 3) pa_nil)) (by rfl))))) (pss_one (ps_ret pe_bl)) pss_nil)))))))
          pss_nil)
      (pss_cons (ps_if (pt_cmpR (op_neD hu) (pe_call GN (hr.mono (by decide)) rfl gN kN bN .nil pass0 (pa_cons (pe_make M GI (hr.mono (by decide)) rfl T2.mgC bI .nil pass0 (pa_cons (pe_ix ix_list (pv 2) pe_int (fun _ _ => rfl)) (pa_cons (pe_call GF (hr.mono (by decide)) rfl gF kF bF .nil pass0 (pa_cons (pv 3) pa_nil)) pa_nil))) pa_nil)) (pe_lst pa_nil) (nomark _)) (pss_one (ps_ret pe_bl)) pss_nil)
      (pss_cons (ps_set (i := 12) scLaw.nd rfl (Or.inr rfl) (pe_call GT (hr.mono (by decide)) rfl gT kT bT .nil pass0 (pa_cons (pv 1) (pa_cons pe_int pa_nil))))
      (pss_cons (ps_if (pt_cmpR op_lt (pe_ix ix_list (pv 2) pe_int (fun _ _ => rfl)) pe_int (nomark _))
        (pss_one (ps_ret (pe_cmpR op_eq (pe_call GCr (hr.mono (by decide)) rfl gCr kCr bCr .nil pass0 (pa_cons (pv 3) (pa_cons (pv 12) pa_nil))) (pe_callB (cr_sum rfl) (by rfl) zS boot_sumK (pa_cons
          (pe_lc (own := [("_law_standing", 11)]) (g := gName 11) (tt := tYes) (by rfl) scLaw.nd (pi_list (pe_call GAl (hr.mono (by decide)) rfl gAl kAl bAl .nil pass0 (pa_cons (pe_ix ix_list (pv 2) pe_int (fun _ _ => rfl)) pa_nil))) (blkOk_by (N := nLaw) (sc := defScope s_law) (by decide +kernel)) (fun _ _ _ _ _ => pg_name (i := 11) scLaw.nd rfl (by first | exact Or.inl rfl | exact Or.inr rfl)) (fun _ _ _ _ _ => pts_nil)
            (fun _ _ _ _ _ => pe_call GCt (hr.mono (by decide)) rfl gCt kCt bCt .nil pass0 (pa_cons (pv 3) (pa_cons (pv 12) (pa_cons (pv 11) pa_nil))))) pa_nil)) (nomark _)))) pss_nil)
      (pss_one (ps_ret pe_bl)))))))))))))), ?_⟩
    refine ⟨_, rfl, (by show 4 ≤ sizeLine; decide), fun r hr0 => ?_⟩
    have R0 : RowOk (upd H r (.lst [.ref a, .int 0, .int 227, .int 0])) r a := ⟨⟨0, 227, 0, upd_same, by decide, by decide, by decide, by decide⟩⟩
    have S0 : SqL K (upd H r (.lst [.ref a, .int 0, .int 227, .int 0])) a (ns.map V.int) := (same_upd hr0).seq hS
    generalize (upd H r (.lst [.ref a, .int 0, .int 227, .int 0])) = H0 at R0 S0 ⊢
    refine ⟨_, rfl, ⟨⟨r, a, ns, 6, rfl, R0, S0, by decide, by decide, fun p t n ks H2 hp0 ht0 n1 n6 hp hB O h13 R2 B2 => ?_⟩⟩⟩
    obtain ⟨N, rfl⟩ : ∃ N : Nat, n = N := ⟨n.toNat, by omega⟩
    have N6 : N ≤ 6 := by omega
    have N1 : 1 ≤ N := by omega
    have S2 := B2.seqR R0 S0
    have hpr : p ≠ r := by
      obtain ⟨_, _, _, q, _⟩ := id R0.h
      exact (ne_of_none q hp0).symm
    refine ⟨_, rfl, ⟨⟨p, t, N, ks, [], rfl, hp, n1, by omega, hB, O, fun c H3 hc0 hcab s3 => ?_⟩⟩⟩
    refine ⟨_, rfl, p, _, 0, .int N, rfl, rfl, SqL.of (s3 _ _ hp), atI_nat (j := 0) rfl, (by show 0 ≤ sizeLine; decide), fun e0 he0 => ?_⟩
    obtain ⟨s4, f4⟩ := new_at (o := .tup []) he0
    generalize upd H3 e0 (.tup []) = H4 at s4 f4 ⊢
    intro x dx2 nx ndx nex
    have sx : Same H4 (upd (upd H4 dx2 (.own x)) x (.ins C dx2 [])) := fun b o e => by
      rw [upd_ne (ne_of_none e nx), upd_ne (ne_of_none e ndx)]
      exact e
    have O0 : OkBars N (([] : List (Addr × Bar)).map (·.2)) := ⟨fun b hb => (by cases hb), List.Pairwise.nil⟩
    refine ⟨⟨x, dx2, N, e0, [], rfl, upd_same, n1, by omega, ⟨sx _ _ f4, fun k hk => (by cases hk)⟩, O0, fun H5 hx kp => ⟨rfl, ?_⟩⟩⟩
    have s5 : Same H4 H5 := fun b o e => kp b o (ne_of_none e nx) (sx b o e)
    refine ⟨(by show 2 ≤ sizeLine; decide), fun tp htp => ?_⟩
    obtain ⟨s6, f6⟩ := new_at (o := .tup [.ref c, .ref x]) htp
    generalize upd H5 tp (.tup [.ref c, .ref x]) = H6 at s6 f6 ⊢
    refine ⟨tp, _, rfl, SqT.of' f6, rfl, _, _, rfl, _, _, rfl, rfl, ?_⟩
    have s26 := ((s3.trans s4).trans s5).trans s6
    have W6 : W27 C r p t c x e0 N ks H6 := by
      obtain ⟨d1, h1⟩ := hcab
      exact ⟨s26 _ _ hp, hB.same s26, ⟨d1, s6 _ _ (s5 _ _ (s4 _ _ h1))⟩, ⟨dx2, s6 _ _ hx⟩, s6 _ _ (s5 _ _ f4), hpr⟩
    have R6 := R2.same s26
    have S6 := s26.seq S2
    clear s26 s6 f6 htp s5 kp hx sx nx ndx nex s4 f4 he0 s3 hcab hc0 hp hB hpr S2 B2 R2 S0 R0 ht0 hp0
    have SC : ∀ {H'}, But r H6 H' → SqL K H' a (ns.map V.int) := fun B => B.seqR R6 S6
    have WC : ∀ {H'}, But r H6 H' → W27 C r p t c x e0 N ks H' := fun B => W6.but R6 B
    have l100 : (ks.map (·.2)).length ≤ 100 := by rw [List.length_map]; omega
    have cab : ∀ {H'}, W27 C r p t c x e0 N ks H' → CabOk C H' c N (ks.map (·.2)) := fun W => ⟨⟨t, ks, W.cc, W.hB, rfl, O, n1, by omega, l100⟩⟩
    have cab0 : ∀ {H'}, W27 C r p t c x e0 N ks H' → CabOk C H' x N [] := fun W => ⟨⟨e0, [], W.cx, ⟨W.he, fun k hk => (by cases hk)⟩, rfl, O0, n1, by omega, by decide⟩⟩
    have h7 : (shutS N).length ≤ 7 := by rw [shut_len]; omega
    have hsame : ∀ {kr : List KEnt} {es : List Ent} {b : List Bar}, BI b (shutS N) kr.length (kr.map (·.2)) → BI b (shutS N) es.length es → kr.map (·.2) = es := fun {kr es b} I1 I2 => by
      have I1' : BI b (shutS N) (kr.map (·.2)).length (kr.map (·.2)) := by rw [List.length_map]; exact I1
      exact I1'.same I2 h7
    -- some
    refine ⟨_, rfl, p, _, 0, .int N, rfl, rfl, SqL.of W6.hp, atI_nat (j := 0) rfl, _, rfl, by omega, by omega, fun D hD => ?_⟩
    rw [Int.toNat_natCast]
    have nDr : D ≠ r := by
      obtain ⟨_, _, _, q', _⟩ := id R6.h
      exact (ne_of_none q' hD).symm
    refine lc_range (lo := 0) (n := N) (fun j H' => RowOk H' r a ∧ But r H6 H' ∧ ∃ ds : List Int, H' D = some (.lst (ds.map V.int)) ∧ (∀ d ∈ ds, 0 ≤ d ∧ d < j) ∧ ds.Pairwise (· < ·) ∧ ds.length ≤ j)
      ⟨R6.same (same_upd hD), sbut (same_upd hD), [], upd_same, (fun d hd => by cases hd), List.Pairwise.nil, Nat.le_refl _⟩ ?_ ?_
    · rintro j J2 hj ⟨R2, B2, ds, hD2, hlow, hasc, hlen2⟩
      refine ⟨rfl, ?_⟩
      refine ⟨_, rfl, ⟨⟨r, a, ns, 2, rfl, R2, SC B2, by decide, by decide, fun v J3 w0 w1 R4 B4 => ?_⟩⟩⟩
      refine ⟨rfl, _, rfl, ?_⟩
      have hD3 := B4 _ _ nDr hD2
      have e0 : decide ((V.int v) = V.int 0) = decide (v = 0) := decide_eq_decide.mpr ⟨fun z => by injection z, fun z => by rw [z]⟩
      show if decide ((V.int v) = V.int 0) = true then _ else _
      rw [e0]
      cases e : decide (v = 0) with
      | false =>
        refine iteF ⟨R4, B2.trans B4, ds, hD3, fun d hd => ?_, hasc, by omega⟩
        have := hlow d hd
        omega
      | true =>
        refine iteT ⟨_, rfl, _, hD3, by rw [List.length_map]; exact small1000 (by omega), ?_, ?_, ds ++ [(j : Int)], ?_, fun d hd => ?_, ?_, by rw [List.length_append]; show ds.length + 1 ≤ _; omega⟩
        · obtain ⟨i', m', e', q1, q2⟩ := R4.h
          exact ⟨⟨i', m', e', by rw [upd_ne (Ne.symm nDr)]; exact q1, q2⟩⟩
        · intro b o hb hH
          rw [upd_ne (ne_of_none hH hD)]
          exact B4 _ _ hb (B2 _ _ hb hH)
        · rw [upd_same, List.map_append, show (0 : Int) + (j : Nat) = (j : Int) by omega]
          rfl
        · rcases List.mem_append.mp hd with hd | hd
          · have := hlow d hd
            omega
          · rw [List.mem_singleton.mp hd]
            omega
        · rw [List.pairwise_append]
          refine ⟨hasc, List.pairwise_singleton _ _, fun x hx y hy => ?_⟩
          rw [List.mem_singleton.mp hy]
          exact (hlow x hx).2
    · rintro J2 ⟨R2, B2, ds, hD2, hlow, hasc, hlen2⟩
      refine .inl ⟨D, _, rfl, SqL.of hD2, fun sm hsm => ?_⟩
      obtain ⟨s4, f4⟩ := new_at (o := .tup (ds.map V.int)) hsm
      generalize upd J2 sm (.tup (ds.map V.int)) = J3 at s4 f4 ⊢
      have R4 := R2.same s4
      have B4 := B2.trans (sbut s4)
      have W4 := WC B4
      have SA : SetAt K J3 N sm ds := ⟨SqT.of' f4, hlow, hasc⟩
      clear hD2 s4 hsm R2 B2 hD nDr
      refine ⟨fun σ' H' => σ' = [some (.ref a), some (.ref r), some (.ref p), some (.ref c), some (.ref x), some (.ref sm), none, none, none, none, none, none, none, none] ∧ RowOk H' r a ∧ But r H6 H', ?_, ?_⟩
      · refine ⟨_, rfl, _, rfl, ⟨⟨c, sm, ks.map (·.2), N, ds, rfl, cab W4, SA, fun es J5 s5 I => ⟨fun e => ?_, fun e q sts hps hq => ?_⟩⟩⟩⟩
        · refine ⟨_, rfl, _, rfl, ⟨⟨c, sm, ks.map (·.2), N, ds, rfl, cab (W4.same s5), SA.same s5, fun kr J6 s6 hE I2 => ?_⟩⟩⟩
          have ekr : kr.map (·.2) = es := hsame I2 I
          cases q : kr.find? fun k => ds.all fun d => sat k.2.1 d with
          | none =>
            exfalso
            obtain ⟨e1, he1, h1⟩ := List.any_eq_true.mp e
            rw [← ekr] at he1
            obtain ⟨k1, hk1, rfl⟩ := List.mem_map.mp he1
            exact absurd h1 (List.find?_eq_none.mp q k1 hk1)
          | some k1 => exact ⟨rfl, _, rfl, iteF ⟨rfl, R4.same (s5.trans s6), B4.trans (sbut (s5.trans s6))⟩⟩
        · refine ⟨_, rfl, _, rfl, ⟨⟨c, sm, ks.map (·.2), N, ds, rfl, cab (W4.same s5), SA.same s5, fun kr J6 s6 hE I2 => ?_⟩⟩⟩
          have ekr : kr.map (·.2) = es := hsame I2 I
          have q0 : (kr.find? fun k => ds.all fun d => sat k.2.1 d) = none := by
            rw [List.find?_eq_none]
            intro k1 hk1 h1
            have : (es.any fun e => ds.all fun d => sat e.1 d) = true := List.any_eq_true.mpr ⟨k1.2, by rw [← ekr]; exact List.mem_map_of_mem hk1, h1⟩
            rw [e] at this
            cases this
          rw [q0]
          exact ⟨rfl, _, rfl, iteF ⟨rfl, R4.same (s5.trans s6), B4.trans (sbut (s5.trans s6))⟩⟩
      · rintro σ' J5 ⟨rfl, R5, B5⟩
        have W5 := WC B5
        refine ⟨fun σ' H' => σ' = [some (.ref a), some (.ref r), some (.ref p), some (.ref c), some (.ref x), some (.ref sm), none, none, none, none, none, none, none, none] ∧ RowOk H' r a ∧ But r H6 H', ?_, ?_⟩
        · refine ⟨_, rfl, ⟨⟨c, ks.map (·.2), N, rfl, cab W5, fun kd J6 s6 hE I1 => ?_⟩⟩⟩
          refine ⟨(by show 0 ≤ sizeLine; decide), fun te hte => ?_⟩
          obtain ⟨s7, f7⟩ := new_at (o := .tup []) hte
          generalize upd J6 te (.tup []) = J7 at s7 f7 ⊢
          refine ⟨(by show 2 ≤ sizeLine; decide), fun le hle => ?_⟩
          obtain ⟨s8, f8⟩ := new_at (o := .lst [.non, .ref te]) hle
          generalize upd J7 le (.lst [.non, .ref te]) = J8 at s8 f8 ⊢
          have s68 := s7.trans s8
          have s58 := s6.trans s68
          have hy : Dp K J8 (.ref le) (.list [.none, .tuple []]) := .lst (SqL.of f8) (.cons .non (.cons (.tup (SqT.of' (s8 _ _ f7)) .nil) .nil))
          cases q : kd.find? fun k => (freeL (ks.map (·.2)) k.2.1).isEmpty with
          | none =>
            refine ⟨.none, [.none, .tuple []], .non, .inl hy, by decide, by decide, by decide, _, rfl, ?_⟩
            have e1 : (!([PyData.none, .tuple []].any fun z => PyData.eqv z .none)) = false := by simp [PyData.eqv]
            rw [e1]
            exact iteF (iteF ⟨rfl, R5.same s58, B5.trans (sbut s58)⟩)
          | some k0 =>
            have hk0 := List.mem_of_find?_eq_some q
            have hfr : freeL (ks.map (·.2)) k0.2.1 = [] := by
              have := List.find?_some q
              exact List.isEmpty_iff.mp this
            refine ⟨.tuple (k0.2.2.map PyData.int), [.none, .tuple []], .tup (SqT.of' (s68 _ _ (hE.el k0 hk0))) (dpAll_ints _), .inl hy, dok_shaped (dok_tuple (dok_ints _)) (by decide), by decide, by decide, _, rfl, ?_⟩
            have e1 : (!([PyData.none, .tuple []].any fun z => PyData.eqv z (.tuple (k0.2.2.map PyData.int)))) = !k0.2.2.isEmpty := by
              cases k0.2.2 <;> simp [PyData.eqv, PyData.eqvAll]
            rw [e1]
            cases e2 : k0.2.2 with
            | nil => exact iteF (iteF ⟨rfl, R5.same s58, B5.trans (sbut s58)⟩)
            | cons d0 ds0 =>
              refine iteT ?_
              refine ⟨_, rfl, ⟨⟨c, ks.map (·.2), N, rfl, cab (W5.same s58), fun kn J9 s9 hE9 I9 => ?_⟩⟩⟩
              have I1' : BI (ks.map (·.2)) (shutS N) (kd.map (·.2)).length (kd.map (·.2)) := by rw [List.length_map]; exact I1
              have ekn : kn.map (·.2) = kd.map (·.2) := hsame I9 I1'
              have hno := stuck_ret I1' (List.mem_map_of_mem hk0) hfr (by rw [e2]; intro z; cases z)
              have hk0m : k0.2 ∈ kn.map (·.2) := by rw [ekn]; exact List.mem_map_of_mem hk0
              obtain ⟨k1, hk1, e3⟩ := List.mem_map.mp hk0m
              have s59 := s58.trans s9
              generalize hq2 : (kn.find? fun k => !(@decide (LeadTo (allP (ks.map (·.2))) [shutS N] k.2.1) (Classical.propDecidable _))) = fo
              cases fo with
              | none =>
                exfalso
                have := List.find?_eq_none.mp hq2 k1 hk1
                rw [e3] at this
                exact this (by rw [Bool.not_eq_true', decide_eq_false_iff_not]; exact hno)
              | some k2 => exact ⟨_, rfl, iteF ⟨rfl, R5.same s59, B5.trans (sbut s59)⟩⟩
        · rintro σ' J6 ⟨rfl, R6', B6⟩
          have W6' := WC B6
          refine ⟨fun σ' H' => σ' = [some (.ref a), some (.ref r), some (.ref p), some (.ref c), some (.ref x), some (.ref sm), none, none, none, none, none, none, none, none] ∧ RowOk H' r a ∧ But r H6 H', ?_, ?_⟩
          · refine ⟨_, rfl, ⟨⟨x, [], N, rfl, cab0 W6', fun q es ys J7 s7 I7 py sy hq hq7 => ?_⟩⟩⟩
            refine ⟨q, _, rfl, .inl (SqL.of hq7), ?_⟩
            have W7 := W6'.same s7
            refine ⟨_, rfl, p, _, 0, .int N, rfl, rfl, SqL.of W7.hp, atI_nat (j := 0) rfl, ⟨⟨N, rfl, N6, fun q2 sts J8 hq2 s8 pst h8 lst => ?_⟩⟩⟩
            refine ⟨q2, _, rfl, .inl (SqL.of h8), ?_⟩
            have el : (ys.map V.str).length = (sts.map fun st => V.str (sstr st)).length := by
              rw [List.length_map, List.length_map, py.length_eq, pst.length_eq, List.length_map, ← (free_perm I7 (by omega)).length_eq, List.length_map]
            have W8 := W7.same s8
            have s68 := s7.trans s8
            refine ⟨rfl, _, rfl, ?_⟩
            rw [el]
            have eb : (!(decide (V.int ((sts.map fun st => V.str (sstr st)).length : Int) = V.int ((sts.map fun st => V.str (sstr st)).length : Int)))) = false := by rw [decide_eq_true rfl]; rfl
            rw [eb]
            refine iteF ?_
            refine ⟨_, rfl, ⟨⟨x, [], N, rfl, cab0 W8, fun pm km M k0 l J9 s9 hE I9 hM hmax hf hpm => ?_⟩⟩⟩
            obtain ⟨rfl, e0'⟩ := most_free I9 N6 hM hmax hf
            have W9 := W8.same s9
            have hk0 : k0 ∈ km := (List.mem_filter.mp (by rw [hf]; exact List.mem_cons_self)).1
            refine ⟨_, rfl, p, _, 0, .int N, rfl, rfl, SqL.of W9.hp, atI_nat (j := 0) rfl, _, rfl, p, _, 0, .int N, rfl, rfl, SqL.of W9.hp, atI_nat (j := 0) rfl, _, rfl, RgOk.of_le (by decide) (by omega) (by decide) (by omega), fun tr htr => ?_⟩
            obtain ⟨s10, f10⟩ := new_at (o := .tup (rgV 0 (N : Int))) htr
            generalize upd J9 tr (.tup (rgV 0 (N : Int))) = J10 at s10 f10 ⊢
            refine ⟨(by show 2 ≤ sizeLine; decide), fun tt htt => ?_⟩
            obtain ⟨s11, f11⟩ := new_at (o := .tup [.int N, .ref tr]) htt
            generalize upd J10 tt (.tup [.int N, .ref tr]) = J11 at s11 f11 ⊢
            have s911 := s10.trans s11
            rw [rgV_asc] at f10
            have s611 := (s68.trans s9).trans s911
            have dk : dok 3 (.tuple [.int N, .tuple ((ascL 0 N).map PyData.int)]) := dok_tuple fun d hd => by
              simp only [List.mem_cons, List.not_mem_nil, or_false] at hd
              rcases hd with rfl | rfl
              · exact ⟨(dok_int _).1, Nat.le_trans (dok_int _).2 (by decide)⟩
              · exact dok_tuple (dok_ints _)
            have hrow := hE.el k0 hk0
            rw [e0'] at hrow
            refine ⟨.tuple [.int N, .tuple ((ascL 0 N).map PyData.int)], .tuple [.int N, .tuple ((ascL 0 N).map PyData.int)], .tup (SqT.of' (s911 _ _ hpm)) (.cons (.int _) (.cons (.tup (SqT.of' (s911 _ _ hrow)) (dpAll_ints _)) .nil)), .tup (SqT.of' f11) (.cons (.int _) (.cons (.tup (SqT.of' (s11 _ _ f10)) (dpAll_ints _)) .nil)), dok_shaped dk (by decide), dok_shaped dk (by decide), _, rfl, ?_⟩
            rw [eqv_self dk]
            exact iteF ⟨rfl, R6'.same s611, B6.trans (sbut s611)⟩
          · rintro σ' J7 ⟨rfl, R7, B7⟩
            have W7 := WC B7
            refine ⟨_, rfl, _, rfl, p, _, 0, .int N, rfl, rfl, SqL.of W7.hp, atI_nat (j := 0) rfl, ⟨⟨r, a, ns, N, "os?", rfl, R7, SC B7, n1, by omega, by decide +kernel, by decide +kernel, fun cs J8 lcs hcs R8 B8 => ?_⟩⟩⟩
            obtain rfl : cs.length = N := by omega
            have B68 := B7.trans B8
            have W8 := WC B68
            refine ⟨_, rfl, _, rfl, ⟨⟨c, ks.map (·.2), cs, rfl, cab W8, hcs, fun kr J9 s9 hE I => ?_⟩⟩⟩
            have Ir : BI (ks.map (·.2)) (shutS cs.length) (kr.map (·.2)).length (kr.map (·.2)) := by rw [List.length_map]; exact I
            have R9 := R8.same s9
            have B69 := B68.trans (sbut s9)
            refine ⟨fun σ' H' => ∃ u8 u9 u10 u11 : Option V, σ' = [some (.ref a), some (.ref r), some (.ref p), some (.ref c), some (.ref x), some (.ref sm), some (.str (pstr cs)), some (rowK (kr.find? fun k => fitB k.2.1 cs)), u8, u9, u10, u11, none, none] ∧ RowOk H' r a ∧ But r H6 H', ?_, ?_⟩
            · have W9 := WC B69
              refine ⟨_, rfl, p, _, 1, .ref t, rfl, rfl, SqL.of W9.hp, atI_nat (j := 1) rfl, (by show 0 ≤ sizeLine; decide), fun te hte => ?_⟩
              obtain ⟨s10, f10⟩ := new_at (o := .tup []) hte
              generalize upd J9 te (.tup []) = J10 at s10 f10 ⊢
              have W10 := W9.same s10
              have R10 := R9.same s10
              have B610 := B69.trans (sbut s10)
              refine ⟨.tuple (ks.map fun k => barD k.2), .tuple [], .tup (SqT.of' W10.hB.tu) (dpAll_bars W10.hB.el), .tup (SqT.of' f10) .nil, dok_shaped (dok_tuple (dok_bars ks)) (by decide), by decide, _, rfl, ?_⟩
              rw [eqv_tnil]
              by_cases hk0 : ks = []
              · have e1 : (ks.map fun k => barD k.2).isEmpty = true := by rw [hk0]; rfl
                rw [e1]
                exact iteF ⟨_, _, _, _, rfl, R10, B610⟩
              · have hks : 1 ≤ ks.length := List.length_pos_iff.mpr hk0
                have e1 : (ks.map fun k => barD k.2).isEmpty = false := by
                  cases ks with
                  | nil => exact absurd rfl hk0
                  | cons b0 bs0 => rfl
                rw [e1]
                refine iteT ?_
                refine ⟨_, rfl, _, rfl, p, _, 1, .ref t, rfl, rfl, SqL.of W10.hp, atI_nat (j := 1) rfl, t, _, rfl, .inr (SqT.of' W10.hB.tu), ⟨⟨r, a, ns, ks.length, by rw [List.length_map]; rfl, R10, SC B610, by omega, by omega, fun v J11 v0 v1 R11 B11 => ?_⟩⟩⟩
                obtain ⟨m, rfl⟩ : ∃ m : Nat, v = m := ⟨v.toNat, by omega⟩
                have hm : m < ks.length := by omega
                have B611 := B610.trans B11
                have W11 := WC B611
                refine ⟨_, rfl, p, _, 0, .int cs.length, rfl, rfl, SqL.of W11.hp, atI_nat (j := 0) rfl, _, rfl, p, _, 1, .ref t, rfl, rfl, SqL.of W11.hp, atI_nat (j := 1) rfl, ?_⟩
                refine ⟨_, rfl, m, rfl, sl_takeT (j := m) W11.hB.tu fun t1 J12 s12 ht1 => ?_⟩
                have W12 := W11.same s12
                refine ⟨_, rfl, p, _, 1, .ref t, rfl, rfl, SqL.of W12.hp, atI_nat (j := 1) rfl, _, rfl, _, _, rfl, rfl, _, rfl, ?_⟩
                dsimp only [tNoPart]
                refine sl_dropT (j := m + 1) (i := (m : Int) + 1) (by omega) W12.hB.tu fun t2 J13 s13 ht2 => ?_
                have W13 := W12.same s13
                obtain ⟨kf, ekf⟩ : ∃ kf, kf = ks.take m ++ ks.drop (m + 1) := ⟨_, rfl⟩
                refine catT (s13 _ _ ht1) ht2 (by rw [List.length_take, List.length_drop, List.length_map]; omega) fun t3 J14 s14 ht3 => ?_
                rw [← List.map_take, ← List.map_drop, ← List.map_append, ← ekf] at ht3
                have W14 := W13.same s14
                have subf : ∀ k ∈ kf, k ∈ ks := fun k hk => by
                  rw [ekf] at hk
                  rcases List.mem_append.mp hk with h | h
                  · exact List.mem_of_mem_take h
                  · exact List.mem_of_mem_drop h
                have slf : kf.Sublist ks := by
                  rw [ekf, ← List.eraseIdx_eq_take_drop_succ]
                  exact List.eraseIdx_sublist _ _
                have Of : OkBars cs.length (kf.map (·.2)) := ⟨fun b hb => by
                  obtain ⟨k', hk', rfl⟩ := List.mem_map.mp hb
                  exact O.ok _ (List.mem_map_of_mem (subf k' hk')), O.asc.sublist (slf.map _)⟩
                have lf : (kf.map (·.2)).length ≤ 100 := by
                  rw [List.length_map]
                  have := slf.length_le
                  omega
                intro y dx3 ny ndy ney
                have sy : Same J14 (upd (upd J14 dx3 (.own y)) y (.ins C dx3 [])) := fun b o e => by
                  rw [upd_ne (ne_of_none e ny), upd_ne (ne_of_none e ndy)]
                  exact e
                have hBf : BarsAt J14 t3 kf := ⟨ht3, fun k hk => W14.hB.el k (subf k hk)⟩
                refine ⟨⟨y, dx3, cs.length, t3, kf, rfl, upd_same, n1, by omega, hBf.same sy, Of, fun J15 hy kp => ⟨rfl, ?_⟩⟩⟩
                have s15 : Same J14 J15 := fun b o e => kp b o (ne_of_none e ny) (sy b o e)
                have W15 := W14.same s15
                have hBf15 := hBf.same s15
                have s1115 := ((s12.trans s13).trans s14).trans s15
                have R15 := R11.same s1115
                have B615 := B611.trans (sbut s1115)
                have hrow15 : ∀ k ∈ kr, J15 k.1 = some (.tup (k.2.2.map V.int)) := fun k hk => by
                  obtain ⟨_, _, _, q, _⟩ := id R10.h
                  exact s1115 _ _ (B11.tupL q (s10 _ _ (hE.el k hk)))
                clear sy ny ndy ney kp s15 hBf W14 ht3 s14 W13 ht2 s13 W12 ht1 s12 s1115
                refine ⟨fun σ' H' => σ' = [some (.ref a), some (.ref r), some (.ref p), some (.ref c), some (.ref x), some (.ref sm), some (.str (pstr cs)), some (rowK (kr.find? fun k => fitB k.2.1 cs)), some (.int m), some (.ref y), none, none, none, none] ∧ RowOk H' r a ∧ But r H6 H', ?_, ?_⟩
                · cases qf : kr.find? (fun k => fitB k.2.1 cs) with
                  | none => exact ⟨_, rfl, _, rfl, iteF (iteF ⟨rfl, R15, B615⟩)⟩
                  | some k0 =>
                    have hk0 := List.mem_of_find?_eq_some qf
                    have hfit := List.find?_some qf
                    have hfit : fitB k0.2.1 cs = true := hfit
                    refine ⟨_, rfl, _, rfl, iteT ?_⟩
                    refine ⟨_, rfl, _, rfl, _, rfl, ⟨⟨y, kf.map (·.2), cs, .ref k0.1, rfl, ⟨⟨t3, kf, ⟨dx3, hy⟩, hBf15, rfl, Of, n1, by omega, lf⟩⟩, hcs, .inr ⟨k0.1, k0.2.2.map V.int, rfl, SqT.of' (hrow15 k0 hk0), ?_, fun z hz => ?_, fun J16 s16 => ?_⟩⟩⟩⟩
                    · rw [List.length_map]
                      have := row_short Ir N6 (List.mem_map_of_mem hk0)
                      omega
                    · obtain ⟨d, _, rfl⟩ := List.mem_map.mp hz
                      rfl
                    · rw [row_fewer (b1 := ks.map (·.2)) (fun b hb => by
                        obtain ⟨k', hk', rfl⟩ := List.mem_map.mp hb
                        exact List.mem_map_of_mem (subf k' hk')) Ir (List.mem_map_of_mem hk0) hfit]
                      exact ⟨_, rfl, iteF ⟨rfl, R15.same s16, B615.trans (sbut s16)⟩⟩
                · rintro σ' J16 ⟨rfl, R16, B16⟩
                  have W16 := WC B16
                  obtain ⟨bm, hbm⟩ : ∃ bm, ks[m]? = some bm := ⟨_, List.getElem?_eq_getElem hm⟩
                  have hbmm := List.mem_of_getElem? hbm
                  have hbok : bm.2.ok cs.length := O.ok _ (List.mem_map_of_mem hbmm)
                  have hat : atI (ks.map fun k => V.ref k.1) ((m : Nat) : Int) = some (.ref bm.1) := atI_nat (by rw [List.getElem?_map, hbm]; rfl)
                  refine ⟨_, rfl, ⟨⟨c, ks.map (·.2), cs.length, rfl, cab W16, fun q es ys J17 s17 I17 py sy hq hq17 => ?_⟩⟩⟩
                  obtain ⟨sts, rfl, pst⟩ := any_perm py
                  rw [List.map_map] at hq17
                  have hq17 : J17 q = some (.lst (sts.map fun st => V.str (sstr st))) := hq17
                  have W17 := W16.same s17
                  have hlen : ∀ st ∈ sts, st.length = cs.length := fun st hst => by
                    obtain ⟨e, he, rfl⟩ := List.mem_map.mp (pst.mem_iff.mp hst)
                    rw [(I17.led e he).2.2, shut_len]
                  refine ⟨q, rfl, ⟨_, SqL.of hq17⟩, ?_⟩
                  refine for_it (walk_lst (K := K) (a := q) (l := sts) (f := fun st => V.str (sstr st))) (fun i σ H' => ∃ u11 : Option V, σ = [some (.ref a), some (.ref r), some (.ref p), some (.ref c), some (.ref x), some (.ref sm), some (.str (pstr cs)), some (rowK (kr.find? fun k => fitB k.2.1 cs)), some (.int m), some (.ref y), some (.bl (!((sts.take i).any fun st => hind bm.2 st bm.2.d))), u11, none, none] ∧ Same J17 H')
                    ⟨_, rfl, Same.refl _⟩ (fun i σ H' _ ⟨_, _, s⟩ => SqL.of (s _ _ hq17)) ?_ ?_
                  · rintro i z σ J18 J18' hi ⟨u11, rfl, s18⟩ ⟨rfl, st, est, rfl⟩
                    have W18 := W17.same s18
                    have hl := hlen st (List.mem_of_getElem? est)
                    refine ⟨_, rfl, p, _, 1, .ref t, rfl, rfl, SqL.of W18.hp, atI_nat (j := 1) rfl, _, rfl, t, _, m, .ref bm.1, rfl, rfl, SqT.of' W18.hB.tu, hat, ?_⟩
                    refine ⟨_, rfl, _, rfl, p, _, 1, .ref t, rfl, rfl, SqL.of W18.hp, atI_nat (j := 1) rfl, _, rfl, t, _, m, .ref bm.1, rfl, rfl, SqT.of' W18.hB.tu, hat, ?_⟩
                    have hbt := W18.hB.el bm hbmm
                    refine ⟨bm.1, _, 0, .int bm.2.d, rfl, rfl, SqT.of' hbt, atI_nat (j := 0) rfl, ⟨⟨bm.1, bm.2, st, bm.2.d, rfl, SqT.of' hbt, by rw [hl]; exact hbok, by omega, hbok.1, by have := hbok.2.1; omega, ?_⟩⟩⟩
                    have etk : ((sts.take (i + 1)).any fun st => hind bm.2 st bm.2.d) = (((sts.take i).any fun st => hind bm.2 st bm.2.d) || hind bm.2 st bm.2.d) := by
                      obtain ⟨hil, e'⟩ := List.getElem?_eq_some_iff.mp est
                      rw [List.take_succ_eq_append_getElem hil, e', List.any_append, List.any_cons, List.any_nil, Bool.or_false]
                    refine ⟨_, rfl, ?_⟩
                    cases eh : hind bm.2 st bm.2.d with
                    | true =>
                      refine iteT ⟨some (.str (sstr st)), ?_, s18⟩
                      rw [etk, eh, Bool.or_true]
                      rfl
                    | false =>
                      refine iteF ⟨some (.str (sstr st)), ?_, s18⟩
                      rw [etk, eh, Bool.or_false]
                      rfl
                  · rintro σ J18 ⟨u11, rfl, s18⟩
                    rw [List.take_length]
                    have W18 := W17.same s18
                    have s1618 := s17.trans s18
                    refine ⟨_, rfl, _, rfl, ?_⟩
                    cases ei : sts.any fun st => hind bm.2 st bm.2.d with
                    | true => exact iteF (iteF ⟨_, _, _, _, rfl, R16.same s1618, B16.trans (sbut s1618)⟩)
                    | false =>
                      refine iteT ?_
                      refine ⟨_, rfl, p, _, 1, .ref t, rfl, rfl, SqL.of W18.hp, atI_nat (j := 1) rfl, _, rfl, t, _, m, .ref bm.1, rfl, rfl, SqT.of' W18.hB.tu, hat, ?_⟩
                      refine ⟨_, rfl, ⟨⟨c, t, ks, cs.length, rfl, W18.cc, W18.hB, O, N1, by omega, by omega, fun pn es2 J19 s19 hpn h19 I19 => ?_⟩⟩⟩
                      obtain rfl : es2 = es := I19.same I17 h7
                      have W19 := W18.same s19
                      have s1619 := s1618.trans s19
                      have hsg : single ks cs.length es2 bm.2 = false := by
                        rw [single_iff ⟨hbok.1, hbok.2.1⟩, List.any_eq_false]
                        intro e he h1
                        have h1 := of_decide_eq_true h1
                        have h2 : bm.2 ∈ (ks.map (·.2)).filter fun x => hind x e.1 bm.2.d := by rw [h1]; exact List.mem_cons_self
                        have h3 := (List.mem_filter.mp h2).2
                        have h4 : (sts.any fun st => hind bm.2 st bm.2.d) = true := List.any_eq_true.mpr ⟨e.1, pst.mem_iff.mpr (List.mem_map_of_mem he), h3⟩
                        rw [ei] at h4
                        cases h4
                      refine notin_bars (W19.hB.el bm hbmm) (.inl (SqL.of h19)) (fun k hk => W19.hB.el k (List.mem_filter.mp hk).1) ⟨_, rfl, ?_⟩
                      have hin : bm.2 ∈ (ks.filter fun k => !(single ks cs.length es2 k.2)).map (·.2) := List.mem_map_of_mem (List.mem_filter.mpr ⟨hbmm, by rw [hsg]; rfl⟩)
                      rw [decide_eq_true hin]
                      exact iteF ⟨_, _, _, _, rfl, R16.same s1619, B16.trans (sbut s1619)⟩
            · rintro σ' J10 ⟨u8, u9, u10, u11, rfl, R10, B10⟩
              have W10 := WC B10
              -- needless(Cabinet(d[0], fewest_bars(cabinet)))
              refine ⟨_, rfl, p, _, 0, .int cs.length, rfl, rfl, SqL.of W10.hp, atI_nat (j := 0) rfl, ?_⟩
              refine ⟨_, rfl, ⟨⟨c, t, ks, cs.length, rfl, W10.cc, W10.hB, O, N1, by omega, by omega, fun pf ef Rf J11 s11 hpf hRf If Lf => ?_⟩⟩⟩
              have ef' := fewest_okb O (by omega) Lf
              have subR := fewest_sub O (by omega) Lf
              have hen : ∀ e ∈ ef, e.1.length = cs.length := fun e he => by rw [(If.led e he).2.2, shut_len]
              have eap : apartE (ks.map (·.2)) (Rf.map (·.2)) ef = none := (apart_iff hen subR).mpr Lf.meets
              have IR := If.alike h7 eap
              have lRf : Rf.length ≤ 100 := by
                have := nd_leS (asc_nodup ef') subR
                rw [List.length_map] at this
                omega
              have W11 := W10.same s11
              intro z dx4 nz ndz nez
              have sz : Same J11 (upd (upd J11 dx4 (.own z)) z (.ins C dx4 [])) := fun b o e => by
                rw [upd_ne (ne_of_none e nz), upd_ne (ne_of_none e ndz)]
                exact e
              have hBR : BarsAt J11 pf Rf := ⟨hpf, hRf⟩
              refine ⟨⟨z, dx4, cs.length, pf, Rf, rfl, upd_same, n1, by omega, hBR.same sz, ef', fun J12 hz kp => ⟨rfl, ?_⟩⟩⟩
              have s12 : Same J11 J12 := fun b o e => kp b o (ne_of_none e nz) (sz b o e)
              refine ⟨⟨z, pf, Rf, cs.length, rfl, ⟨dx4, hz⟩, hBR.same s12, ef', N1, by omega, lRf, fun pn es3 J13 s13 hpn h13 I3 => ?_⟩⟩
              obtain rfl : es3 = ef := I3.same IR h7
              have enl : (Rf.filter fun k => !(single Rf cs.length es3 k.2)) = [] := by
                rw [List.filter_eq_nil_iff]
                intro b hb
                have hbm : b.2 ∈ Rf.map (·.2) := List.mem_map_of_mem hb
                obtain ⟨e, he, h1⟩ := fewest_single O (by omega) Lf hbm
                rw [single_iff ⟨(ef'.ok _ hbm).1, (ef'.ok _ hbm).2.1⟩, List.any_eq_true.mpr ⟨e, he, decide_eq_true h1⟩]
                decide
              rw [enl] at h13
              refine ⟨(by show 0 ≤ sizeLine; decide), fun e0' he0 => ?_⟩
              obtain ⟨s14, f14⟩ := new_at (o := .lst []) he0
              generalize upd J13 e0' (.lst []) = J14 at s14 f14 ⊢
              have s1014 := (s11.trans s12).trans (s13.trans s14)
              have R14 := R10.same s1014
              have B614 := B10.trans (sbut s1014)
              refine ne_bars (ks := []) (js := []) (SqL.of (s14 _ _ h13)) (fun k hk => by cases hk) (SqL.of f14) (fun k hk => by cases hk) rfl ⟨_, rfl, iteF ?_⟩
              refine ⟨_, rfl, ⟨⟨r, a, ns, 30, rfl, R14, SC B614, by decide, by decide, fun v J15 v0 v1 R15 B15 => ?_⟩⟩⟩
              obtain ⟨tn, rfl⟩ : ∃ tn : Nat, v = tn := ⟨v.toNat, by omega⟩
              have B615 := B614.trans B15
              have W15 := WC B615
              refine ⟨_, rfl, p, _, 0, .int cs.length, rfl, rfl, SqL.of W15.hp, atI_nat (j := 0) rfl, _, _, rfl, rfl, _, rfl, ?_⟩
              cases e5 : decide ((cs.length : Int) < 5) with
              | false => exact iteF (k J15)
              | true =>
                refine iteT ?_
                refine ⟨_, rfl, _, rfl, ⟨⟨c, ks.map (·.2), cs.length, tn, rfl, cab W15, by omega, fun J16 s16 => ?_⟩⟩⟩
                have W16 := W15.same s16
                refine ⟨_, rfl, p, _, 0, .int cs.length, rfl, rfl, SqL.of W16.hp, atI_nat (j := 0) rfl, ⟨⟨cs.length, rfl, N6, fun q sts J17 hq s17 pst h17 lst => ?_⟩⟩⟩
                have W17 := W16.same s17
                have hlen : ∀ st ∈ sts, st.length = cs.length := fun st hst => (allT_mem _ st).mp (pst.mem_iff.mp hst)
                refine ⟨q, rfl, ⟨_, SqL.of h17⟩, fun D hD => ?_⟩
                refine lc_pick (walk_lst (K := K) (a := q) (l := sts) (f := fun st => V.str (sstr st))) sts rfl (by omega) (fun _ => true) (fun st => V.int ((((lvl (ks.map (·.2)) cs.length tn).filter fun x => fitB x (st.map sg)).length : Nat) : Int)) hD (fun H' s => SqL.of (s _ _ h17)) ?_ ?_
                · rintro j y st J18 J18' Tk Nk est s18 ⟨rfl, st', est', rfl⟩ kT' kF'
                  rw [est] at est'
                  cases est'
                  have hl := hlen st (List.mem_of_getElem? est)
                  have hl2 : (st.map sg).length = cs.length := by rw [List.length_map, hl]
                  refine ⟨rfl, tYes_of (iteT ?_)⟩
                  refine ⟨_, rfl, _, rfl, _, rfl, ⟨⟨c, ks.map (·.2), tn, st.map sg, rfl, by rw [hl2]; exact cab (W17.same s18), ?_, by omega, fun J19 s19 => ?_⟩⟩⟩
                  · intro ch hch
                    obtain ⟨b, _, rfl⟩ := List.mem_map.mp hch
                    cases b <;> decide +kernel
                  · rw [hl2]
                    exact kT' _ rfl s19
                intro J18 s18 hD18
                rw [List.filter_eq_self.mpr fun _ _ => rfl] at hD18
                refine ⟨D, (sts.map fun st => ((lvl (ks.map (·.2)) cs.length tn).filter fun x => fitB x (st.map sg)).length).map fun (z : Nat) => (z : Int), rfl, SqL.of (by rw [hD18, List.map_map, List.map_map]; rfl), ?_⟩
                rw [nSum_int, to_sum pst]
                refine ⟨rfl, ?_⟩
                rw [decide_eq_true rfl]
                exact k J18
end
end DL

set_option Elab.async false
set_option maxRecDepth 100000
set_option maxHeartbeats 8000000
namespace DL
open PySem L2 HT TL
/-! ### what the top has written -/
theorem all_mk {l : PySem.W.OpenLaw} {w : World} {K : PySem.W.Frag} {h : Heap} {mg : Str → Option Value} {fa : Addr} (X : K.In h) (G : h.Ns mainGlobals mg) (hfa : mg "law" = some (.ref fa))
    {f_is_integer : Addr} {od_is_integer an_is_integer : Option Addr} {sl_is_integer : Array (Option Value)} {oc_is_integer kV_is_integer dc_is_integer pm_is_integer cd_is_integer ct_is_integer : Value}
    {f_is_drawer_count : Addr} {od_is_drawer_count an_is_drawer_count : Option Addr} {sl_is_drawer_count : Array (Option Value)} {oc_is_drawer_count kV_is_drawer_count dc_is_drawer_count pm_is_drawer_count cd_is_drawer_count ct_is_drawer_count : Value}
    {f_is_drawer : Addr} {od_is_drawer an_is_drawer : Option Addr} {sl_is_drawer : Array (Option Value)} {oc_is_drawer kV_is_drawer dc_is_drawer pm_is_drawer cd_is_drawer ct_is_drawer : Value}
    {f_is_bar : Addr} {od_is_bar an_is_bar : Option Addr} {sl_is_bar : Array (Option Value)} {oc_is_bar kV_is_bar dc_is_bar pm_is_bar cd_is_bar ct_is_bar : Value}
    {f_check_drawers : Addr} {od_check_drawers an_check_drawers : Option Addr} {sl_check_drawers : Array (Option Value)} {oc_check_drawers kV_check_drawers dc_check_drawers pm_check_drawers cd_check_drawers ct_check_drawers : Value}
    {f_check_bars : Addr} {od_check_bars an_check_bars : Option Addr} {sl_check_bars : Array (Option Value)} {oc_check_bars kV_check_bars dc_check_bars pm_check_bars cd_check_bars ct_check_bars : Value}
    {f__law_taken : Addr} {od__law_taken an__law_taken : Option Addr} {sl__law_taken : Array (Option Value)} {oc__law_taken kV__law_taken dc__law_taken pm__law_taken cd__law_taken ct__law_taken : Value}
    {f__law_parts : Addr} {od__law_parts an__law_parts : Option Addr} {sl__law_parts : Array (Option Value)} {oc__law_parts kV__law_parts dc__law_parts pm__law_parts cd__law_parts ct__law_parts : Value}
    {f__law_made : Addr} {od__law_made an__law_made : Option Addr} {sl__law_made : Array (Option Value)} {oc__law_made kV__law_made dc__law_made pm__law_made cd__law_made ct__law_made : Value}
    {f_hinders : Addr} {od_hinders an_hinders : Option Addr} {sl_hinders : Array (Option Value)} {oc_hinders kV_hinders dc_hinders pm_hinders cd_hinders ct_hinders : Value}
    {f_moved : Addr} {od_moved an_moved : Option Addr} {sl_moved : Array (Option Value)} {oc_moved kV_moved dc_moved pm_moved cd_moved ct_moved : Value}
    {f_bars_against : Addr} {od_bars_against an_bars_against : Option Addr} {sl_bars_against : Array (Option Value)} {oc_bars_against kV_bars_against dc_bars_against pm_bars_against cd_bars_against ct_bars_against : Value}
    {f_goes : Addr} {od_goes an_goes : Option Addr} {sl_goes : Array (Option Value)} {oc_goes kV_goes dc_goes pm_goes cd_goes ct_goes : Value}
    {f_free_drawers : Addr} {od_free_drawers an_free_drawers : Option Addr} {sl_free_drawers : Array (Option Value)} {oc_free_drawers kV_free_drawers dc_free_drawers pm_free_drawers cd_free_drawers ct_free_drawers : Value}
    {f__law_hold : Addr} {od__law_hold an__law_hold : Option Addr} {sl__law_hold : Array (Option Value)} {oc__law_hold kV__law_hold dc__law_hold pm__law_hold cd__law_hold ct__law_hold : Value}
    {f__law_pattern : Addr} {od__law_pattern an__law_pattern : Option Addr} {sl__law_pattern : Array (Option Value)} {oc__law_pattern kV__law_pattern dc__law_pattern pm__law_pattern cd__law_pattern ct__law_pattern : Value}
    {f_has_signs : Addr} {od_has_signs an_has_signs : Option Addr} {sl_has_signs : Array (Option Value)} {oc_has_signs kV_has_signs dc_has_signs pm_has_signs cd_has_signs ct_has_signs : Value}
    {f_is_pattern : Addr} {od_is_pattern an_is_pattern : Option Addr} {sl_is_pattern : Array (Option Value)} {oc_is_pattern kV_is_pattern dc_is_pattern pm_is_pattern cd_is_pattern ct_is_pattern : Value}
    {f_check_cabinet : Addr} {od_check_cabinet an_check_cabinet : Option Addr} {sl_check_cabinet : Array (Option Value)} {oc_check_cabinet kV_check_cabinet dc_check_cabinet pm_check_cabinet cd_check_cabinet ct_check_cabinet : Value}
    {f_check_pattern : Addr} {od_check_pattern an_check_pattern : Option Addr} {sl_check_pattern : Array (Option Value)} {oc_check_pattern kV_check_pattern dc_check_pattern pm_check_pattern cd_check_pattern ct_check_pattern : Value}
    {f_first_standing : Addr} {od_first_standing an_first_standing : Option Addr} {sl_first_standing : Array (Option Value)} {oc_first_standing kV_first_standing dc_first_standing pm_first_standing cd_first_standing ct_first_standing : Value}
    {f_fits : Addr} {od_fits an_fits : Option Addr} {sl_fits : Array (Option Value)} {oc_fits kV_fits dc_fits pm_fits cd_fits ct_fits : Value}
    {f_end_of_row : Addr} {od_end_of_row an_end_of_row : Option Addr} {sl_end_of_row : Array (Option Value)} {oc_end_of_row kV_end_of_row dc_end_of_row pm_end_of_row cd_end_of_row ct_end_of_row : Value}
    {f_right_row : Addr} {od_right_row an_right_row : Option Addr} {sl_right_row : Array (Option Value)} {oc_right_row kV_right_row dc_right_row pm_right_row cd_right_row ct_right_row : Value}
    {f_rows_from : Addr} {od_rows_from an_rows_from : Option Addr} {sl_rows_from : Array (Option Value)} {oc_rows_from kV_rows_from dc_rows_from pm_rows_from cd_rows_from ct_rows_from : Value}
    {f_first_rows : Addr} {od_first_rows an_first_rows : Option Addr} {sl_first_rows : Array (Option Value)} {oc_first_rows kV_first_rows dc_first_rows pm_first_rows cd_first_rows ct_first_rows : Value}
    {f_first_row_to : Addr} {od_first_row_to an_first_row_to : Option Addr} {sl_first_row_to : Array (Option Value)} {oc_first_row_to kV_first_row_to dc_first_row_to pm_first_row_to cd_first_row_to ct_first_row_to : Value}
    {f_row_to : Addr} {od_row_to an_row_to : Option Addr} {sl_row_to : Array (Option Value)} {oc_row_to kV_row_to dc_row_to pm_row_to cd_row_to ct_row_to : Value}
    {f_reached : Addr} {od_reached an_reached : Option Addr} {sl_reached : Array (Option Value)} {oc_reached kV_reached dc_reached pm_reached cd_reached ct_reached : Value}
    {f__law_all : Addr} {od__law_all an__law_all : Option Addr} {sl__law_all : Array (Option Value)} {oc__law_all kV__law_all dc__law_all pm__law_all cd__law_all ct__law_all : Value}
    {f_is_set : Addr} {od_is_set an_is_set : Option Addr} {sl_is_set : Array (Option Value)} {oc_is_set kV_is_set dc_is_set pm_is_set cd_is_set ct_is_set : Value}
    {f_check_set : Addr} {od_check_set an_check_set : Option Addr} {sl_check_set : Array (Option Value)} {oc_check_set kV_check_set dc_check_set pm_check_set cd_check_set ct_check_set : Value}
    {f_open_pattern : Addr} {od_open_pattern an_open_pattern : Option Addr} {sl_open_pattern : Array (Option Value)} {oc_open_pattern kV_open_pattern dc_open_pattern pm_open_pattern cd_open_pattern ct_open_pattern : Value}
    {f_any_fits : Addr} {od_any_fits an_any_fits : Option Addr} {sl_any_fits : Array (Option Value)} {oc_any_fits kV_any_fits dc_any_fits pm_any_fits cd_any_fits ct_any_fits : Value}
    {f_open_together : Addr} {od_open_together an_open_together : Option Addr} {sl_open_together : Array (Option Value)} {oc_open_together kV_open_together dc_open_together pm_open_together cd_open_together ct_open_together : Value}
    {f_open_count : Addr} {od_open_count an_open_count : Option Addr} {sl_open_count : Array (Option Value)} {oc_open_count kV_open_count dc_open_count pm_open_count cd_open_count ct_open_count : Value}
    {f_most_open : Addr} {od_most_open an_most_open : Option Addr} {sl_most_open : Array (Option Value)} {oc_most_open kV_most_open dc_most_open pm_most_open cd_most_open ct_most_open : Value}
    {f_barred_pulls : Addr} {od_barred_pulls an_barred_pulls : Option Addr} {sl_barred_pulls : Array (Option Value)} {oc_barred_pulls kV_barred_pulls dc_barred_pulls pm_barred_pulls cd_barred_pulls ct_barred_pulls : Value}
    {f_needless : Addr} {od_needless an_needless : Option Addr} {sl_needless : Array (Option Value)} {oc_needless kV_needless dc_needless pm_needless cd_needless ct_needless : Value}
    {f_paper : Addr} {od_paper an_paper : Option Addr} {sl_paper : Array (Option Value)} {oc_paper kV_paper dc_paper pm_paper cd_paper ct_paper : Value}
    {f_reached_pulls : Addr} {od_reached_pulls an_reached_pulls : Option Addr} {sl_reached_pulls : Array (Option Value)} {oc_reached_pulls kV_reached_pulls dc_reached_pulls pm_reached_pulls cd_reached_pulls ct_reached_pulls : Value}
    {f_first_row_beside : Addr} {od_first_row_beside an_first_row_beside : Option Addr} {sl_first_row_beside : Array (Option Value)} {oc_first_row_beside kV_first_row_beside dc_first_row_beside pm_first_row_beside cd_first_row_beside ct_first_row_beside : Value}
    {f_leading_to : Addr} {od_leading_to an_leading_to : Option Addr} {sl_leading_to : Array (Option Value)} {oc_leading_to kV_leading_to dc_leading_to pm_leading_to cd_leading_to ct_leading_to : Value}
    {f_dead_end : Addr} {od_dead_end an_dead_end : Option Addr} {sl_dead_end : Array (Option Value)} {oc_dead_end kV_dead_end dc_dead_end pm_dead_end cd_dead_end ct_dead_end : Value}
    {f_no_return : Addr} {od_no_return an_no_return : Option Addr} {sl_no_return : Array (Option Value)} {oc_no_return kV_no_return dc_no_return pm_no_return cd_no_return ct_no_return : Value}
    {f_meets_all : Addr} {od_meets_all an_meets_all : Option Addr} {sl_meets_all : Array (Option Value)} {oc_meets_all kV_meets_all dc_meets_all pm_meets_all cd_meets_all ct_meets_all : Value}
    {f_fewest_of_group : Addr} {od_fewest_of_group an_fewest_of_group : Option Addr} {sl_fewest_of_group : Array (Option Value)} {oc_fewest_of_group kV_fewest_of_group dc_fewest_of_group pm_fewest_of_group cd_fewest_of_group ct_fewest_of_group : Value}
    {f_fewest_of_each : Addr} {od_fewest_of_each an_fewest_of_each : Option Addr} {sl_fewest_of_each : Array (Option Value)} {oc_fewest_of_each kV_fewest_of_each dc_fewest_of_each pm_fewest_of_each cd_fewest_of_each ct_fewest_of_each : Value}
    {f_fewest_bars : Addr} {od_fewest_bars an_fewest_bars : Option Addr} {sl_fewest_bars : Array (Option Value)} {oc_fewest_bars kV_fewest_bars dc_fewest_bars pm_fewest_bars cd_fewest_bars ct_fewest_bars : Value}
    {f_check_number : Addr} {od_check_number an_check_number : Option Addr} {sl_check_number : Array (Option Value)} {oc_check_number kV_check_number dc_check_number pm_check_number cd_check_number ct_check_number : Value}
    {f_counts_behind : Addr} {od_counts_behind an_counts_behind : Option Addr} {sl_counts_behind : Array (Option Value)} {oc_counts_behind kV_counts_behind dc_counts_behind pm_counts_behind cd_counts_behind ct_counts_behind : Value}
    {f_counts_by_end : Addr} {od_counts_by_end an_counts_by_end : Option Addr} {sl_counts_by_end : Array (Option Value)} {oc_counts_by_end kV_counts_by_end dc_counts_by_end pm_counts_by_end cd_counts_by_end ct_counts_by_end : Value}
    {f_count_rows : Addr} {od_count_rows an_count_rows : Option Addr} {sl_count_rows : Array (Option Value)} {oc_count_rows kV_count_rows dc_count_rows pm_count_rows cd_count_rows ct_count_rows : Value}
    {f_count_to : Addr} {od_count_to an_count_to : Option Addr} {sl_count_to : Array (Option Value)} {oc_count_to kV_count_to dc_count_to pm_count_to cd_count_to ct_count_to : Value}
    {f_law : Addr} {od_law an_law : Option Addr} {sl_law : Array (Option Value)} {oc_law kV_law dc_law pm_law cd_law ct_law : Value}
    {C : Addr}
    {f_Cabinet___init__ : Addr} {od_Cabinet___init__ an_Cabinet___init__ : Option Addr} {sl_Cabinet___init__ : Array (Option Value)} {oc_Cabinet___init__ kV_Cabinet___init__ dc_Cabinet___init__ pm_Cabinet___init__ cd_Cabinet___init__ ct_Cabinet___init__ : Value}
    {p_drawers : Addr} {rest_drawers : List Value}
    {f_Cabinet_drawers : Addr} {od_Cabinet_drawers an_Cabinet_drawers : Option Addr} {sl_Cabinet_drawers : Array (Option Value)} {oc_Cabinet_drawers kV_Cabinet_drawers dc_Cabinet_drawers pm_Cabinet_drawers cd_Cabinet_drawers ct_Cabinet_drawers : Value}
    {p_bars : Addr} {rest_bars : List Value}
    {f_Cabinet_bars : Addr} {od_Cabinet_bars an_Cabinet_bars : Option Addr} {sl_Cabinet_bars : Array (Option Value)} {oc_Cabinet_bars kV_Cabinet_bars dc_Cabinet_bars pm_Cabinet_bars cd_Cabinet_bars ct_Cabinet_bars : Value}
    {tM : Tok}
    {fW : Addr}
    {ddW : Option Addr} {tW1 tW2 : Tok} {nW : Nat} {slW : Array (Option Value)}
    {fS : Addr}
    {esS : Array DictEntry} {nS : Nat}
    {tS1 : Tok}
    {tS2 : Tok}
    {tSS : Tok}
    {tMP : Tok}
    (a_is_integer : PySem.W.nsIn K mainGlobals "is_integer" = some (some (.ref f_is_integer)))
    (l_is_integer : K.lookup f_is_integer = some ⟨oc_is_integer, od_is_integer, .func (PySem.W.fnOf "is_integer" "is_integer" (defArgs sIsInt) (defBody sIsInt) (defScope sIsInt) .none kV_is_integer dc_is_integer pm_is_integer an_is_integer cd_is_integer ct_is_integer), sl_is_integer⟩)
    (c_is_integer : PySem.W.codeIn K cd_is_integer "is_integer" = true)
    (k_is_integer : PySem.W.keepIn K (.ref f_is_integer) = true)
    (a_is_drawer_count : PySem.W.nsIn K mainGlobals "is_drawer_count" = some (some (.ref f_is_drawer_count)))
    (l_is_drawer_count : K.lookup f_is_drawer_count = some ⟨oc_is_drawer_count, od_is_drawer_count, .func (PySem.W.fnOf "is_drawer_count" "is_drawer_count" (defArgs sIsCount) (defBody sIsCount) (defScope sIsCount) .none kV_is_drawer_count dc_is_drawer_count pm_is_drawer_count an_is_drawer_count cd_is_drawer_count ct_is_drawer_count), sl_is_drawer_count⟩)
    (c_is_drawer_count : PySem.W.codeIn K cd_is_drawer_count "is_drawer_count" = true)
    (k_is_drawer_count : PySem.W.keepIn K (.ref f_is_drawer_count) = true)
    (a_is_drawer : PySem.W.nsIn K mainGlobals "is_drawer" = some (some (.ref f_is_drawer)))
    (l_is_drawer : K.lookup f_is_drawer = some ⟨oc_is_drawer, od_is_drawer, .func (PySem.W.fnOf "is_drawer" "is_drawer" (defArgs sIsDrawer) (defBody sIsDrawer) (defScope sIsDrawer) .none kV_is_drawer dc_is_drawer pm_is_drawer an_is_drawer cd_is_drawer ct_is_drawer), sl_is_drawer⟩)
    (c_is_drawer : PySem.W.codeIn K cd_is_drawer "is_drawer" = true)
    (k_is_drawer : PySem.W.keepIn K (.ref f_is_drawer) = true)
    (a_is_bar : PySem.W.nsIn K mainGlobals "is_bar" = some (some (.ref f_is_bar)))
    (l_is_bar : K.lookup f_is_bar = some ⟨oc_is_bar, od_is_bar, .func (PySem.W.fnOf "is_bar" "is_bar" (defArgs sIsBar) (defBody sIsBar) (defScope sIsBar) .none kV_is_bar dc_is_bar pm_is_bar an_is_bar cd_is_bar ct_is_bar), sl_is_bar⟩)
    (c_is_bar : PySem.W.codeIn K cd_is_bar "is_bar" = true)
    (k_is_bar : PySem.W.keepIn K (.ref f_is_bar) = true)
    (a_check_drawers : PySem.W.nsIn K mainGlobals "check_drawers" = some (some (.ref f_check_drawers)))
    (l_check_drawers : K.lookup f_check_drawers = some ⟨oc_check_drawers, od_check_drawers, .func (PySem.W.fnOf "check_drawers" "check_drawers" (defArgs sCheckDrawers) (defBody sCheckDrawers) (defScope sCheckDrawers) .none kV_check_drawers dc_check_drawers pm_check_drawers an_check_drawers cd_check_drawers ct_check_drawers), sl_check_drawers⟩)
    (c_check_drawers : PySem.W.codeIn K cd_check_drawers "check_drawers" = true)
    (k_check_drawers : PySem.W.keepIn K (.ref f_check_drawers) = true)
    (a_check_bars : PySem.W.nsIn K mainGlobals "check_bars" = some (some (.ref f_check_bars)))
    (l_check_bars : K.lookup f_check_bars = some ⟨oc_check_bars, od_check_bars, .func (PySem.W.fnOf "check_bars" "check_bars" (defArgs sCheckBars) (defBody sCheckBars) (defScope sCheckBars) .none kV_check_bars dc_check_bars pm_check_bars an_check_bars cd_check_bars ct_check_bars), sl_check_bars⟩)
    (c_check_bars : PySem.W.codeIn K cd_check_bars "check_bars" = true)
    (k_check_bars : PySem.W.keepIn K (.ref f_check_bars) = true)
    (a__law_taken : PySem.W.nsIn K mainGlobals "_law_taken" = some (some (.ref f__law_taken)))
    (l__law_taken : K.lookup f__law_taken = some ⟨oc__law_taken, od__law_taken, .func (PySem.W.fnOf "_law_taken" "_law_taken" (defArgs sTaken) (defBody sTaken) (defScope sTaken) .none kV__law_taken dc__law_taken pm__law_taken an__law_taken cd__law_taken ct__law_taken), sl__law_taken⟩)
    (c__law_taken : PySem.W.codeIn K cd__law_taken "_law_taken" = true)
    (k__law_taken : PySem.W.keepIn K (.ref f__law_taken) = true)
    (a__law_parts : PySem.W.nsIn K mainGlobals "_law_parts" = some (some (.ref f__law_parts)))
    (l__law_parts : K.lookup f__law_parts = some ⟨oc__law_parts, od__law_parts, .func (PySem.W.fnOf "_law_parts" "_law_parts" (defArgs sParts) (defBody sParts) (defScope sParts) .none kV__law_parts dc__law_parts pm__law_parts an__law_parts cd__law_parts ct__law_parts), sl__law_parts⟩)
    (c__law_parts : PySem.W.codeIn K cd__law_parts "_law_parts" = true)
    (k__law_parts : PySem.W.keepIn K (.ref f__law_parts) = true)
    (a__law_made : PySem.W.nsIn K mainGlobals "_law_made" = some (some (.ref f__law_made)))
    (l__law_made : K.lookup f__law_made = some ⟨oc__law_made, od__law_made, .func (PySem.W.fnOf "_law_made" "_law_made" (defArgs sMade) (defBody sMade) (defScope sMade) .none kV__law_made dc__law_made pm__law_made an__law_made cd__law_made ct__law_made), sl__law_made⟩)
    (c__law_made : PySem.W.codeIn K cd__law_made "_law_made" = true)
    (k__law_made : PySem.W.keepIn K (.ref f__law_made) = true)
    (a_hinders : PySem.W.nsIn K mainGlobals "hinders" = some (some (.ref f_hinders)))
    (l_hinders : K.lookup f_hinders = some ⟨oc_hinders, od_hinders, .func (PySem.W.fnOf "hinders" "hinders" (defArgs s_hinders) (defBody s_hinders) (defScope s_hinders) .none kV_hinders dc_hinders pm_hinders an_hinders cd_hinders ct_hinders), sl_hinders⟩)
    (c_hinders : PySem.W.codeIn K cd_hinders "hinders" = true)
    (k_hinders : PySem.W.keepIn K (.ref f_hinders) = true)
    (a_moved : PySem.W.nsIn K mainGlobals "moved" = some (some (.ref f_moved)))
    (l_moved : K.lookup f_moved = some ⟨oc_moved, od_moved, .func (PySem.W.fnOf "moved" "moved" (defArgs s_moved) (defBody s_moved) (defScope s_moved) .none kV_moved dc_moved pm_moved an_moved cd_moved ct_moved), sl_moved⟩)
    (c_moved : PySem.W.codeIn K cd_moved "moved" = true)
    (k_moved : PySem.W.keepIn K (.ref f_moved) = true)
    (a_bars_against : PySem.W.nsIn K mainGlobals "bars_against" = some (some (.ref f_bars_against)))
    (l_bars_against : K.lookup f_bars_against = some ⟨oc_bars_against, od_bars_against, .func (PySem.W.fnOf "bars_against" "bars_against" (defArgs s_bars_against) (defBody s_bars_against) (defScope s_bars_against) .none kV_bars_against dc_bars_against pm_bars_against an_bars_against cd_bars_against ct_bars_against), sl_bars_against⟩)
    (c_bars_against : PySem.W.codeIn K cd_bars_against "bars_against" = true)
    (k_bars_against : PySem.W.keepIn K (.ref f_bars_against) = true)
    (a_goes : PySem.W.nsIn K mainGlobals "goes" = some (some (.ref f_goes)))
    (l_goes : K.lookup f_goes = some ⟨oc_goes, od_goes, .func (PySem.W.fnOf "goes" "goes" (defArgs s_goes) (defBody s_goes) (defScope s_goes) .none kV_goes dc_goes pm_goes an_goes cd_goes ct_goes), sl_goes⟩)
    (c_goes : PySem.W.codeIn K cd_goes "goes" = true)
    (k_goes : PySem.W.keepIn K (.ref f_goes) = true)
    (a_free_drawers : PySem.W.nsIn K mainGlobals "free_drawers" = some (some (.ref f_free_drawers)))
    (l_free_drawers : K.lookup f_free_drawers = some ⟨oc_free_drawers, od_free_drawers, .func (PySem.W.fnOf "free_drawers" "free_drawers" (defArgs s_free_drawers) (defBody s_free_drawers) (defScope s_free_drawers) .none kV_free_drawers dc_free_drawers pm_free_drawers an_free_drawers cd_free_drawers ct_free_drawers), sl_free_drawers⟩)
    (c_free_drawers : PySem.W.codeIn K cd_free_drawers "free_drawers" = true)
    (k_free_drawers : PySem.W.keepIn K (.ref f_free_drawers) = true)
    (a__law_hold : PySem.W.nsIn K mainGlobals "_law_hold" = some (some (.ref f__law_hold)))
    (l__law_hold : K.lookup f__law_hold = some ⟨oc__law_hold, od__law_hold, .func (PySem.W.fnOf "_law_hold" "_law_hold" (defArgs s__law_hold) (defBody s__law_hold) (defScope s__law_hold) .none kV__law_hold dc__law_hold pm__law_hold an__law_hold cd__law_hold ct__law_hold), sl__law_hold⟩)
    (c__law_hold : PySem.W.codeIn K cd__law_hold "_law_hold" = true)
    (k__law_hold : PySem.W.keepIn K (.ref f__law_hold) = true)
    (a__law_pattern : PySem.W.nsIn K mainGlobals "_law_pattern" = some (some (.ref f__law_pattern)))
    (l__law_pattern : K.lookup f__law_pattern = some ⟨oc__law_pattern, od__law_pattern, .func (PySem.W.fnOf "_law_pattern" "_law_pattern" (defArgs s__law_pattern) (defBody s__law_pattern) (defScope s__law_pattern) .none kV__law_pattern dc__law_pattern pm__law_pattern an__law_pattern cd__law_pattern ct__law_pattern), sl__law_pattern⟩)
    (c__law_pattern : PySem.W.codeIn K cd__law_pattern "_law_pattern" = true)
    (k__law_pattern : PySem.W.keepIn K (.ref f__law_pattern) = true)
    (a_has_signs : PySem.W.nsIn K mainGlobals "has_signs" = some (some (.ref f_has_signs)))
    (l_has_signs : K.lookup f_has_signs = some ⟨oc_has_signs, od_has_signs, .func (PySem.W.fnOf "has_signs" "has_signs" (defArgs s_has_signs) (defBody s_has_signs) (defScope s_has_signs) .none kV_has_signs dc_has_signs pm_has_signs an_has_signs cd_has_signs ct_has_signs), sl_has_signs⟩)
    (c_has_signs : PySem.W.codeIn K cd_has_signs "has_signs" = true)
    (k_has_signs : PySem.W.keepIn K (.ref f_has_signs) = true)
    (a_is_pattern : PySem.W.nsIn K mainGlobals "is_pattern" = some (some (.ref f_is_pattern)))
    (l_is_pattern : K.lookup f_is_pattern = some ⟨oc_is_pattern, od_is_pattern, .func (PySem.W.fnOf "is_pattern" "is_pattern" (defArgs s_is_pattern) (defBody s_is_pattern) (defScope s_is_pattern) .none kV_is_pattern dc_is_pattern pm_is_pattern an_is_pattern cd_is_pattern ct_is_pattern), sl_is_pattern⟩)
    (c_is_pattern : PySem.W.codeIn K cd_is_pattern "is_pattern" = true)
    (k_is_pattern : PySem.W.keepIn K (.ref f_is_pattern) = true)
    (a_check_cabinet : PySem.W.nsIn K mainGlobals "check_cabinet" = some (some (.ref f_check_cabinet)))
    (l_check_cabinet : K.lookup f_check_cabinet = some ⟨oc_check_cabinet, od_check_cabinet, .func (PySem.W.fnOf "check_cabinet" "check_cabinet" (defArgs s_check_cabinet) (defBody s_check_cabinet) (defScope s_check_cabinet) .none kV_check_cabinet dc_check_cabinet pm_check_cabinet an_check_cabinet cd_check_cabinet ct_check_cabinet), sl_check_cabinet⟩)
    (c_check_cabinet : PySem.W.codeIn K cd_check_cabinet "check_cabinet" = true)
    (k_check_cabinet : PySem.W.keepIn K (.ref f_check_cabinet) = true)
    (a_check_pattern : PySem.W.nsIn K mainGlobals "check_pattern" = some (some (.ref f_check_pattern)))
    (l_check_pattern : K.lookup f_check_pattern = some ⟨oc_check_pattern, od_check_pattern, .func (PySem.W.fnOf "check_pattern" "check_pattern" (defArgs s_check_pattern) (defBody s_check_pattern) (defScope s_check_pattern) .none kV_check_pattern dc_check_pattern pm_check_pattern an_check_pattern cd_check_pattern ct_check_pattern), sl_check_pattern⟩)
    (c_check_pattern : PySem.W.codeIn K cd_check_pattern "check_pattern" = true)
    (k_check_pattern : PySem.W.keepIn K (.ref f_check_pattern) = true)
    (a_first_standing : PySem.W.nsIn K mainGlobals "first_standing" = some (some (.ref f_first_standing)))
    (l_first_standing : K.lookup f_first_standing = some ⟨oc_first_standing, od_first_standing, .func (PySem.W.fnOf "first_standing" "first_standing" (defArgs s_first_standing) (defBody s_first_standing) (defScope s_first_standing) .none kV_first_standing dc_first_standing pm_first_standing an_first_standing cd_first_standing ct_first_standing), sl_first_standing⟩)
    (c_first_standing : PySem.W.codeIn K cd_first_standing "first_standing" = true)
    (k_first_standing : PySem.W.keepIn K (.ref f_first_standing) = true)
    (a_fits : PySem.W.nsIn K mainGlobals "fits" = some (some (.ref f_fits)))
    (l_fits : K.lookup f_fits = some ⟨oc_fits, od_fits, .func (PySem.W.fnOf "fits" "fits" (defArgs s_fits) (defBody s_fits) (defScope s_fits) .none kV_fits dc_fits pm_fits an_fits cd_fits ct_fits), sl_fits⟩)
    (c_fits : PySem.W.codeIn K cd_fits "fits" = true)
    (k_fits : PySem.W.keepIn K (.ref f_fits) = true)
    (a_end_of_row : PySem.W.nsIn K mainGlobals "end_of_row" = some (some (.ref f_end_of_row)))
    (l_end_of_row : K.lookup f_end_of_row = some ⟨oc_end_of_row, od_end_of_row, .func (PySem.W.fnOf "end_of_row" "end_of_row" (defArgs s_end_of_row) (defBody s_end_of_row) (defScope s_end_of_row) .none kV_end_of_row dc_end_of_row pm_end_of_row an_end_of_row cd_end_of_row ct_end_of_row), sl_end_of_row⟩)
    (c_end_of_row : PySem.W.codeIn K cd_end_of_row "end_of_row" = true)
    (k_end_of_row : PySem.W.keepIn K (.ref f_end_of_row) = true)
    (a_right_row : PySem.W.nsIn K mainGlobals "right_row" = some (some (.ref f_right_row)))
    (l_right_row : K.lookup f_right_row = some ⟨oc_right_row, od_right_row, .func (PySem.W.fnOf "right_row" "right_row" (defArgs s_right_row) (defBody s_right_row) (defScope s_right_row) .none kV_right_row dc_right_row pm_right_row an_right_row cd_right_row ct_right_row), sl_right_row⟩)
    (c_right_row : PySem.W.codeIn K cd_right_row "right_row" = true)
    (k_right_row : PySem.W.keepIn K (.ref f_right_row) = true)
    (a_rows_from : PySem.W.nsIn K mainGlobals "rows_from" = some (some (.ref f_rows_from)))
    (l_rows_from : K.lookup f_rows_from = some ⟨oc_rows_from, od_rows_from, .func (PySem.W.fnOf "rows_from" "rows_from" (defArgs s_rows_from) (defBody s_rows_from) (defScope s_rows_from) .none kV_rows_from dc_rows_from pm_rows_from an_rows_from cd_rows_from ct_rows_from), sl_rows_from⟩)
    (c_rows_from : PySem.W.codeIn K cd_rows_from "rows_from" = true)
    (k_rows_from : PySem.W.keepIn K (.ref f_rows_from) = true)
    (a_first_rows : PySem.W.nsIn K mainGlobals "first_rows" = some (some (.ref f_first_rows)))
    (l_first_rows : K.lookup f_first_rows = some ⟨oc_first_rows, od_first_rows, .func (PySem.W.fnOf "first_rows" "first_rows" (defArgs s_first_rows) (defBody s_first_rows) (defScope s_first_rows) .none kV_first_rows dc_first_rows pm_first_rows an_first_rows cd_first_rows ct_first_rows), sl_first_rows⟩)
    (c_first_rows : PySem.W.codeIn K cd_first_rows "first_rows" = true)
    (k_first_rows : PySem.W.keepIn K (.ref f_first_rows) = true)
    (a_first_row_to : PySem.W.nsIn K mainGlobals "first_row_to" = some (some (.ref f_first_row_to)))
    (l_first_row_to : K.lookup f_first_row_to = some ⟨oc_first_row_to, od_first_row_to, .func (PySem.W.fnOf "first_row_to" "first_row_to" (defArgs s_first_row_to) (defBody s_first_row_to) (defScope s_first_row_to) .none kV_first_row_to dc_first_row_to pm_first_row_to an_first_row_to cd_first_row_to ct_first_row_to), sl_first_row_to⟩)
    (c_first_row_to : PySem.W.codeIn K cd_first_row_to "first_row_to" = true)
    (k_first_row_to : PySem.W.keepIn K (.ref f_first_row_to) = true)
    (a_row_to : PySem.W.nsIn K mainGlobals "row_to" = some (some (.ref f_row_to)))
    (l_row_to : K.lookup f_row_to = some ⟨oc_row_to, od_row_to, .func (PySem.W.fnOf "row_to" "row_to" (defArgs s_row_to) (defBody s_row_to) (defScope s_row_to) .none kV_row_to dc_row_to pm_row_to an_row_to cd_row_to ct_row_to), sl_row_to⟩)
    (c_row_to : PySem.W.codeIn K cd_row_to "row_to" = true)
    (k_row_to : PySem.W.keepIn K (.ref f_row_to) = true)
    (a_reached : PySem.W.nsIn K mainGlobals "reached" = some (some (.ref f_reached)))
    (l_reached : K.lookup f_reached = some ⟨oc_reached, od_reached, .func (PySem.W.fnOf "reached" "reached" (defArgs s_reached) (defBody s_reached) (defScope s_reached) .none kV_reached dc_reached pm_reached an_reached cd_reached ct_reached), sl_reached⟩)
    (c_reached : PySem.W.codeIn K cd_reached "reached" = true)
    (k_reached : PySem.W.keepIn K (.ref f_reached) = true)
    (a__law_all : PySem.W.nsIn K mainGlobals "_law_all" = some (some (.ref f__law_all)))
    (l__law_all : K.lookup f__law_all = some ⟨oc__law_all, od__law_all, .func (PySem.W.fnOf "_law_all" "_law_all" (defArgs s__law_all) (defBody s__law_all) (defScope s__law_all) .none kV__law_all dc__law_all pm__law_all an__law_all cd__law_all ct__law_all), sl__law_all⟩)
    (c__law_all : PySem.W.codeIn K cd__law_all "_law_all" = true)
    (k__law_all : PySem.W.keepIn K (.ref f__law_all) = true)
    (a_is_set : PySem.W.nsIn K mainGlobals "is_set" = some (some (.ref f_is_set)))
    (l_is_set : K.lookup f_is_set = some ⟨oc_is_set, od_is_set, .func (PySem.W.fnOf "is_set" "is_set" (defArgs s_is_set) (defBody s_is_set) (defScope s_is_set) .none kV_is_set dc_is_set pm_is_set an_is_set cd_is_set ct_is_set), sl_is_set⟩)
    (c_is_set : PySem.W.codeIn K cd_is_set "is_set" = true)
    (k_is_set : PySem.W.keepIn K (.ref f_is_set) = true)
    (a_check_set : PySem.W.nsIn K mainGlobals "check_set" = some (some (.ref f_check_set)))
    (l_check_set : K.lookup f_check_set = some ⟨oc_check_set, od_check_set, .func (PySem.W.fnOf "check_set" "check_set" (defArgs s_check_set) (defBody s_check_set) (defScope s_check_set) .none kV_check_set dc_check_set pm_check_set an_check_set cd_check_set ct_check_set), sl_check_set⟩)
    (c_check_set : PySem.W.codeIn K cd_check_set "check_set" = true)
    (k_check_set : PySem.W.keepIn K (.ref f_check_set) = true)
    (a_open_pattern : PySem.W.nsIn K mainGlobals "open_pattern" = some (some (.ref f_open_pattern)))
    (l_open_pattern : K.lookup f_open_pattern = some ⟨oc_open_pattern, od_open_pattern, .func (PySem.W.fnOf "open_pattern" "open_pattern" (defArgs s_open_pattern) (defBody s_open_pattern) (defScope s_open_pattern) .none kV_open_pattern dc_open_pattern pm_open_pattern an_open_pattern cd_open_pattern ct_open_pattern), sl_open_pattern⟩)
    (c_open_pattern : PySem.W.codeIn K cd_open_pattern "open_pattern" = true)
    (k_open_pattern : PySem.W.keepIn K (.ref f_open_pattern) = true)
    (a_any_fits : PySem.W.nsIn K mainGlobals "any_fits" = some (some (.ref f_any_fits)))
    (l_any_fits : K.lookup f_any_fits = some ⟨oc_any_fits, od_any_fits, .func (PySem.W.fnOf "any_fits" "any_fits" (defArgs s_any_fits) (defBody s_any_fits) (defScope s_any_fits) .none kV_any_fits dc_any_fits pm_any_fits an_any_fits cd_any_fits ct_any_fits), sl_any_fits⟩)
    (c_any_fits : PySem.W.codeIn K cd_any_fits "any_fits" = true)
    (k_any_fits : PySem.W.keepIn K (.ref f_any_fits) = true)
    (a_open_together : PySem.W.nsIn K mainGlobals "open_together" = some (some (.ref f_open_together)))
    (l_open_together : K.lookup f_open_together = some ⟨oc_open_together, od_open_together, .func (PySem.W.fnOf "open_together" "open_together" (defArgs s_open_together) (defBody s_open_together) (defScope s_open_together) .none kV_open_together dc_open_together pm_open_together an_open_together cd_open_together ct_open_together), sl_open_together⟩)
    (c_open_together : PySem.W.codeIn K cd_open_together "open_together" = true)
    (k_open_together : PySem.W.keepIn K (.ref f_open_together) = true)
    (a_open_count : PySem.W.nsIn K mainGlobals "open_count" = some (some (.ref f_open_count)))
    (l_open_count : K.lookup f_open_count = some ⟨oc_open_count, od_open_count, .func (PySem.W.fnOf "open_count" "open_count" (defArgs s_open_count) (defBody s_open_count) (defScope s_open_count) .none kV_open_count dc_open_count pm_open_count an_open_count cd_open_count ct_open_count), sl_open_count⟩)
    (c_open_count : PySem.W.codeIn K cd_open_count "open_count" = true)
    (k_open_count : PySem.W.keepIn K (.ref f_open_count) = true)
    (a_most_open : PySem.W.nsIn K mainGlobals "most_open" = some (some (.ref f_most_open)))
    (l_most_open : K.lookup f_most_open = some ⟨oc_most_open, od_most_open, .func (PySem.W.fnOf "most_open" "most_open" (defArgs s_most_open) (defBody s_most_open) (defScope s_most_open) .none kV_most_open dc_most_open pm_most_open an_most_open cd_most_open ct_most_open), sl_most_open⟩)
    (c_most_open : PySem.W.codeIn K cd_most_open "most_open" = true)
    (k_most_open : PySem.W.keepIn K (.ref f_most_open) = true)
    (a_barred_pulls : PySem.W.nsIn K mainGlobals "barred_pulls" = some (some (.ref f_barred_pulls)))
    (l_barred_pulls : K.lookup f_barred_pulls = some ⟨oc_barred_pulls, od_barred_pulls, .func (PySem.W.fnOf "barred_pulls" "barred_pulls" (defArgs s_barred_pulls) (defBody s_barred_pulls) (defScope s_barred_pulls) .none kV_barred_pulls dc_barred_pulls pm_barred_pulls an_barred_pulls cd_barred_pulls ct_barred_pulls), sl_barred_pulls⟩)
    (c_barred_pulls : PySem.W.codeIn K cd_barred_pulls "barred_pulls" = true)
    (k_barred_pulls : PySem.W.keepIn K (.ref f_barred_pulls) = true)
    (a_needless : PySem.W.nsIn K mainGlobals "needless" = some (some (.ref f_needless)))
    (l_needless : K.lookup f_needless = some ⟨oc_needless, od_needless, .func (PySem.W.fnOf "needless" "needless" (defArgs s_needless) (defBody s_needless) (defScope s_needless) .none kV_needless dc_needless pm_needless an_needless cd_needless ct_needless), sl_needless⟩)
    (c_needless : PySem.W.codeIn K cd_needless "needless" = true)
    (k_needless : PySem.W.keepIn K (.ref f_needless) = true)
    (a_paper : PySem.W.nsIn K mainGlobals "paper" = some (some (.ref f_paper)))
    (l_paper : K.lookup f_paper = some ⟨oc_paper, od_paper, .func (PySem.W.fnOf "paper" "paper" (defArgs s_paper) (defBody s_paper) (defScope s_paper) .none kV_paper dc_paper pm_paper an_paper cd_paper ct_paper), sl_paper⟩)
    (c_paper : PySem.W.codeIn K cd_paper "paper" = true)
    (k_paper : PySem.W.keepIn K (.ref f_paper) = true)
    (a_reached_pulls : PySem.W.nsIn K mainGlobals "reached_pulls" = some (some (.ref f_reached_pulls)))
    (l_reached_pulls : K.lookup f_reached_pulls = some ⟨oc_reached_pulls, od_reached_pulls, .func (PySem.W.fnOf "reached_pulls" "reached_pulls" (defArgs s_reached_pulls) (defBody s_reached_pulls) (defScope s_reached_pulls) .none kV_reached_pulls dc_reached_pulls pm_reached_pulls an_reached_pulls cd_reached_pulls ct_reached_pulls), sl_reached_pulls⟩)
    (c_reached_pulls : PySem.W.codeIn K cd_reached_pulls "reached_pulls" = true)
    (k_reached_pulls : PySem.W.keepIn K (.ref f_reached_pulls) = true)
    (a_first_row_beside : PySem.W.nsIn K mainGlobals "first_row_beside" = some (some (.ref f_first_row_beside)))
    (l_first_row_beside : K.lookup f_first_row_beside = some ⟨oc_first_row_beside, od_first_row_beside, .func (PySem.W.fnOf "first_row_beside" "first_row_beside" (defArgs s_first_row_beside) (defBody s_first_row_beside) (defScope s_first_row_beside) .none kV_first_row_beside dc_first_row_beside pm_first_row_beside an_first_row_beside cd_first_row_beside ct_first_row_beside), sl_first_row_beside⟩)
    (c_first_row_beside : PySem.W.codeIn K cd_first_row_beside "first_row_beside" = true)
    (k_first_row_beside : PySem.W.keepIn K (.ref f_first_row_beside) = true)
    (a_leading_to : PySem.W.nsIn K mainGlobals "leading_to" = some (some (.ref f_leading_to)))
    (l_leading_to : K.lookup f_leading_to = some ⟨oc_leading_to, od_leading_to, .func (PySem.W.fnOf "leading_to" "leading_to" (defArgs s_leading_to) (defBody s_leading_to) (defScope s_leading_to) .none kV_leading_to dc_leading_to pm_leading_to an_leading_to cd_leading_to ct_leading_to), sl_leading_to⟩)
    (c_leading_to : PySem.W.codeIn K cd_leading_to "leading_to" = true)
    (k_leading_to : PySem.W.keepIn K (.ref f_leading_to) = true)
    (a_dead_end : PySem.W.nsIn K mainGlobals "dead_end" = some (some (.ref f_dead_end)))
    (l_dead_end : K.lookup f_dead_end = some ⟨oc_dead_end, od_dead_end, .func (PySem.W.fnOf "dead_end" "dead_end" (defArgs s_dead_end) (defBody s_dead_end) (defScope s_dead_end) .none kV_dead_end dc_dead_end pm_dead_end an_dead_end cd_dead_end ct_dead_end), sl_dead_end⟩)
    (c_dead_end : PySem.W.codeIn K cd_dead_end "dead_end" = true)
    (k_dead_end : PySem.W.keepIn K (.ref f_dead_end) = true)
    (a_no_return : PySem.W.nsIn K mainGlobals "no_return" = some (some (.ref f_no_return)))
    (l_no_return : K.lookup f_no_return = some ⟨oc_no_return, od_no_return, .func (PySem.W.fnOf "no_return" "no_return" (defArgs s_no_return) (defBody s_no_return) (defScope s_no_return) .none kV_no_return dc_no_return pm_no_return an_no_return cd_no_return ct_no_return), sl_no_return⟩)
    (c_no_return : PySem.W.codeIn K cd_no_return "no_return" = true)
    (k_no_return : PySem.W.keepIn K (.ref f_no_return) = true)
    (a_meets_all : PySem.W.nsIn K mainGlobals "meets_all" = some (some (.ref f_meets_all)))
    (l_meets_all : K.lookup f_meets_all = some ⟨oc_meets_all, od_meets_all, .func (PySem.W.fnOf "meets_all" "meets_all" (defArgs s_meets_all) (defBody s_meets_all) (defScope s_meets_all) .none kV_meets_all dc_meets_all pm_meets_all an_meets_all cd_meets_all ct_meets_all), sl_meets_all⟩)
    (c_meets_all : PySem.W.codeIn K cd_meets_all "meets_all" = true)
    (k_meets_all : PySem.W.keepIn K (.ref f_meets_all) = true)
    (a_fewest_of_group : PySem.W.nsIn K mainGlobals "fewest_of_group" = some (some (.ref f_fewest_of_group)))
    (l_fewest_of_group : K.lookup f_fewest_of_group = some ⟨oc_fewest_of_group, od_fewest_of_group, .func (PySem.W.fnOf "fewest_of_group" "fewest_of_group" (defArgs s_fewest_of_group) (defBody s_fewest_of_group) (defScope s_fewest_of_group) .none kV_fewest_of_group dc_fewest_of_group pm_fewest_of_group an_fewest_of_group cd_fewest_of_group ct_fewest_of_group), sl_fewest_of_group⟩)
    (c_fewest_of_group : PySem.W.codeIn K cd_fewest_of_group "fewest_of_group" = true)
    (k_fewest_of_group : PySem.W.keepIn K (.ref f_fewest_of_group) = true)
    (a_fewest_of_each : PySem.W.nsIn K mainGlobals "fewest_of_each" = some (some (.ref f_fewest_of_each)))
    (l_fewest_of_each : K.lookup f_fewest_of_each = some ⟨oc_fewest_of_each, od_fewest_of_each, .func (PySem.W.fnOf "fewest_of_each" "fewest_of_each" (defArgs s_fewest_of_each) (defBody s_fewest_of_each) (defScope s_fewest_of_each) .none kV_fewest_of_each dc_fewest_of_each pm_fewest_of_each an_fewest_of_each cd_fewest_of_each ct_fewest_of_each), sl_fewest_of_each⟩)
    (c_fewest_of_each : PySem.W.codeIn K cd_fewest_of_each "fewest_of_each" = true)
    (k_fewest_of_each : PySem.W.keepIn K (.ref f_fewest_of_each) = true)
    (a_fewest_bars : PySem.W.nsIn K mainGlobals "fewest_bars" = some (some (.ref f_fewest_bars)))
    (l_fewest_bars : K.lookup f_fewest_bars = some ⟨oc_fewest_bars, od_fewest_bars, .func (PySem.W.fnOf "fewest_bars" "fewest_bars" (defArgs s_fewest_bars) (defBody s_fewest_bars) (defScope s_fewest_bars) .none kV_fewest_bars dc_fewest_bars pm_fewest_bars an_fewest_bars cd_fewest_bars ct_fewest_bars), sl_fewest_bars⟩)
    (c_fewest_bars : PySem.W.codeIn K cd_fewest_bars "fewest_bars" = true)
    (k_fewest_bars : PySem.W.keepIn K (.ref f_fewest_bars) = true)
    (a_check_number : PySem.W.nsIn K mainGlobals "check_number" = some (some (.ref f_check_number)))
    (l_check_number : K.lookup f_check_number = some ⟨oc_check_number, od_check_number, .func (PySem.W.fnOf "check_number" "check_number" (defArgs s_check_number) (defBody s_check_number) (defScope s_check_number) .none kV_check_number dc_check_number pm_check_number an_check_number cd_check_number ct_check_number), sl_check_number⟩)
    (c_check_number : PySem.W.codeIn K cd_check_number "check_number" = true)
    (k_check_number : PySem.W.keepIn K (.ref f_check_number) = true)
    (a_counts_behind : PySem.W.nsIn K mainGlobals "counts_behind" = some (some (.ref f_counts_behind)))
    (l_counts_behind : K.lookup f_counts_behind = some ⟨oc_counts_behind, od_counts_behind, .func (PySem.W.fnOf "counts_behind" "counts_behind" (defArgs s_counts_behind) (defBody s_counts_behind) (defScope s_counts_behind) .none kV_counts_behind dc_counts_behind pm_counts_behind an_counts_behind cd_counts_behind ct_counts_behind), sl_counts_behind⟩)
    (c_counts_behind : PySem.W.codeIn K cd_counts_behind "counts_behind" = true)
    (k_counts_behind : PySem.W.keepIn K (.ref f_counts_behind) = true)
    (a_counts_by_end : PySem.W.nsIn K mainGlobals "counts_by_end" = some (some (.ref f_counts_by_end)))
    (l_counts_by_end : K.lookup f_counts_by_end = some ⟨oc_counts_by_end, od_counts_by_end, .func (PySem.W.fnOf "counts_by_end" "counts_by_end" (defArgs s_counts_by_end) (defBody s_counts_by_end) (defScope s_counts_by_end) .none kV_counts_by_end dc_counts_by_end pm_counts_by_end an_counts_by_end cd_counts_by_end ct_counts_by_end), sl_counts_by_end⟩)
    (c_counts_by_end : PySem.W.codeIn K cd_counts_by_end "counts_by_end" = true)
    (k_counts_by_end : PySem.W.keepIn K (.ref f_counts_by_end) = true)
    (a_count_rows : PySem.W.nsIn K mainGlobals "count_rows" = some (some (.ref f_count_rows)))
    (l_count_rows : K.lookup f_count_rows = some ⟨oc_count_rows, od_count_rows, .func (PySem.W.fnOf "count_rows" "count_rows" (defArgs s_count_rows) (defBody s_count_rows) (defScope s_count_rows) .none kV_count_rows dc_count_rows pm_count_rows an_count_rows cd_count_rows ct_count_rows), sl_count_rows⟩)
    (c_count_rows : PySem.W.codeIn K cd_count_rows "count_rows" = true)
    (k_count_rows : PySem.W.keepIn K (.ref f_count_rows) = true)
    (a_count_to : PySem.W.nsIn K mainGlobals "count_to" = some (some (.ref f_count_to)))
    (l_count_to : K.lookup f_count_to = some ⟨oc_count_to, od_count_to, .func (PySem.W.fnOf "count_to" "count_to" (defArgs s_count_to) (defBody s_count_to) (defScope s_count_to) .none kV_count_to dc_count_to pm_count_to an_count_to cd_count_to ct_count_to), sl_count_to⟩)
    (c_count_to : PySem.W.codeIn K cd_count_to "count_to" = true)
    (k_count_to : PySem.W.keepIn K (.ref f_count_to) = true)
    (a_law : PySem.W.nsIn K mainGlobals "law" = some (some (.ref f_law)))
    (l_law : K.lookup f_law = some ⟨oc_law, od_law, .func (PySem.W.fnOf "law" "law" (defArgs s_law) (defBody s_law) (defScope s_law) .none kV_law dc_law pm_law an_law cd_law ct_law), sl_law⟩)
    (c_law : PySem.W.codeIn K cd_law "law" = true)
    (k_law : PySem.W.keepIn K (.ref f_law) = true)
    (aC : PySem.W.nsIn K mainGlobals "Cabinet" = some (some (.ref C)))
    (pg : PySem.W.plainGet K C Str.empty = true)
    (hd : PySem.W.hasDictIn K C = true)
    (po : PySem.W.plainOver K C = true)
    (sa : PySem.W.findIn K (.ref C) "__setattr__" = some (some (.builtin "object.__setattr__")))
    (mk : PySem.W.makesIn K C = true)
    (kc : PySem.W.keepIn K (.ref C) = true)
    (nD : PySem.W.findIn K (.ref C) "_drawers" = some none)
    (nB : PySem.W.findIn K (.ref C) "_bars" = some none)
    (a_Cabinet___init__ : PySem.W.findIn K (.ref C) "__init__" = some (some (.ref f_Cabinet___init__)))
    (l_Cabinet___init__ : K.lookup f_Cabinet___init__ = some ⟨oc_Cabinet___init__, od_Cabinet___init__, .func (PySem.W.fnOf "__init__" "Cabinet.__init__" (defArgs sInit) (defBody sInit) (defScope sInit) .none kV_Cabinet___init__ dc_Cabinet___init__ pm_Cabinet___init__ an_Cabinet___init__ cd_Cabinet___init__ ct_Cabinet___init__), sl_Cabinet___init__⟩)
    (c_Cabinet___init__ : PySem.W.codeIn K cd_Cabinet___init__ "Cabinet.__init__" = true)
    (k_Cabinet___init__ : PySem.W.keepIn K (.ref f_Cabinet___init__) = true)
    (i_init : PySem.W.isFn K (.ref f_Cabinet___init__) = true)
    (pa_drawers : PySem.W.findIn K (.ref C) "drawers" = some (some (.ref p_drawers)))
    (pg_drawers : PySem.W.specialIn K (.ref p_drawers) "__get__" = some (some (.builtin "property.__get__")))
    (pt_drawers : PySem.W.takesIn K (.ref p_drawers) = some true)
    (pr_drawers : PySem.W.recIn K p_drawers "property" = some (.ref f_Cabinet_drawers :: rest_drawers))
    (l_Cabinet_drawers : K.lookup f_Cabinet_drawers = some ⟨oc_Cabinet_drawers, od_Cabinet_drawers, .func (PySem.W.fnOf "drawers" "Cabinet.drawers" (defArgs sDrawers) (defBody sDrawers) (defScope sDrawers) .none kV_Cabinet_drawers dc_Cabinet_drawers pm_Cabinet_drawers an_Cabinet_drawers cd_Cabinet_drawers ct_Cabinet_drawers), sl_Cabinet_drawers⟩)
    (c_Cabinet_drawers : PySem.W.codeIn K cd_Cabinet_drawers "Cabinet.drawers" = true)
    (k_Cabinet_drawers : PySem.W.keepIn K (.ref f_Cabinet_drawers) = true)
    (pa_bars : PySem.W.findIn K (.ref C) "bars" = some (some (.ref p_bars)))
    (pg_bars : PySem.W.specialIn K (.ref p_bars) "__get__" = some (some (.builtin "property.__get__")))
    (pt_bars : PySem.W.takesIn K (.ref p_bars) = some true)
    (pr_bars : PySem.W.recIn K p_bars "property" = some (.ref f_Cabinet_bars :: rest_bars))
    (l_Cabinet_bars : K.lookup f_Cabinet_bars = some ⟨oc_Cabinet_bars, od_Cabinet_bars, .func (PySem.W.fnOf "bars" "Cabinet.bars" (defArgs sBars) (defBody sBars) (defScope sBars) .none kV_Cabinet_bars dc_Cabinet_bars pm_Cabinet_bars an_Cabinet_bars cd_Cabinet_bars ct_Cabinet_bars), sl_Cabinet_bars⟩)
    (c_Cabinet_bars : PySem.W.codeIn K cd_Cabinet_bars "Cabinet.bars" = true)
    (k_Cabinet_bars : PySem.W.keepIn K (.ref f_Cabinet_bars) = true)
    (ci1 : PySem.W.findIn K (.ref C) "__class__" = some (some (.builtin "object.__class__")))
    (ci2 : PySem.W.specialIn K (.builtin "object.__class__") "__get__" = some (some (.builtin "getset_descriptor.__get__")))
    (ci3 : PySem.W.takesIn K (.builtin "object.__class__") = some true)
    (ci4 : PySem.W.mroIn K C (.type "object") = some true)
    (ci5 : PySem.W.kitOne K (.ref C) (.ref C) = some true)
    (z_isinstance : PySem.W.nsIn K mainGlobals "isinstance" = some none)
    (z_int : PySem.W.nsIn K mainGlobals "int" = some none)
    (z_bool : PySem.W.nsIn K mainGlobals "bool" = some none)
    (z_tuple : PySem.W.nsIn K mainGlobals "tuple" = some none)
    (z_len : PySem.W.nsIn K mainGlobals "len" = some none)
    (z_enumerate : PySem.W.nsIn K mainGlobals "enumerate" = some none)
    (z_range : PySem.W.nsIn K mainGlobals "range" = some none)
    (z_sorted : PySem.W.nsIn K mainGlobals "sorted" = some none)
    (z_all : PySem.W.nsIn K mainGlobals "all" = some none)
    (z_zip : PySem.W.nsIn K mainGlobals "zip" = some none)
    (z_list : PySem.W.nsIn K mainGlobals "list" = some none)
    (z_any : PySem.W.nsIn K mainGlobals "any" = some none)
    (z_max : PySem.W.nsIn K mainGlobals "max" = some none)
    (z_str : PySem.W.nsIn K mainGlobals "str" = some none)
    (z_sum : PySem.W.nsIn K mainGlobals "sum" = some none)
    (aM : PySem.W.nsIn K mainGlobals "MOST_DRAWERS" = some (some (.int 7 tM)))
    (aW : PySem.W.nsIn K mainGlobals "WORDS" = some (some (.ref fW)))
    (lW : K.lookup fW = some ⟨.type "tuple", ddW, .seq #[.str "open" tW1, .str "shut" tW2] nW, slW⟩)
    (aS : PySem.W.nsIn K mainGlobals "SIGNS" = some (some (.ref fS)))
    (lS : K.lookup fS = some ⟨.type "dict", none, .dict esS nS, #[]⟩)
    (kS : PySem.W.KeysLit w.params esS.toList)
    (oS : PySem.W.nsIn K fS "open" = some (some (.str "o" tS1)))
    (sS : PySem.W.nsIn K fS "shut" = some (some (.str "s" tS2)))
    (aSS : PySem.W.nsIn K mainGlobals "PATTERN_SIGNS" = some (some (.str "os?" tSS)))
    (aCM : PySem.W.nsIn K mainGlobals "combinations" = some (some (.type "itertools.combinations")))
    (aMP : PySem.W.nsIn K mainGlobals "MOST_PULLS" = some (some (.int 60 tMP)))
    : ∃ fd : FuncData, (∀ (s : Shared) (v : Value), BindsTo s fd ⟨[v], []⟩ [("_law_script", v)]) ∧ ∀ base : Heap, K.In base → base.Ns mainGlobals mg → FnOk l.prog w K mg base CX0 20 fa fd ["_law_script"] (spLaw K) := by
  have e := hfa.symm.trans (PySem.W.mg_of X G a_law)
  cases e
  have F_is_integer := fun_mk (st := sIsInt) l_is_integer c_is_integer k_is_integer
  have b_is_integer := F_is_integer.binds (ps := ["value"]) fun _ _ _ _ _ _ us hl => match us, hl with | [_], _ => rfl
  have g_is_integer := PySem.W.mg_of X G a_is_integer
  have F_is_drawer_count := fun_mk (st := sIsCount) l_is_drawer_count c_is_drawer_count k_is_drawer_count
  have b_is_drawer_count := F_is_drawer_count.binds (ps := ["value"]) fun _ _ _ _ _ _ us hl => match us, hl with | [_], _ => rfl
  have g_is_drawer_count := PySem.W.mg_of X G a_is_drawer_count
  have F_is_drawer := fun_mk (st := sIsDrawer) l_is_drawer c_is_drawer k_is_drawer
  have b_is_drawer := F_is_drawer.binds (ps := ["drawers", "value"]) fun _ _ _ _ _ _ us hl => match us, hl with | [_, _], _ => rfl
  have g_is_drawer := PySem.W.mg_of X G a_is_drawer
  have F_is_bar := fun_mk (st := sIsBar) l_is_bar c_is_bar k_is_bar
  have b_is_bar := F_is_bar.binds (ps := ["drawers", "value"]) fun _ _ _ _ _ _ us hl => match us, hl with | [_, _], _ => rfl
  have g_is_bar := PySem.W.mg_of X G a_is_bar
  have F_check_drawers := fun_mk (st := sCheckDrawers) l_check_drawers c_check_drawers k_check_drawers
  have b_check_drawers := F_check_drawers.binds (ps := ["drawers"]) fun _ _ _ _ _ _ us hl => match us, hl with | [_], _ => rfl
  have g_check_drawers := PySem.W.mg_of X G a_check_drawers
  have F_check_bars := fun_mk (st := sCheckBars) l_check_bars c_check_bars k_check_bars
  have b_check_bars := F_check_bars.binds (ps := ["drawers", "bars"]) fun _ _ _ _ _ _ us hl => match us, hl with | [_, _], _ => rfl
  have g_check_bars := PySem.W.mg_of X G a_check_bars
  have F__law_taken := fun_mk (st := sTaken) l__law_taken c__law_taken k__law_taken
  have b__law_taken := F__law_taken.binds (ps := ["_law_row", "_law_many"]) fun _ _ _ _ _ _ us hl => match us, hl with | [_, _], _ => rfl
  have g__law_taken := PySem.W.mg_of X G a__law_taken
  have F__law_parts := fun_mk (st := sParts) l__law_parts c__law_parts k__law_parts
  have b__law_parts := F__law_parts.binds (ps := ["_law_row", "_law_most"]) fun _ _ _ _ _ _ us hl => match us, hl with | [_, _], _ => rfl
  have g__law_parts := PySem.W.mg_of X G a__law_parts
  have F__law_made := fun_mk (st := sMade) l__law_made c__law_made k__law_made
  have b__law_made := F__law_made.binds (ps := ["_law_d"]) fun _ _ _ _ _ _ us hl => match us, hl with | [_], _ => rfl
  have g__law_made := PySem.W.mg_of X G a__law_made
  have F_hinders := fun_mk (st := s_hinders) l_hinders c_hinders k_hinders
  have b_hinders := F_hinders.binds (ps := ["bar", "standing", "drawer"]) fun _ _ _ _ _ _ us hl => match us, hl with | [_, _, _], _ => rfl
  have g_hinders := PySem.W.mg_of X G a_hinders
  have F_moved := fun_mk (st := s_moved) l_moved c_moved k_moved
  have b_moved := F_moved.binds (ps := ["standing", "drawer"]) fun _ _ _ _ _ _ us hl => match us, hl with | [_, _], _ => rfl
  have g_moved := PySem.W.mg_of X G a_moved
  have F_bars_against := fun_mk (st := s_bars_against) l_bars_against c_bars_against k_bars_against
  have b_bars_against := F_bars_against.binds (ps := ["cabinet", "standing", "drawer"]) fun _ _ _ _ _ _ us hl => match us, hl with | [_, _, _], _ => rfl
  have g_bars_against := PySem.W.mg_of X G a_bars_against
  have F_goes := fun_mk (st := s_goes) l_goes c_goes k_goes
  have b_goes := F_goes.binds (ps := ["cabinet", "standing", "drawer"]) fun _ _ _ _ _ _ us hl => match us, hl with | [_, _, _], _ => rfl
  have g_goes := PySem.W.mg_of X G a_goes
  have F_free_drawers := fun_mk (st := s_free_drawers) l_free_drawers c_free_drawers k_free_drawers
  have b_free_drawers := F_free_drawers.binds (ps := ["cabinet", "standing"]) fun _ _ _ _ _ _ us hl => match us, hl with | [_, _], _ => rfl
  have g_free_drawers := PySem.W.mg_of X G a_free_drawers
  have F__law_hold := fun_mk (st := s__law_hold) l__law_hold c__law_hold k__law_hold
  have b__law_hold := F__law_hold.binds (ps := ["_law_bar", "_law_standing", "_law_drawer"]) fun _ _ _ _ _ _ us hl => match us, hl with | [_, _, _], _ => rfl
  have g__law_hold := PySem.W.mg_of X G a__law_hold
  have F__law_pattern := fun_mk (st := s__law_pattern) l__law_pattern c__law_pattern k__law_pattern
  have b__law_pattern := F__law_pattern.binds (ps := ["_law_row", "_law_many", "_law_signs"]) fun _ _ _ _ _ _ us hl => match us, hl with | [_, _, _], _ => rfl
  have g__law_pattern := PySem.W.mg_of X G a__law_pattern
  have F_has_signs := fun_mk (st := s_has_signs) l_has_signs c_has_signs k_has_signs
  have b_has_signs := F_has_signs.binds (ps := ["drawers", "value", "signs"]) fun _ _ _ _ _ _ us hl => match us, hl with | [_, _, _], _ => rfl
  have g_has_signs := PySem.W.mg_of X G a_has_signs
  have F_is_pattern := fun_mk (st := s_is_pattern) l_is_pattern c_is_pattern k_is_pattern
  have b_is_pattern := F_is_pattern.binds (ps := ["drawers", "value"]) fun _ _ _ _ _ _ us hl => match us, hl with | [_, _], _ => rfl
  have g_is_pattern := PySem.W.mg_of X G a_is_pattern
  have F_check_cabinet := fun_mk (st := s_check_cabinet) l_check_cabinet c_check_cabinet k_check_cabinet
  have b_check_cabinet := F_check_cabinet.binds (ps := ["cabinet"]) fun _ _ _ _ _ _ us hl => match us, hl with | [_], _ => rfl
  have g_check_cabinet := PySem.W.mg_of X G a_check_cabinet
  have F_check_pattern := fun_mk (st := s_check_pattern) l_check_pattern c_check_pattern k_check_pattern
  have b_check_pattern := F_check_pattern.binds (ps := ["cabinet", "pattern"]) fun _ _ _ _ _ _ us hl => match us, hl with | [_, _], _ => rfl
  have g_check_pattern := PySem.W.mg_of X G a_check_pattern
  have F_first_standing := fun_mk (st := s_first_standing) l_first_standing c_first_standing k_first_standing
  have b_first_standing := F_first_standing.binds (ps := ["drawers"]) fun _ _ _ _ _ _ us hl => match us, hl with | [_], _ => rfl
  have g_first_standing := PySem.W.mg_of X G a_first_standing
  have F_fits := fun_mk (st := s_fits) l_fits c_fits k_fits
  have b_fits := F_fits.binds (ps := ["standing", "pattern"]) fun _ _ _ _ _ _ us hl => match us, hl with | [_, _], _ => rfl
  have g_fits := PySem.W.mg_of X G a_fits
  have F_end_of_row := fun_mk (st := s_end_of_row) l_end_of_row c_end_of_row k_end_of_row
  have b_end_of_row := F_end_of_row.binds (ps := ["cabinet", "standing", "drawers"]) fun _ _ _ _ _ _ us hl => match us, hl with | [_, _, _], _ => rfl
  have g_end_of_row := PySem.W.mg_of X G a_end_of_row
  have F_right_row := fun_mk (st := s_right_row) l_right_row c_right_row k_right_row
  have b_right_row := F_right_row.binds (ps := ["cabinet", "pattern", "value"]) fun _ _ _ _ _ _ us hl => match us, hl with | [_, _, _], _ => rfl
  have g_right_row := PySem.W.mg_of X G a_right_row
  have F_rows_from := fun_mk (st := s_rows_from) l_rows_from c_rows_from k_rows_from
  have b_rows_from := F_rows_from.binds (ps := ["cabinet", "standing"]) fun _ _ _ _ _ _ us hl => match us, hl with | [_, _], _ => rfl
  have g_rows_from := PySem.W.mg_of X G a_rows_from
  have F_first_rows := fun_mk (st := s_first_rows) l_first_rows c_first_rows k_first_rows
  have b_first_rows := F_first_rows.binds (ps := ["cabinet"]) fun _ _ _ _ _ _ us hl => match us, hl with | [_], _ => rfl
  have g_first_rows := PySem.W.mg_of X G a_first_rows
  have F_first_row_to := fun_mk (st := s_first_row_to) l_first_row_to c_first_row_to k_first_row_to
  have b_first_row_to := F_first_row_to.binds (ps := ["cabinet", "standing", "pattern"]) fun _ _ _ _ _ _ us hl => match us, hl with | [_, _, _], _ => rfl
  have g_first_row_to := PySem.W.mg_of X G a_first_row_to
  have F_row_to := fun_mk (st := s_row_to) l_row_to c_row_to k_row_to
  have b_row_to := F_row_to.binds (ps := ["cabinet", "pattern"]) fun _ _ _ _ _ _ us hl => match us, hl with | [_, _], _ => rfl
  have g_row_to := PySem.W.mg_of X G a_row_to
  have F_reached := fun_mk (st := s_reached) l_reached c_reached k_reached
  have b_reached := F_reached.binds (ps := ["cabinet"]) fun _ _ _ _ _ _ us hl => match us, hl with | [_], _ => rfl
  have g_reached := PySem.W.mg_of X G a_reached
  have F__law_all := fun_mk (st := s__law_all) l__law_all c__law_all k__law_all
  have b__law_all := F__law_all.binds (ps := ["_law_many"]) fun _ _ _ _ _ _ us hl => match us, hl with | [_], _ => rfl
  have g__law_all := PySem.W.mg_of X G a__law_all
  have F_is_set := fun_mk (st := s_is_set) l_is_set c_is_set k_is_set
  have b_is_set := F_is_set.binds (ps := ["drawers", "value"]) fun _ _ _ _ _ _ us hl => match us, hl with | [_, _], _ => rfl
  have g_is_set := PySem.W.mg_of X G a_is_set
  have F_check_set := fun_mk (st := s_check_set) l_check_set c_check_set k_check_set
  have b_check_set := F_check_set.binds (ps := ["cabinet", "some"]) fun _ _ _ _ _ _ us hl => match us, hl with | [_, _], _ => rfl
  have g_check_set := PySem.W.mg_of X G a_check_set
  have F_open_pattern := fun_mk (st := s_open_pattern) l_open_pattern c_open_pattern k_open_pattern
  have b_open_pattern := F_open_pattern.binds (ps := ["cabinet", "some"]) fun _ _ _ _ _ _ us hl => match us, hl with | [_, _], _ => rfl
  have g_open_pattern := PySem.W.mg_of X G a_open_pattern
  have F_any_fits := fun_mk (st := s_any_fits) l_any_fits c_any_fits k_any_fits
  have b_any_fits := F_any_fits.binds (ps := ["standings", "pattern"]) fun _ _ _ _ _ _ us hl => match us, hl with | [_, _], _ => rfl
  have g_any_fits := PySem.W.mg_of X G a_any_fits
  have F_open_together := fun_mk (st := s_open_together) l_open_together c_open_together k_open_together
  have b_open_together := F_open_together.binds (ps := ["cabinet", "some"]) fun _ _ _ _ _ _ us hl => match us, hl with | [_, _], _ => rfl
  have g_open_together := PySem.W.mg_of X G a_open_together
  have F_open_count := fun_mk (st := s_open_count) l_open_count c_open_count k_open_count
  have b_open_count := F_open_count.binds (ps := ["standing"]) fun _ _ _ _ _ _ us hl => match us, hl with | [_], _ => rfl
  have g_open_count := PySem.W.mg_of X G a_open_count
  have F_most_open := fun_mk (st := s_most_open) l_most_open c_most_open k_most_open
  have b_most_open := F_most_open.binds (ps := ["cabinet"]) fun _ _ _ _ _ _ us hl => match us, hl with | [_], _ => rfl
  have g_most_open := PySem.W.mg_of X G a_most_open
  have F_barred_pulls := fun_mk (st := s_barred_pulls) l_barred_pulls c_barred_pulls k_barred_pulls
  have b_barred_pulls := F_barred_pulls.binds (ps := ["cabinet"]) fun _ _ _ _ _ _ us hl => match us, hl with | [_], _ => rfl
  have g_barred_pulls := PySem.W.mg_of X G a_barred_pulls
  have F_needless := fun_mk (st := s_needless) l_needless c_needless k_needless
  have b_needless := F_needless.binds (ps := ["cabinet"]) fun _ _ _ _ _ _ us hl => match us, hl with | [_], _ => rfl
  have g_needless := PySem.W.mg_of X G a_needless
  have F_paper := fun_mk (st := s_paper) l_paper c_paper k_paper
  have b_paper := F_paper.binds (ps := ["cabinet", "some"]) fun _ _ _ _ _ _ us hl => match us, hl with | [_, _], _ => rfl
  have g_paper := PySem.W.mg_of X G a_paper
  have F_reached_pulls := fun_mk (st := s_reached_pulls) l_reached_pulls c_reached_pulls k_reached_pulls
  have b_reached_pulls := F_reached_pulls.binds (ps := ["cabinet"]) fun _ _ _ _ _ _ us hl => match us, hl with | [_], _ => rfl
  have g_reached_pulls := PySem.W.mg_of X G a_reached_pulls
  have F_first_row_beside := fun_mk (st := s_first_row_beside) l_first_row_beside c_first_row_beside k_first_row_beside
  have b_first_row_beside := F_first_row_beside.binds (ps := ["cabinet", "standings"]) fun _ _ _ _ _ _ us hl => match us, hl with | [_, _], _ => rfl
  have g_first_row_beside := PySem.W.mg_of X G a_first_row_beside
  have F_leading_to := fun_mk (st := s_leading_to) l_leading_to c_leading_to k_leading_to
  have b_leading_to := F_leading_to.binds (ps := ["pulls", "goals"]) fun _ _ _ _ _ _ us hl => match us, hl with | [_, _], _ => rfl
  have g_leading_to := PySem.W.mg_of X G a_leading_to
  have F_dead_end := fun_mk (st := s_dead_end) l_dead_end c_dead_end k_dead_end
  have b_dead_end := F_dead_end.binds (ps := ["cabinet"]) fun _ _ _ _ _ _ us hl => match us, hl with | [_], _ => rfl
  have g_dead_end := PySem.W.mg_of X G a_dead_end
  have F_no_return := fun_mk (st := s_no_return) l_no_return c_no_return k_no_return
  have b_no_return := F_no_return.binds (ps := ["cabinet"]) fun _ _ _ _ _ _ us hl => match us, hl with | [_], _ => rfl
  have g_no_return := PySem.W.mg_of X G a_no_return
  have F_meets_all := fun_mk (st := s_meets_all) l_meets_all c_meets_all k_meets_all
  have b_meets_all := F_meets_all.binds (ps := ["chosen", "masks"]) fun _ _ _ _ _ _ us hl => match us, hl with | [_, _], _ => rfl
  have g_meets_all := PySem.W.mg_of X G a_meets_all
  have F_fewest_of_group := fun_mk (st := s_fewest_of_group) l_fewest_of_group c_fewest_of_group k_fewest_of_group
  have b_fewest_of_group := F_fewest_of_group.binds (ps := ["needs"]) fun _ _ _ _ _ _ us hl => match us, hl with | [_], _ => rfl
  have g_fewest_of_group := PySem.W.mg_of X G a_fewest_of_group
  have F_fewest_of_each := fun_mk (st := s_fewest_of_each) l_fewest_of_each c_fewest_of_each k_fewest_of_each
  have b_fewest_of_each := F_fewest_of_each.binds (ps := ["needs"]) fun _ _ _ _ _ _ us hl => match us, hl with | [_], _ => rfl
  have g_fewest_of_each := PySem.W.mg_of X G a_fewest_of_each
  have F_fewest_bars := fun_mk (st := s_fewest_bars) l_fewest_bars c_fewest_bars k_fewest_bars
  have b_fewest_bars := F_fewest_bars.binds (ps := ["cabinet"]) fun _ _ _ _ _ _ us hl => match us, hl with | [_], _ => rfl
  have g_fewest_bars := PySem.W.mg_of X G a_fewest_bars
  have F_check_number := fun_mk (st := s_check_number) l_check_number c_check_number k_check_number
  have b_check_number := F_check_number.binds (ps := ["value", "least", "most"]) fun _ _ _ _ _ _ us hl => match us, hl with | [_, _, _], _ => rfl
  have g_check_number := PySem.W.mg_of X G a_check_number
  have F_counts_behind := fun_mk (st := s_counts_behind) l_counts_behind c_counts_behind k_counts_behind
  have b_counts_behind := F_counts_behind.binds (ps := ["pulls", "counts"]) fun _ _ _ _ _ _ us hl => match us, hl with | [_, _], _ => rfl
  have g_counts_behind := PySem.W.mg_of X G a_counts_behind
  have F_counts_by_end := fun_mk (st := s_counts_by_end) l_counts_by_end c_counts_by_end k_counts_by_end
  have b_counts_by_end := F_counts_by_end.binds (ps := ["cabinet", "length"]) fun _ _ _ _ _ _ us hl => match us, hl with | [_, _], _ => rfl
  have g_counts_by_end := PySem.W.mg_of X G a_counts_by_end
  have F_count_rows := fun_mk (st := s_count_rows) l_count_rows c_count_rows k_count_rows
  have b_count_rows := F_count_rows.binds (ps := ["cabinet", "length"]) fun _ _ _ _ _ _ us hl => match us, hl with | [_, _], _ => rfl
  have g_count_rows := PySem.W.mg_of X G a_count_rows
  have F_count_to := fun_mk (st := s_count_to) l_count_to c_count_to k_count_to
  have b_count_to := F_count_to.binds (ps := ["cabinet", "length", "pattern"]) fun _ _ _ _ _ _ us hl => match us, hl with | [_, _, _], _ => rfl
  have g_count_to := PySem.W.mg_of X G a_count_to
  have F_law := fun_mk (st := s_law) l_law c_law k_law
  have b_law := F_law.binds (ps := ["_law_script"]) fun _ _ _ _ _ _ us hl => match us, hl with | [_], _ => rfl
  have g_law := PySem.W.mg_of X G a_law
  have F_Cabinet___init__ := fun_mk (st := sInit) l_Cabinet___init__ c_Cabinet___init__ k_Cabinet___init__
  have b_Cabinet___init__ := F_Cabinet___init__.binds (ps := ["self", "drawers", "bars"]) fun _ _ _ _ _ _ us hl => match us, hl with | [_, _, _], _ => rfl
  have F_Cabinet_drawers := fun_mk (st := sDrawers) l_Cabinet_drawers c_Cabinet_drawers k_Cabinet_drawers
  have b_Cabinet_drawers := F_Cabinet_drawers.binds (ps := ["self"]) fun _ _ _ _ _ _ us hl => match us, hl with | [_], _ => rfl
  have F_Cabinet_bars := fun_mk (st := sBars) l_Cabinet_bars c_Cabinet_bars k_Cabinet_bars
  have b_Cabinet_bars := F_Cabinet_bars.binds (ps := ["self"]) fun _ _ _ _ _ _ us hl => match us, hl with | [_], _ => rfl
  have TC : CabT K mg C := ⟨⟨pg, hd, po, sa⟩, nD, nB, PySem.W.mg_of X G aC⟩
  have MC : Mk K C f_Cabinet___init__ := ⟨mk, a_Cabinet___init__, i_init, kc⟩
  have IC : CabI K mg C := ⟨⟨pg, hd, po, sa⟩, PySem.W.mg_of X G aC, ci1, ci2, ci3, ci4, ci5⟩
  have TB : Bt mg := ⟨PySem.W.mg_none_of X G z_isinstance, PySem.W.mg_none_of X G z_int, PySem.W.mg_none_of X G z_bool, PySem.W.mg_none_of X G z_tuple, PySem.W.mg_none_of X G z_len, PySem.W.mg_none_of X G z_enumerate, PySem.W.mg_none_of X G z_range, PySem.W.mg_none_of X G z_sorted⟩
  have n_isinstance := PySem.W.mg_none_of X G z_isinstance
  have n_int := PySem.W.mg_none_of X G z_int
  have n_bool := PySem.W.mg_none_of X G z_bool
  have n_tuple := PySem.W.mg_none_of X G z_tuple
  have n_len := PySem.W.mg_none_of X G z_len
  have n_enumerate := PySem.W.mg_none_of X G z_enumerate
  have n_range := PySem.W.mg_none_of X G z_range
  have n_sorted := PySem.W.mg_none_of X G z_sorted
  have n_all := PySem.W.mg_none_of X G z_all
  have n_zip := PySem.W.mg_none_of X G z_zip
  have n_list := PySem.W.mg_none_of X G z_list
  have n_any := PySem.W.mg_none_of X G z_any
  have n_max := PySem.W.mg_none_of X G z_max
  have n_str := PySem.W.mg_none_of X G z_str
  have n_sum := PySem.W.mg_none_of X G z_sum
  have gM := PySem.W.mg_of X G aM
  have gW := PySem.W.mg_of X G aW
  have hW : ∀ H, SqT K H fW [.str "open", .str "shut"] := fun H => .inr ⟨_, _, _, lW, rfl, rfl, by show 2 ≤ sizeLine; decide, .cons ⟨_, rfl⟩ (.cons ⟨_, rfl⟩ .nil)⟩
  have gS := PySem.W.mg_of X G aS
  have TS : SgT K w mg fS := ⟨gS, ⟨esS, nS, _, lS, kS, oS, _, rfl⟩, ⟨esS, nS, _, lS, kS, sS, _, rfl⟩⟩
  have gSS := PySem.W.mg_of X G aSS
  have gCM := PySem.W.mg_of X G aCM
  have gMP := PySem.W.mg_of X G aMP
  refine ⟨PySem.W.fnOf "law" "law" (defArgs s_law) (defBody s_law) (defScope s_law) .none kV_law dc_law pm_law an_law cd_law ct_law, fun s v => .of_eq rfl, fun base hKX hGX => ?_⟩
  have OD := ok_getD (P := l.prog) (w := w) (base := base) F_Cabinet_drawers TC
  have OB := ok_getB (P := l.prog) (w := w) (base := base) F_Cabinet_bars TC
  have CP : CabP l.prog w K mg base C := ⟨TC.cl, ⟨_, _, _, ⟨pa_drawers, pg_drawers, pt_drawers, ⟨_, pr_drawers⟩⟩, OD, b_Cabinet_drawers⟩, ⟨_, _, _, ⟨pa_bars, pg_bars, pt_bars, ⟨_, pr_bars⟩⟩, OB, b_Cabinet_bars⟩⟩
  have O__law_taken := ok_taken (P := l.prog) (w := w) (base := base) F__law_taken TB
  have O__law_parts := ok_parts F__law_parts TB O__law_taken g__law_taken k__law_taken b__law_taken
  have O_is_integer := ok_isInt (P := l.prog) (w := w) (base := base) F_is_integer TB
  have O_is_drawer_count := ok_isCount F_is_drawer_count TB O_is_integer g_is_integer k_is_integer b_is_integer ⟨_, gM⟩
  have O_check_drawers := ok_checkDrawers F_check_drawers O_is_drawer_count g_is_drawer_count k_is_drawer_count b_is_drawer_count
  have O_is_drawer := ok_isDrawer F_is_drawer TB O_is_integer g_is_integer k_is_integer b_is_integer
  have O_is_bar := ok_isBar F_is_bar TB O_is_drawer g_is_drawer k_is_drawer b_is_drawer ⟨fW, gW, hW⟩
  have O_check_bars := ok_checkBars F_check_bars TB O_is_bar g_is_bar k_is_bar b_is_bar
  have O_Cabinet___init__ := ok_init F_Cabinet___init__ TC O_check_drawers g_check_drawers k_check_drawers b_check_drawers O_check_bars g_check_bars k_check_bars b_check_bars
  have O__law_made := ok_made F__law_made TC MC O_Cabinet___init__ b_Cabinet___init__
  have O_check_cabinet := ok_ckCab (P := l.prog) (w := w) (base := base) F_check_cabinet TB IC
  have O_is_set := ok_isSet F_is_set TB n_all n_zip O_is_drawer g_is_drawer k_is_drawer b_is_drawer
  have O_check_set := ok_ckSet F_check_set CP O_is_set g_is_set k_is_set b_is_set
  have O_hinders := ok_hinders (P := l.prog) (base := base) F_hinders TS
  have O_bars_against := ok_against F_bars_against CP O_hinders g_hinders k_hinders b_hinders
  have O_goes := ok_goes F_goes O_bars_against g_bars_against k_bars_against b_bars_against
  have O_free_drawers := ok_freeDrawers F_free_drawers TB CP O_goes g_goes k_goes b_goes
  have O_moved := ok_moved (P := l.prog) (base := base) F_moved TS
  have O_rows_from := ok_rowsFrom F_rows_from TB O_free_drawers g_free_drawers k_free_drawers b_free_drawers O_moved g_moved k_moved b_moved
  have O_first_standing := ok_first (P := l.prog) (base := base) F_first_standing TS
  have O_first_rows := ok_firstRows F_first_rows CP O_rows_from g_rows_from k_rows_from b_rows_from O_first_standing g_first_standing k_first_standing b_first_standing
  have O_reached := ok_reachedA F_reached TB n_list O_check_cabinet g_check_cabinet k_check_cabinet b_check_cabinet O_first_rows g_first_rows k_first_rows b_first_rows
  have O_fits := ok_fits (P := l.prog) (w := w) (base := base) F_fits n_zip n_all
  have O_any_fits := ok_anyFits F_any_fits n_any O_fits g_fits k_fits b_fits
  have O_open_pattern := ok_openPat F_open_pattern TB TS CP
  have O_paper := ok_paper F_paper TB O_check_cabinet g_check_cabinet k_check_cabinet b_check_cabinet O_check_set g_check_set k_check_set b_check_set O_reached g_reached k_reached b_reached O_any_fits g_any_fits k_any_fits b_any_fits O_open_pattern g_open_pattern k_open_pattern b_open_pattern
  have O_first_row_to := ok_firstRow F_first_row_to O_rows_from g_rows_from k_rows_from b_rows_from O_fits g_fits k_fits b_fits
  have O_open_together := ok_openT F_open_together CP O_check_cabinet g_check_cabinet k_check_cabinet b_check_cabinet O_check_set g_check_set k_check_set b_check_set O_first_row_to g_first_row_to k_first_row_to b_first_row_to O_first_standing g_first_standing k_first_standing b_first_standing O_open_pattern g_open_pattern k_open_pattern b_open_pattern
  have O_reached_pulls := ok_reachedPulls F_reached_pulls O_first_rows g_first_rows k_first_rows b_first_rows O_free_drawers g_free_drawers k_free_drawers b_free_drawers O_moved g_moved k_moved b_moved
  have O_first_row_beside := ok_beside F_first_row_beside O_first_rows g_first_rows k_first_rows b_first_rows
  have O_dead_end := ok_deadEnd F_dead_end O_check_cabinet g_check_cabinet k_check_cabinet b_check_cabinet O_reached_pulls g_reached_pulls k_reached_pulls b_reached_pulls O_first_row_beside g_first_row_beside k_first_row_beside b_first_row_beside
  have O_leading_to := ok_leading (P := l.prog) (w := w) (base := base) F_leading_to n_list
  have O_no_return := ok_noReturn F_no_return CP O_check_cabinet g_check_cabinet k_check_cabinet b_check_cabinet O_reached_pulls g_reached_pulls k_reached_pulls b_reached_pulls O_first_row_beside g_first_row_beside k_first_row_beside b_first_row_beside O_leading_to g_leading_to k_leading_to b_leading_to O_first_standing g_first_standing k_first_standing b_first_standing
  have O__law_all := ok_lawAll6 (P := l.prog) (w := w) (base := base) F__law_all TB
  have O_open_count := ok_openCount (P := l.prog) (base := base) F_open_count TS
  have O_most_open := ok_most F_most_open n_max O_check_cabinet g_check_cabinet k_check_cabinet b_check_cabinet O_first_rows g_first_rows k_first_rows b_first_rows O_open_count g_open_count k_open_count b_open_count
  have O__law_pattern := ok_lawPattern F__law_pattern TB O__law_taken g__law_taken k__law_taken b__law_taken
  have O_has_signs := ok_hasSigns (P := l.prog) (w := w) (base := base) F_has_signs TB n_str n_all
  have O_is_pattern := ok_isPat F_is_pattern O_has_signs g_has_signs k_has_signs b_has_signs ⟨_, gSS⟩
  have O_check_pattern := ok_ckPat F_check_pattern CP O_is_pattern g_is_pattern k_is_pattern b_is_pattern
  have O_row_to := ok_rowTo F_row_to CP O_check_cabinet g_check_cabinet k_check_cabinet b_check_cabinet O_check_pattern g_check_pattern k_check_pattern b_check_pattern O_first_row_to g_first_row_to k_first_row_to b_first_row_to O_first_standing g_first_standing k_first_standing b_first_standing
  have O_end_of_row := ok_end F_end_of_row O_goes g_goes k_goes b_goes O_moved g_moved k_moved b_moved
  have O_right_row := ok_right F_right_row TB n_all CP O_check_cabinet g_check_cabinet k_check_cabinet b_check_cabinet O_check_pattern g_check_pattern k_check_pattern b_check_pattern O_is_drawer g_is_drawer k_is_drawer b_is_drawer O_end_of_row g_end_of_row k_end_of_row b_end_of_row O_first_standing g_first_standing k_first_standing b_first_standing O_fits g_fits k_fits b_fits
  have O__law_hold := ok_lawHold (P := l.prog) (w := w) (mg := mg) (base := base) F__law_hold
  have O_barred_pulls := ok_barredP F_barred_pulls TB CP O_first_rows g_first_rows k_first_rows b_first_rows O_bars_against g_bars_against k_bars_against b_bars_against
  have O_needless := ok_needless F_needless CP O_check_cabinet g_check_cabinet k_check_cabinet b_check_cabinet O_barred_pulls g_barred_pulls k_barred_pulls b_barred_pulls
  have O_meets_all := ok_meets (P := l.prog) (w := w) (mg := mg) (base := base) F_meets_all
  have O_fewest_of_group := ok_group F_fewest_of_group TB n_sum gCM O_meets_all g_meets_all k_meets_all b_meets_all
  have O_fewest_of_each := ok_each F_fewest_of_each TB n_list O_fewest_of_group g_fewest_of_group k_fewest_of_group b_fewest_of_group
  have O_fewest_bars := ok_fewest F_fewest_bars O_check_cabinet g_check_cabinet k_check_cabinet b_check_cabinet O_barred_pulls g_barred_pulls k_barred_pulls b_barred_pulls O_fewest_of_each g_fewest_of_each k_fewest_of_each b_fewest_of_each
  have O_check_number := ok_ckNum0 F_check_number O_is_integer g_is_integer k_is_integer b_is_integer
  have O_counts_behind := ok_countsBehind (mg := mg) (P := l.prog) (w := w) (base := base) F_counts_behind
  have O_counts_by_end := ok_countsByEnd F_counts_by_end TB CP O_reached_pulls g_reached_pulls k_reached_pulls b_reached_pulls O_first_standing g_first_standing k_first_standing b_first_standing O_counts_behind g_counts_behind k_counts_behind b_counts_behind
  have O_count_rows := ok_countRows F_count_rows n_sum n_list ⟨_, gMP⟩ O_check_cabinet g_check_cabinet k_check_cabinet b_check_cabinet O_check_number g_check_number k_check_number b_check_number O_counts_by_end g_counts_by_end k_counts_by_end b_counts_by_end
  have O_count_to := ok_countTo F_count_to n_sum ⟨_, gMP⟩ O_check_cabinet g_check_cabinet k_check_cabinet b_check_cabinet O_check_number g_check_number k_check_number b_check_number O_check_pattern g_check_pattern k_check_pattern b_check_pattern O_counts_by_end g_counts_by_end k_counts_by_end b_counts_by_end O_fits g_fits k_fits b_fits
  exact ok_law F_law TB n_sum TC MC O_Cabinet___init__ b_Cabinet___init__ O__law_taken g__law_taken k__law_taken b__law_taken O__law_parts g__law_parts k__law_parts b__law_parts O__law_made g__law_made k__law_made b__law_made O_paper g_paper k_paper b_paper O_open_together g_open_together k_open_together b_open_together O_dead_end g_dead_end k_dead_end b_dead_end O_no_return g_no_return k_no_return b_no_return O_reached g_reached k_reached b_reached O__law_all g__law_all k__law_all b__law_all O_most_open g_most_open k_most_open b_most_open O__law_pattern g__law_pattern k__law_pattern b__law_pattern O_row_to g_row_to k_row_to b_row_to O_right_row g_right_row k_right_row b_right_row O__law_hold g__law_hold k__law_hold b__law_hold O_needless g_needless k_needless b_needless O_fewest_bars g_fewest_bars k_fewest_bars b_fewest_bars O_count_rows g_count_rows k_count_rows b_count_rows O_count_to g_count_to k_count_to b_count_to
theorem walk {l : PySem.W.OpenLaw} {q : Program} {loose : List Str} {XP : (Str → Option Value) → Heap → Prop} {YP : World → Heap → Prop} {d : DefRec} {K : Params → PySem.W.Frag} (hn : l.most = some 63) (hdf : d.params.defaults = [])
    (hY : ∀ (w : World) (h : Heap), YP w h → (K w.params).In h)
    (F : ∀ (w : World) (mg : Str → Option Value) (fa : Addr) (h : Heap), (K w.params).In h → h.Ns mainGlobals mg → mg d.name = some (.ref fa) →
      ∃ fd : FuncData, (∀ (s : Shared) (u : Value), BindsTo s fd ⟨[u], []⟩ [("_law_script", u)]) ∧ ∀ base : Heap, (K w.params).In base → base.Ns mainGlobals mg → FnOk l.prog w (K w.params) mg base CX0 20 fa fd ["_law_script"] (spLaw (K w.params))) :
    PySem.W.WalkO q loose XP YP l.row.toRowW d [] (fun f vs => PySem.call f vs) :=
  L2.walk_of (n := 63) (k := 20) (x := "_law_script") (CX := fun _ => CX0) (sp := fun w => spLaw (K w.params)) hn (by decide) hdf ⟨rfl, by decide, by decide⟩ hY F (fun _ _ a ns hl _ hS => ⟨a, ns, rfl, hS, hl, fun _ => rfl⟩) fun _ _ _ _ _ z => z
end DL


set_option Elab.async false
set_option linter.all false
set_option maxRecDepth 100000
set_option maxHeartbeats 2000000
/-! A head whose facts are read off by a Hook: functions by their parts, the rest by Bools. -/
namespace HX
open PySem PySem.Spec PyProof.Rows L2
abbrev Fr := PySem.W.Frag
/-! ### what the Hook looks at -/
def fdA (K : Fr) (f : Addr) : Option FuncData := match K.lookup f with
  | some ⟨_, _, .func fd, _⟩ => some fd
  | _ => none
abbrev FnL : Type := Option (Str × Str × Arguments × FuncBody × Scope × Addr × List Str × Value × Addr)
def fnL (K : Fr) (f : Addr) : FnL := (fdA K f).map fun fd => (fd.name, fd.qualname, fd.params, fd.body, fd.scope, fd.globals, fd.closure.map (·.1), fd.defaults, fd.builtins)
/-- a def: its address, its parts; own: it holds its class in a cell -/
structure FD where
  ad : Fr → Addr
  name : Str
  qual : Str
  params : Arguments
  body : List Stmt
  scope : Scope
  own : List Str := []
def FD.val (d : FD) : FnL := some (d.name, d.qual, d.params, .stmts d.body, d.scope, mainGlobals, d.own, .none, builtinsNs)
def codeB (K : Fr) (f : Addr) (q : Str) : Bool := match fdA K f with
  | some fd => PySem.W.codeIn K fd.code q
  | none => false
theorem fdA_ok {K : Fr} {f : Addr} {fd : FuncData} (h : fdA K f = some fd) : ∃ oc od sl, K.lookup f = some ⟨oc, od, .func fd, sl⟩ := by
  unfold fdA at h
  cases q : K.lookup f with
  | none => rw [q] at h; cases h
  | some o =>
    obtain ⟨oc, od, dt, sl⟩ := o
    rw [q] at h
    cases dt with
    | func fd' =>
      injection h with h
      subst h
      exact ⟨oc, od, sl, rfl⟩
    | _ => cases h
theorem fnL_ok {K : Fr} {d : FD} (e : fnL K (d.ad K) = d.val) : ∃ fd, fdA K (d.ad K) = some fd ∧ fd.name = d.name ∧ fd.qualname = d.qual ∧ fd.params = d.params ∧ fd.body = .stmts d.body ∧ fd.scope = d.scope ∧ fd.globals = mainGlobals ∧ fd.closure.map (·.1) = d.own ∧ fd.defaults = .none ∧ fd.builtins = builtinsNs := by
  unfold fnL FD.val at e
  cases q : fdA K (d.ad K) with
  | none => rw [q] at e; cases e
  | some fd =>
    rw [q] at e
    simp only [Option.map_some, Option.some.injEq, Prod.mk.injEq] at e
    obtain ⟨h1, h2, h3, h4, h5, h6, h7, h8, h9⟩ := e
    exact ⟨fd, rfl, h1, h2, h3, h4, h5, h6, h7, h8, h9⟩
/-- a def without a cell -/
theorem fd_plain {K : Fr} {d : FD} (ho : d.own = []) (e : fnL K (d.ad K) = d.val) (c : codeB K (d.ad K) d.qual = true) :
    ∃ (od an : Option Addr) (sl : Array (Option Value)) (oc kV dc pm cd ct : Value), K.lookup (d.ad K) = some ⟨oc, od, .func (PySem.W.fnOf d.name d.qual d.params d.body d.scope .none kV dc pm an cd ct), sl⟩ ∧ PySem.W.codeIn K cd d.qual = true := by
  obtain ⟨fd, hf, h1, h2, h3, h4, h5, h6, h7, h8, h9⟩ := fnL_ok e
  obtain ⟨oc, od, sl, hl⟩ := fdA_ok hf
  unfold codeB at c
  rw [hf] at c
  obtain ⟨n1, n2, n3, n4, n5, n6, n7, n8, n9, n10, n11, n12, n13, n14, n15⟩ := fd
  simp only at h1 h2 h3 h4 h5 h6 h7 h8 h9 c
  rw [ho] at h7
  obtain rfl : n7 = [] := List.map_eq_nil_iff.mp h7
  subst h1 h2 h3 h4 h5 h6 h8 h9
  exact ⟨od, n12, sl, oc, n9, n10, n11, n13, n14, hl, c⟩
/-! ### a def with super(): its code's file, its cell -/
/-! ### an own error's class under another own one -/
/-! ### names, values -/
def intB (K : Fr) (a : Addr) (x : Str) (i : Int) : Bool := match PySem.W.nsIn K a x with
  | some (some (.int j _)) => decide (j = i)
  | _ => false
theorem int_ok {K : Fr} {a : Addr} {x : Str} {i : Int} (h : intB K a x i = true) : ∃ t, PySem.W.nsIn K a x = some (some (.int i t)) := by
  unfold intB at h
  split at h
  · rename_i j t e
    rw [of_decide_eq_true h] at e
    exact ⟨t, e⟩
  · cases h
def strB (K : Fr) (a : Addr) (x z : Str) : Bool := match PySem.W.nsIn K a x with
  | some (some (.str y _)) => decide (y = z)
  | _ => false
theorem str_ok {K : Fr} {a : Addr} {x z : Str} (h : strB K a x z = true) : ∃ t, PySem.W.nsIn K a x = some (some (.str z t)) := by
  unfold strB at h
  split at h
  · rename_i j t e
    rw [of_decide_eq_true h] at e
    exact ⟨t, e⟩
  · cases h
def tup2B (K : Fr) (a : Addr) (x y : Str) : Bool := match K.lookup a with
  | some ⟨.type c, _, .seq ⟨[.str p _, .str q _]⟩ _, _⟩ => decide (c = "tuple") && (decide (p = x) && decide (q = y))
  | _ => false
theorem tup2_ok {K : Fr} {a : Addr} {x y : Str} (h : tup2B K a x y = true) : ∃ dd t1 t2 n sl, K.lookup a = some ⟨.type "tuple", dd, .seq #[.str x t1, .str y t2] n, sl⟩ := by
  unfold tup2B at h
  split at h
  · rename_i c dd p t1 q t2 n sl e
    simp only [Bool.and_eq_true, decide_eq_true_eq] at h
    obtain ⟨rfl, rfl, rfl⟩ := h
    exact ⟨dd, t1, t2, n, sl, e⟩
  · cases h
/-- a property's def -/
def prA (K : Fr) (p : Addr) : Addr := match PySem.W.recIn K p "property" with
  | some (.ref f :: _) => f
  | _ => 0
def prR (K : Fr) (p : Addr) : List Value := match PySem.W.recIn K p "property" with
  | some (_ :: r) => r
  | _ => []
def prB (K : Fr) (p : Addr) : Bool := match PySem.W.recIn K p "property" with
  | some (.ref _ :: _) => true
  | _ => false
theorem pr_ok {K : Fr} {p : Addr} (h : prB K p = true) : PySem.W.recIn K p "property" = some (.ref (prA K p) :: prR K p) := by
  unfold prB at h
  unfold prA prR
  split at h
  · rename_i f r e
    rw [e]
  · cases h
/-- a dict's keys, with their hashes -/
def keyO (e : DictEntry) : Option (Str × Int) := match e.key with
  | .str x _ => some (x, e.hash)
  | _ => none
def dicO (K : Fr) (a : Addr) : Option (List (Option (Str × Int))) := match K.lookup a with
  | some ⟨.type c, none, .dict es _, ⟨[]⟩⟩ => (match c == "dict" with
    | true => some (es.toList.map keyO)
    | false => none)
  | _ => none
theorem dic_ok {K : Fr} {a : Addr} {P : Params} {ks : List Str} (h : dicO K a = some (ks.map fun x => some (x, PyData.keyHash P x))) : ∃ es n, K.lookup a = some ⟨.type "dict", none, .dict es n, #[]⟩ ∧ PySem.W.KeysLit P es.toList := by
  unfold dicO at h
  split at h
  · rename_i c es n e
    split at h
    · rename_i hc
      injection h with h
      rw [beq_iff_eq.mp hc] at e
      refine ⟨es, n, e, ?_⟩
      generalize es.toList = l at h
      clear e
      induction l generalizing ks with
      | nil => trivial
      | cons d l ih =>
        cases ks with
        | nil => cases h
        | cons k ks =>
          rw [List.map_cons, List.map_cons] at h
          injection h with h1 h2
          refine ⟨?_, ih h2⟩
          unfold keyO at h1
          split at h1
          · rename_i x t ek
            injection h1 with h1
            injection h1 with h1 h3
            subst h1
            exact ⟨_, t, ek, h3⟩
          · cases h1
    · cases h
  · cases h
/-! ### the Hook -/
def memN (a : Nat) : List Nat → Bool
  | [] => false
  | b :: r => match Nat.beq a b with
    | true => true
    | false => memN a r
/-- of these the ones that are not there yet -/
def newN : List Nat → List Nat → List Nat → List Nat
  | [], _, acc => acc
  | a :: r, seen, acc => match memN a seen with
    | true => newN r seen acc
    | false => (match memN a acc with
      | true => newN r seen acc
      | false => newN r seen (a :: acc))
/-- the objects that matter to the facts: a dict's values, a def's code and cells, a class's names and bases, a property's defs -/
def refsX (o : Obj) : List Addr := match o.data with
  | .dict es _ => es.toList.flatMap fun e => He.refV e.val
  | .func fd => He.refV fd.code ++ fd.closure.map (·.2)
  | .cls cd => cd.ns :: cd.mro.flatMap He.refV
  | .fields vs => (match o.cls with
    | .type c => (match c == "property" with
      | true => vs.toList.flatMap He.refV
      | false => [])
    | _ => [])
  | _ => []
def outX (g : Addr → Option Obj) : List Addr → List Addr
  | [] => []
  | a :: r => (match g a with
    | some o => refsX o
    | none => []) ++ outX g r
def walkX (g : Addr → Option Obj) : Nat → List Addr → List Addr → List Addr
  | 0, seen, _ => seen
  | n + 1, seen, front => (fun nw => walkX g n (seen ++ nw) nw) (newN (outX g front) seen [])
def asX (g : Addr → Option Obj) (n : Nat) : List Addr := walkX g n [mainGlobals, cStatics] [mainGlobals, cStatics]
abbrev AlX : Type := Bool × List FnL × Option (List (Option (Str × Int)))
structure Look where
  bs : Fr → List Bool
  fn : List FD
  di : Fr → Addr
  ks : List Str
def Look.obs (L : Look) (K : Fr) : AlX := ((L.bs K).all id, L.fn.map fun d => fnL K (d.ad K), dicO K (L.di K))
def Look.val (L : Look) (w : World) : AlX := (true, L.fn.map FD.val, some (L.ks.map fun x => some (x, PyData.keyHash w.params x)))
def Look.hook (n : Nat) (L : Look) : PySem.W.Hook where
  α := AlX
  obs := fun s => L.obs (He.frG s.heap.get? (asX s.heap.get? n))
  val := fun w => L.val w
  says := fun w h => ∃ K : Fr, K.In h ∧ L.obs K = L.val w
  of := fun _ _ e => ⟨_, He.frG_in, e⟩
  keeps := fun _ _ _ ⟨K, hK, c⟩ k => ⟨K, PySem.W.Frag.In.keeps hK k, c⟩
def Look.ob (n : Nat) (L : Look) (s : PySem.W.SharedT) : AlX := L.obs (He.frG (HandSHeadRun.getT s) (asX (HandSHeadRun.getT s) n))
theorem Look.ob_eq (n : Nat) (L : Look) (s : PySem.W.SharedT) : L.ob n s = (L.hook n).obs s.abs := by
  have e : HandSHeadRun.getT s = s.abs.heap.get? := funext (HandSHeadRun.getT_eq s)
  show L.obs (He.frG (HandSHeadRun.getT s) (asX (HandSHeadRun.getT s) n)) = L.obs (He.frG s.abs.heap.get? (asX s.abs.heap.get? n))
  rw [e]
section
variable {L : Look} {K : Fr} {w : World}
theorem Look.bit (c : L.obs K = L.val w) (i : Nat) {b : Bool} (h : (L.bs K)[i]? = some b) : b = true := by
  have c1 : (L.bs K).all id = true := congrArg (fun z : AlX => z.1) c
  exact List.all_eq_true.mp c1 b (List.mem_of_getElem? h)
theorem Look.eq (c : L.obs K = L.val w) (i : Nat) {p : Prop} [Decidable p] (h : (L.bs K)[i]? = some (decide p)) : p := of_decide_eq_true (Look.bit c i h)
theorem Look.def_ (c : L.obs K = L.val w) (i : Nat) {d : FD} (h : L.fn[i]? = some d) : fnL K (d.ad K) = d.val := by
  have e : L.fn.map (fun d => fnL K (d.ad K)) = L.fn.map FD.val := congrArg (fun z : AlX => z.2.1) c
  have e2 : (L.fn.map fun d => fnL K (d.ad K))[i]? = (L.fn.map FD.val)[i]? := by rw [e]
  rw [List.getElem?_map, List.getElem?_map, h] at e2
  exact Option.some.inj e2
theorem Look.dic (c : L.obs K = L.val w) : ∃ es n, K.lookup (L.di K) = some ⟨.type "dict", none, .dict es n, #[]⟩ ∧ PySem.W.KeysLit w.params es.toList := dic_ok (congrArg (fun z : AlX => z.2.2) c)
end
end HX

set_option Elab.async false
set_option linter.all false
set_option maxRecDepth 100000
set_option maxHeartbeats 0
namespace HDG
open PySem PySem.Spec PyProof.Rows L2 DL
abbrev R : PySem.W.OpenRow := PySem.W.OpenLaw.row PySem.Challenge.rw_drawerlocks_k27_what_holds
def l0 : List PySem.Str := [PySem.Str.ofString "__name__", PySem.Str.ofString "DrawerError", PySem.Str.ofString "BadDrawers", PySem.Str.ofString "BadBars", PySem.Str.ofString "BadCabinet", PySem.Str.ofString "BadPattern", PySem.Str.ofString "BadSet", PySem.Str.ofString "BadNumber", PySem.Str.ofString "MOST_DRAWERS", PySem.Str.ofString "WORDS", PySem.Str.ofString "SIGNS", PySem.Str.ofString "PATTERN_SIGNS", PySem.Str.ofString "is_integer", PySem.Str.ofString "is_drawer_count", PySem.Str.ofString "is_drawer", PySem.Str.ofString "is_set", PySem.Str.ofString "is_bar", PySem.Str.ofString "is_pattern", PySem.Str.ofString "has_signs", PySem.Str.ofString "first_standing", PySem.Str.ofString "fits", PySem.Str.ofString "hinders", PySem.Str.ofString "moved", PySem.Str.ofString "Cabinet", PySem.Str.ofString "free_drawers", PySem.Str.ofString "goes", PySem.Str.ofString "bars_against", PySem.Str.ofString "check_drawers", PySem.Str.ofString "check_bars", PySem.Str.ofString "check_cabinet", PySem.Str.ofString "check_pattern", PySem.Str.ofString "check_number", PySem.Str.ofString "reached", PySem.Str.ofString "row_to", PySem.Str.ofString "right_row"]
def l1 : List PySem.Str := [PySem.Str.ofString "first_rows", PySem.Str.ofString "reached_pulls", PySem.Str.ofString "rows_from", PySem.Str.ofString "first_row_to", PySem.Str.ofString "end_of_row", PySem.Str.ofString "MOST_PULLS", PySem.Str.ofString "count_rows", PySem.Str.ofString "count_to", PySem.Str.ofString "counts_by_end", PySem.Str.ofString "counts_behind", PySem.Str.ofString "needless", PySem.Str.ofString "fewest_bars", PySem.Str.ofString "barred_pulls", PySem.Str.ofString "fewest_of_each", PySem.Str.ofString "fewest_of_group", PySem.Str.ofString "meets_all", PySem.Str.ofString "dead_end", PySem.Str.ofString "no_return", PySem.Str.ofString "first_row_beside", PySem.Str.ofString "leading_to", PySem.Str.ofString "open_together", PySem.Str.ofString "most_open", PySem.Str.ofString "paper", PySem.Str.ofString "open_count", PySem.Str.ofString "any_fits", PySem.Str.ofString "open_pattern", PySem.Str.ofString "check_set", PySem.Str.ofString "_law_taken", PySem.Str.ofString "_law_parts", PySem.Str.ofString "_law_made", PySem.Str.ofString "_law_hold", PySem.Str.ofString "_law_all", PySem.Str.ofString "_law_pattern"]
def loose : List PySem.Str := l0 ++ l1
def fd0 : HX.FD := ⟨fun K => He.ga K "is_integer", "is_integer", "is_integer", (defArgs sIsInt), (defBody sIsInt), (defScope sIsInt), []⟩
def fd1 : HX.FD := ⟨fun K => He.ga K "is_drawer_count", "is_drawer_count", "is_drawer_count", (defArgs sIsCount), (defBody sIsCount), (defScope sIsCount), []⟩
def fd2 : HX.FD := ⟨fun K => He.ga K "is_drawer", "is_drawer", "is_drawer", (defArgs sIsDrawer), (defBody sIsDrawer), (defScope sIsDrawer), []⟩
def fd3 : HX.FD := ⟨fun K => He.ga K "is_bar", "is_bar", "is_bar", (defArgs sIsBar), (defBody sIsBar), (defScope sIsBar), []⟩
def fd4 : HX.FD := ⟨fun K => He.ga K "check_drawers", "check_drawers", "check_drawers", (defArgs sCheckDrawers), (defBody sCheckDrawers), (defScope sCheckDrawers), []⟩
def fd5 : HX.FD := ⟨fun K => He.ga K "check_bars", "check_bars", "check_bars", (defArgs sCheckBars), (defBody sCheckBars), (defScope sCheckBars), []⟩
def fd6 : HX.FD := ⟨fun K => He.ga K "_law_taken", "_law_taken", "_law_taken", (defArgs sTaken), (defBody sTaken), (defScope sTaken), []⟩
def fd7 : HX.FD := ⟨fun K => He.ga K "_law_parts", "_law_parts", "_law_parts", (defArgs sParts), (defBody sParts), (defScope sParts), []⟩
def fd8 : HX.FD := ⟨fun K => He.ga K "_law_made", "_law_made", "_law_made", (defArgs sMade), (defBody sMade), (defScope sMade), []⟩
def fd9 : HX.FD := ⟨fun K => He.ga K "hinders", "hinders", "hinders", (defArgs s_hinders), (defBody s_hinders), (defScope s_hinders), []⟩
def fd10 : HX.FD := ⟨fun K => He.ga K "moved", "moved", "moved", (defArgs s_moved), (defBody s_moved), (defScope s_moved), []⟩
def fd11 : HX.FD := ⟨fun K => He.ga K "bars_against", "bars_against", "bars_against", (defArgs s_bars_against), (defBody s_bars_against), (defScope s_bars_against), []⟩
def fd12 : HX.FD := ⟨fun K => He.ga K "goes", "goes", "goes", (defArgs s_goes), (defBody s_goes), (defScope s_goes), []⟩
def fd13 : HX.FD := ⟨fun K => He.ga K "free_drawers", "free_drawers", "free_drawers", (defArgs s_free_drawers), (defBody s_free_drawers), (defScope s_free_drawers), []⟩
def fd14 : HX.FD := ⟨fun K => He.ga K "_law_hold", "_law_hold", "_law_hold", (defArgs s__law_hold), (defBody s__law_hold), (defScope s__law_hold), []⟩
def fd15 : HX.FD := ⟨fun K => He.ga K "_law_pattern", "_law_pattern", "_law_pattern", (defArgs s__law_pattern), (defBody s__law_pattern), (defScope s__law_pattern), []⟩
def fd16 : HX.FD := ⟨fun K => He.ga K "has_signs", "has_signs", "has_signs", (defArgs s_has_signs), (defBody s_has_signs), (defScope s_has_signs), []⟩
def fd17 : HX.FD := ⟨fun K => He.ga K "is_pattern", "is_pattern", "is_pattern", (defArgs s_is_pattern), (defBody s_is_pattern), (defScope s_is_pattern), []⟩
def fd18 : HX.FD := ⟨fun K => He.ga K "check_cabinet", "check_cabinet", "check_cabinet", (defArgs s_check_cabinet), (defBody s_check_cabinet), (defScope s_check_cabinet), []⟩
def fd19 : HX.FD := ⟨fun K => He.ga K "check_pattern", "check_pattern", "check_pattern", (defArgs s_check_pattern), (defBody s_check_pattern), (defScope s_check_pattern), []⟩
def fd20 : HX.FD := ⟨fun K => He.ga K "first_standing", "first_standing", "first_standing", (defArgs s_first_standing), (defBody s_first_standing), (defScope s_first_standing), []⟩
def fd21 : HX.FD := ⟨fun K => He.ga K "fits", "fits", "fits", (defArgs s_fits), (defBody s_fits), (defScope s_fits), []⟩
def fd22 : HX.FD := ⟨fun K => He.ga K "end_of_row", "end_of_row", "end_of_row", (defArgs s_end_of_row), (defBody s_end_of_row), (defScope s_end_of_row), []⟩
def fd23 : HX.FD := ⟨fun K => He.ga K "right_row", "right_row", "right_row", (defArgs s_right_row), (defBody s_right_row), (defScope s_right_row), []⟩
def fd24 : HX.FD := ⟨fun K => He.ga K "rows_from", "rows_from", "rows_from", (defArgs s_rows_from), (defBody s_rows_from), (defScope s_rows_from), []⟩
def fd25 : HX.FD := ⟨fun K => He.ga K "first_rows", "first_rows", "first_rows", (defArgs s_first_rows), (defBody s_first_rows), (defScope s_first_rows), []⟩
def fd26 : HX.FD := ⟨fun K => He.ga K "first_row_to", "first_row_to", "first_row_to", (defArgs s_first_row_to), (defBody s_first_row_to), (defScope s_first_row_to), []⟩
def fd27 : HX.FD := ⟨fun K => He.ga K "row_to", "row_to", "row_to", (defArgs s_row_to), (defBody s_row_to), (defScope s_row_to), []⟩
def fd28 : HX.FD := ⟨fun K => He.ga K "reached", "reached", "reached", (defArgs s_reached), (defBody s_reached), (defScope s_reached), []⟩
def fd29 : HX.FD := ⟨fun K => He.ga K "_law_all", "_law_all", "_law_all", (defArgs s__law_all), (defBody s__law_all), (defScope s__law_all), []⟩
def fd30 : HX.FD := ⟨fun K => He.ga K "is_set", "is_set", "is_set", (defArgs s_is_set), (defBody s_is_set), (defScope s_is_set), []⟩
def fd31 : HX.FD := ⟨fun K => He.ga K "check_set", "check_set", "check_set", (defArgs s_check_set), (defBody s_check_set), (defScope s_check_set), []⟩
def fd32 : HX.FD := ⟨fun K => He.ga K "open_pattern", "open_pattern", "open_pattern", (defArgs s_open_pattern), (defBody s_open_pattern), (defScope s_open_pattern), []⟩
def fd33 : HX.FD := ⟨fun K => He.ga K "any_fits", "any_fits", "any_fits", (defArgs s_any_fits), (defBody s_any_fits), (defScope s_any_fits), []⟩
def fd34 : HX.FD := ⟨fun K => He.ga K "open_together", "open_together", "open_together", (defArgs s_open_together), (defBody s_open_together), (defScope s_open_together), []⟩
def fd35 : HX.FD := ⟨fun K => He.ga K "open_count", "open_count", "open_count", (defArgs s_open_count), (defBody s_open_count), (defScope s_open_count), []⟩
def fd36 : HX.FD := ⟨fun K => He.ga K "most_open", "most_open", "most_open", (defArgs s_most_open), (defBody s_most_open), (defScope s_most_open), []⟩
def fd37 : HX.FD := ⟨fun K => He.ga K "barred_pulls", "barred_pulls", "barred_pulls", (defArgs s_barred_pulls), (defBody s_barred_pulls), (defScope s_barred_pulls), []⟩
def fd38 : HX.FD := ⟨fun K => He.ga K "needless", "needless", "needless", (defArgs s_needless), (defBody s_needless), (defScope s_needless), []⟩
def fd39 : HX.FD := ⟨fun K => He.ga K "paper", "paper", "paper", (defArgs s_paper), (defBody s_paper), (defScope s_paper), []⟩
def fd40 : HX.FD := ⟨fun K => He.ga K "reached_pulls", "reached_pulls", "reached_pulls", (defArgs s_reached_pulls), (defBody s_reached_pulls), (defScope s_reached_pulls), []⟩
def fd41 : HX.FD := ⟨fun K => He.ga K "first_row_beside", "first_row_beside", "first_row_beside", (defArgs s_first_row_beside), (defBody s_first_row_beside), (defScope s_first_row_beside), []⟩
def fd42 : HX.FD := ⟨fun K => He.ga K "leading_to", "leading_to", "leading_to", (defArgs s_leading_to), (defBody s_leading_to), (defScope s_leading_to), []⟩
def fd43 : HX.FD := ⟨fun K => He.ga K "dead_end", "dead_end", "dead_end", (defArgs s_dead_end), (defBody s_dead_end), (defScope s_dead_end), []⟩
def fd44 : HX.FD := ⟨fun K => He.ga K "no_return", "no_return", "no_return", (defArgs s_no_return), (defBody s_no_return), (defScope s_no_return), []⟩
def fd45 : HX.FD := ⟨fun K => He.ga K "meets_all", "meets_all", "meets_all", (defArgs s_meets_all), (defBody s_meets_all), (defScope s_meets_all), []⟩
def fd46 : HX.FD := ⟨fun K => He.ga K "fewest_of_group", "fewest_of_group", "fewest_of_group", (defArgs s_fewest_of_group), (defBody s_fewest_of_group), (defScope s_fewest_of_group), []⟩
def fd47 : HX.FD := ⟨fun K => He.ga K "fewest_of_each", "fewest_of_each", "fewest_of_each", (defArgs s_fewest_of_each), (defBody s_fewest_of_each), (defScope s_fewest_of_each), []⟩
def fd48 : HX.FD := ⟨fun K => He.ga K "fewest_bars", "fewest_bars", "fewest_bars", (defArgs s_fewest_bars), (defBody s_fewest_bars), (defScope s_fewest_bars), []⟩
def fd49 : HX.FD := ⟨fun K => He.ga K "check_number", "check_number", "check_number", (defArgs s_check_number), (defBody s_check_number), (defScope s_check_number), []⟩
def fd50 : HX.FD := ⟨fun K => He.ga K "counts_behind", "counts_behind", "counts_behind", (defArgs s_counts_behind), (defBody s_counts_behind), (defScope s_counts_behind), []⟩
def fd51 : HX.FD := ⟨fun K => He.ga K "counts_by_end", "counts_by_end", "counts_by_end", (defArgs s_counts_by_end), (defBody s_counts_by_end), (defScope s_counts_by_end), []⟩
def fd52 : HX.FD := ⟨fun K => He.ga K "count_rows", "count_rows", "count_rows", (defArgs s_count_rows), (defBody s_count_rows), (defScope s_count_rows), []⟩
def fd53 : HX.FD := ⟨fun K => He.ga K "count_to", "count_to", "count_to", (defArgs s_count_to), (defBody s_count_to), (defScope s_count_to), []⟩
def fd54 : HX.FD := ⟨fun K => He.ga K "law", "law", "law", (defArgs s_law), (defBody s_law), (defScope s_law), []⟩
def fd55 : HX.FD := ⟨fun K => He.ma K (He.ga K "Cabinet") "__init__", "__init__", "Cabinet.__init__", (defArgs sInit), (defBody sInit), (defScope sInit), []⟩
def fd56 : HX.FD := ⟨fun K => HX.prA K (He.ma K (He.ga K "Cabinet") "drawers"), "drawers", "Cabinet.drawers", (defArgs sDrawers), (defBody sDrawers), (defScope sDrawers), []⟩
def fd57 : HX.FD := ⟨fun K => HX.prA K (He.ma K (He.ga K "Cabinet") "bars"), "bars", "Cabinet.bars", (defArgs sBars), (defBody sBars), (defScope sBars), []⟩
def b0 (K : HX.Fr) (r : List Bool) : List Bool :=
  decide (PySem.W.nsIn K mainGlobals "is_integer" = some (some (.ref (He.ga K "is_integer")))) ::
  HX.codeB K (He.ga K "is_integer") "is_integer" ::
  PySem.W.keepIn K (.ref (He.ga K "is_integer")) ::
  decide (PySem.W.nsIn K mainGlobals "is_drawer_count" = some (some (.ref (He.ga K "is_drawer_count")))) ::
  HX.codeB K (He.ga K "is_drawer_count") "is_drawer_count" ::
  PySem.W.keepIn K (.ref (He.ga K "is_drawer_count")) ::
  decide (PySem.W.nsIn K mainGlobals "is_drawer" = some (some (.ref (He.ga K "is_drawer")))) ::
  HX.codeB K (He.ga K "is_drawer") "is_drawer" ::
  PySem.W.keepIn K (.ref (He.ga K "is_drawer")) ::
  decide (PySem.W.nsIn K mainGlobals "is_bar" = some (some (.ref (He.ga K "is_bar")))) ::
  HX.codeB K (He.ga K "is_bar") "is_bar" ::
  PySem.W.keepIn K (.ref (He.ga K "is_bar")) ::
  decide (PySem.W.nsIn K mainGlobals "check_drawers" = some (some (.ref (He.ga K "check_drawers")))) ::
  HX.codeB K (He.ga K "check_drawers") "check_drawers" ::
  PySem.W.keepIn K (.ref (He.ga K "check_drawers")) ::
  decide (PySem.W.nsIn K mainGlobals "check_bars" = some (some (.ref (He.ga K "check_bars")))) ::
  HX.codeB K (He.ga K "check_bars") "check_bars" ::
  PySem.W.keepIn K (.ref (He.ga K "check_bars")) ::
  decide (PySem.W.nsIn K mainGlobals "_law_taken" = some (some (.ref (He.ga K "_law_taken")))) ::
  HX.codeB K (He.ga K "_law_taken") "_law_taken" ::
  PySem.W.keepIn K (.ref (He.ga K "_law_taken")) ::
  decide (PySem.W.nsIn K mainGlobals "_law_parts" = some (some (.ref (He.ga K "_law_parts")))) ::
  HX.codeB K (He.ga K "_law_parts") "_law_parts" ::
  PySem.W.keepIn K (.ref (He.ga K "_law_parts")) ::
  decide (PySem.W.nsIn K mainGlobals "_law_made" = some (some (.ref (He.ga K "_law_made")))) ::
  HX.codeB K (He.ga K "_law_made") "_law_made" ::
  PySem.W.keepIn K (.ref (He.ga K "_law_made")) ::
  decide (PySem.W.nsIn K mainGlobals "hinders" = some (some (.ref (He.ga K "hinders")))) ::
  HX.codeB K (He.ga K "hinders") "hinders" ::
  PySem.W.keepIn K (.ref (He.ga K "hinders")) ::
  decide (PySem.W.nsIn K mainGlobals "moved" = some (some (.ref (He.ga K "moved")))) ::
  HX.codeB K (He.ga K "moved") "moved" ::
  PySem.W.keepIn K (.ref (He.ga K "moved")) ::
  decide (PySem.W.nsIn K mainGlobals "bars_against" = some (some (.ref (He.ga K "bars_against")))) ::
  HX.codeB K (He.ga K "bars_against") "bars_against" ::
  PySem.W.keepIn K (.ref (He.ga K "bars_against")) ::
  decide (PySem.W.nsIn K mainGlobals "goes" = some (some (.ref (He.ga K "goes")))) ::
  HX.codeB K (He.ga K "goes") "goes" ::
  PySem.W.keepIn K (.ref (He.ga K "goes")) ::
  decide (PySem.W.nsIn K mainGlobals "free_drawers" = some (some (.ref (He.ga K "free_drawers")))) ::
  r
def b1 (K : HX.Fr) (r : List Bool) : List Bool :=
  HX.codeB K (He.ga K "free_drawers") "free_drawers" ::
  PySem.W.keepIn K (.ref (He.ga K "free_drawers")) ::
  decide (PySem.W.nsIn K mainGlobals "_law_hold" = some (some (.ref (He.ga K "_law_hold")))) ::
  HX.codeB K (He.ga K "_law_hold") "_law_hold" ::
  PySem.W.keepIn K (.ref (He.ga K "_law_hold")) ::
  decide (PySem.W.nsIn K mainGlobals "_law_pattern" = some (some (.ref (He.ga K "_law_pattern")))) ::
  HX.codeB K (He.ga K "_law_pattern") "_law_pattern" ::
  PySem.W.keepIn K (.ref (He.ga K "_law_pattern")) ::
  decide (PySem.W.nsIn K mainGlobals "has_signs" = some (some (.ref (He.ga K "has_signs")))) ::
  HX.codeB K (He.ga K "has_signs") "has_signs" ::
  PySem.W.keepIn K (.ref (He.ga K "has_signs")) ::
  decide (PySem.W.nsIn K mainGlobals "is_pattern" = some (some (.ref (He.ga K "is_pattern")))) ::
  HX.codeB K (He.ga K "is_pattern") "is_pattern" ::
  PySem.W.keepIn K (.ref (He.ga K "is_pattern")) ::
  decide (PySem.W.nsIn K mainGlobals "check_cabinet" = some (some (.ref (He.ga K "check_cabinet")))) ::
  HX.codeB K (He.ga K "check_cabinet") "check_cabinet" ::
  PySem.W.keepIn K (.ref (He.ga K "check_cabinet")) ::
  decide (PySem.W.nsIn K mainGlobals "check_pattern" = some (some (.ref (He.ga K "check_pattern")))) ::
  HX.codeB K (He.ga K "check_pattern") "check_pattern" ::
  PySem.W.keepIn K (.ref (He.ga K "check_pattern")) ::
  decide (PySem.W.nsIn K mainGlobals "first_standing" = some (some (.ref (He.ga K "first_standing")))) ::
  HX.codeB K (He.ga K "first_standing") "first_standing" ::
  PySem.W.keepIn K (.ref (He.ga K "first_standing")) ::
  decide (PySem.W.nsIn K mainGlobals "fits" = some (some (.ref (He.ga K "fits")))) ::
  HX.codeB K (He.ga K "fits") "fits" ::
  PySem.W.keepIn K (.ref (He.ga K "fits")) ::
  decide (PySem.W.nsIn K mainGlobals "end_of_row" = some (some (.ref (He.ga K "end_of_row")))) ::
  HX.codeB K (He.ga K "end_of_row") "end_of_row" ::
  PySem.W.keepIn K (.ref (He.ga K "end_of_row")) ::
  decide (PySem.W.nsIn K mainGlobals "right_row" = some (some (.ref (He.ga K "right_row")))) ::
  HX.codeB K (He.ga K "right_row") "right_row" ::
  PySem.W.keepIn K (.ref (He.ga K "right_row")) ::
  decide (PySem.W.nsIn K mainGlobals "rows_from" = some (some (.ref (He.ga K "rows_from")))) ::
  HX.codeB K (He.ga K "rows_from") "rows_from" ::
  PySem.W.keepIn K (.ref (He.ga K "rows_from")) ::
  decide (PySem.W.nsIn K mainGlobals "first_rows" = some (some (.ref (He.ga K "first_rows")))) ::
  HX.codeB K (He.ga K "first_rows") "first_rows" ::
  PySem.W.keepIn K (.ref (He.ga K "first_rows")) ::
  decide (PySem.W.nsIn K mainGlobals "first_row_to" = some (some (.ref (He.ga K "first_row_to")))) ::
  HX.codeB K (He.ga K "first_row_to") "first_row_to" ::
  r
def b2 (K : HX.Fr) (r : List Bool) : List Bool :=
  PySem.W.keepIn K (.ref (He.ga K "first_row_to")) ::
  decide (PySem.W.nsIn K mainGlobals "row_to" = some (some (.ref (He.ga K "row_to")))) ::
  HX.codeB K (He.ga K "row_to") "row_to" ::
  PySem.W.keepIn K (.ref (He.ga K "row_to")) ::
  decide (PySem.W.nsIn K mainGlobals "reached" = some (some (.ref (He.ga K "reached")))) ::
  HX.codeB K (He.ga K "reached") "reached" ::
  PySem.W.keepIn K (.ref (He.ga K "reached")) ::
  decide (PySem.W.nsIn K mainGlobals "_law_all" = some (some (.ref (He.ga K "_law_all")))) ::
  HX.codeB K (He.ga K "_law_all") "_law_all" ::
  PySem.W.keepIn K (.ref (He.ga K "_law_all")) ::
  decide (PySem.W.nsIn K mainGlobals "is_set" = some (some (.ref (He.ga K "is_set")))) ::
  HX.codeB K (He.ga K "is_set") "is_set" ::
  PySem.W.keepIn K (.ref (He.ga K "is_set")) ::
  decide (PySem.W.nsIn K mainGlobals "check_set" = some (some (.ref (He.ga K "check_set")))) ::
  HX.codeB K (He.ga K "check_set") "check_set" ::
  PySem.W.keepIn K (.ref (He.ga K "check_set")) ::
  decide (PySem.W.nsIn K mainGlobals "open_pattern" = some (some (.ref (He.ga K "open_pattern")))) ::
  HX.codeB K (He.ga K "open_pattern") "open_pattern" ::
  PySem.W.keepIn K (.ref (He.ga K "open_pattern")) ::
  decide (PySem.W.nsIn K mainGlobals "any_fits" = some (some (.ref (He.ga K "any_fits")))) ::
  HX.codeB K (He.ga K "any_fits") "any_fits" ::
  PySem.W.keepIn K (.ref (He.ga K "any_fits")) ::
  decide (PySem.W.nsIn K mainGlobals "open_together" = some (some (.ref (He.ga K "open_together")))) ::
  HX.codeB K (He.ga K "open_together") "open_together" ::
  PySem.W.keepIn K (.ref (He.ga K "open_together")) ::
  decide (PySem.W.nsIn K mainGlobals "open_count" = some (some (.ref (He.ga K "open_count")))) ::
  HX.codeB K (He.ga K "open_count") "open_count" ::
  PySem.W.keepIn K (.ref (He.ga K "open_count")) ::
  decide (PySem.W.nsIn K mainGlobals "most_open" = some (some (.ref (He.ga K "most_open")))) ::
  HX.codeB K (He.ga K "most_open") "most_open" ::
  PySem.W.keepIn K (.ref (He.ga K "most_open")) ::
  decide (PySem.W.nsIn K mainGlobals "barred_pulls" = some (some (.ref (He.ga K "barred_pulls")))) ::
  HX.codeB K (He.ga K "barred_pulls") "barred_pulls" ::
  PySem.W.keepIn K (.ref (He.ga K "barred_pulls")) ::
  decide (PySem.W.nsIn K mainGlobals "needless" = some (some (.ref (He.ga K "needless")))) ::
  HX.codeB K (He.ga K "needless") "needless" ::
  PySem.W.keepIn K (.ref (He.ga K "needless")) ::
  decide (PySem.W.nsIn K mainGlobals "paper" = some (some (.ref (He.ga K "paper")))) ::
  HX.codeB K (He.ga K "paper") "paper" ::
  PySem.W.keepIn K (.ref (He.ga K "paper")) ::
  r
def b3 (K : HX.Fr) (r : List Bool) : List Bool :=
  decide (PySem.W.nsIn K mainGlobals "reached_pulls" = some (some (.ref (He.ga K "reached_pulls")))) ::
  HX.codeB K (He.ga K "reached_pulls") "reached_pulls" ::
  PySem.W.keepIn K (.ref (He.ga K "reached_pulls")) ::
  decide (PySem.W.nsIn K mainGlobals "first_row_beside" = some (some (.ref (He.ga K "first_row_beside")))) ::
  HX.codeB K (He.ga K "first_row_beside") "first_row_beside" ::
  PySem.W.keepIn K (.ref (He.ga K "first_row_beside")) ::
  decide (PySem.W.nsIn K mainGlobals "leading_to" = some (some (.ref (He.ga K "leading_to")))) ::
  HX.codeB K (He.ga K "leading_to") "leading_to" ::
  PySem.W.keepIn K (.ref (He.ga K "leading_to")) ::
  decide (PySem.W.nsIn K mainGlobals "dead_end" = some (some (.ref (He.ga K "dead_end")))) ::
  HX.codeB K (He.ga K "dead_end") "dead_end" ::
  PySem.W.keepIn K (.ref (He.ga K "dead_end")) ::
  decide (PySem.W.nsIn K mainGlobals "no_return" = some (some (.ref (He.ga K "no_return")))) ::
  HX.codeB K (He.ga K "no_return") "no_return" ::
  PySem.W.keepIn K (.ref (He.ga K "no_return")) ::
  decide (PySem.W.nsIn K mainGlobals "meets_all" = some (some (.ref (He.ga K "meets_all")))) ::
  HX.codeB K (He.ga K "meets_all") "meets_all" ::
  PySem.W.keepIn K (.ref (He.ga K "meets_all")) ::
  decide (PySem.W.nsIn K mainGlobals "fewest_of_group" = some (some (.ref (He.ga K "fewest_of_group")))) ::
  HX.codeB K (He.ga K "fewest_of_group") "fewest_of_group" ::
  PySem.W.keepIn K (.ref (He.ga K "fewest_of_group")) ::
  decide (PySem.W.nsIn K mainGlobals "fewest_of_each" = some (some (.ref (He.ga K "fewest_of_each")))) ::
  HX.codeB K (He.ga K "fewest_of_each") "fewest_of_each" ::
  PySem.W.keepIn K (.ref (He.ga K "fewest_of_each")) ::
  decide (PySem.W.nsIn K mainGlobals "fewest_bars" = some (some (.ref (He.ga K "fewest_bars")))) ::
  HX.codeB K (He.ga K "fewest_bars") "fewest_bars" ::
  PySem.W.keepIn K (.ref (He.ga K "fewest_bars")) ::
  decide (PySem.W.nsIn K mainGlobals "check_number" = some (some (.ref (He.ga K "check_number")))) ::
  HX.codeB K (He.ga K "check_number") "check_number" ::
  PySem.W.keepIn K (.ref (He.ga K "check_number")) ::
  decide (PySem.W.nsIn K mainGlobals "counts_behind" = some (some (.ref (He.ga K "counts_behind")))) ::
  HX.codeB K (He.ga K "counts_behind") "counts_behind" ::
  PySem.W.keepIn K (.ref (He.ga K "counts_behind")) ::
  decide (PySem.W.nsIn K mainGlobals "counts_by_end" = some (some (.ref (He.ga K "counts_by_end")))) ::
  HX.codeB K (He.ga K "counts_by_end") "counts_by_end" ::
  PySem.W.keepIn K (.ref (He.ga K "counts_by_end")) ::
  decide (PySem.W.nsIn K mainGlobals "count_rows" = some (some (.ref (He.ga K "count_rows")))) ::
  HX.codeB K (He.ga K "count_rows") "count_rows" ::
  PySem.W.keepIn K (.ref (He.ga K "count_rows")) ::
  decide (PySem.W.nsIn K mainGlobals "count_to" = some (some (.ref (He.ga K "count_to")))) ::
  r
def b4 (K : HX.Fr) (r : List Bool) : List Bool :=
  HX.codeB K (He.ga K "count_to") "count_to" ::
  PySem.W.keepIn K (.ref (He.ga K "count_to")) ::
  decide (PySem.W.nsIn K mainGlobals "law" = some (some (.ref (He.ga K "law")))) ::
  HX.codeB K (He.ga K "law") "law" ::
  PySem.W.keepIn K (.ref (He.ga K "law")) ::
  decide (PySem.W.nsIn K mainGlobals "Cabinet" = some (some (.ref (He.ga K "Cabinet")))) ::
  PySem.W.plainGet K (He.ga K "Cabinet") Str.empty ::
  PySem.W.hasDictIn K (He.ga K "Cabinet") ::
  PySem.W.plainOver K (He.ga K "Cabinet") ::
  decide (PySem.W.findIn K (.ref (He.ga K "Cabinet")) "__setattr__" = some (some (.builtin "object.__setattr__"))) ::
  PySem.W.makesIn K (He.ga K "Cabinet") ::
  PySem.W.keepIn K (.ref (He.ga K "Cabinet")) ::
  decide (PySem.W.findIn K (.ref (He.ga K "Cabinet")) "_drawers" = some none) ::
  decide (PySem.W.findIn K (.ref (He.ga K "Cabinet")) "_bars" = some none) ::
  decide (PySem.W.findIn K (.ref (He.ga K "Cabinet")) "__init__" = some (some (.ref (He.ma K (He.ga K "Cabinet") "__init__")))) ::
  HX.codeB K (He.ma K (He.ga K "Cabinet") "__init__") "Cabinet.__init__" ::
  PySem.W.keepIn K (.ref (He.ma K (He.ga K "Cabinet") "__init__")) ::
  PySem.W.isFn K (.ref (He.ma K (He.ga K "Cabinet") "__init__")) ::
  decide (PySem.W.findIn K (.ref (He.ga K "Cabinet")) "drawers" = some (some (.ref (He.ma K (He.ga K "Cabinet") "drawers")))) ::
  decide (PySem.W.specialIn K (.ref (He.ma K (He.ga K "Cabinet") "drawers")) "__get__" = some (some (.builtin "property.__get__"))) ::
  decide (PySem.W.takesIn K (.ref (He.ma K (He.ga K "Cabinet") "drawers")) = some true) ::
  HX.prB K (He.ma K (He.ga K "Cabinet") "drawers") ::
  HX.codeB K (HX.prA K (He.ma K (He.ga K "Cabinet") "drawers")) "Cabinet.drawers" ::
  PySem.W.keepIn K (.ref (HX.prA K (He.ma K (He.ga K "Cabinet") "drawers"))) ::
  decide (PySem.W.findIn K (.ref (He.ga K "Cabinet")) "bars" = some (some (.ref (He.ma K (He.ga K "Cabinet") "bars")))) ::
  decide (PySem.W.specialIn K (.ref (He.ma K (He.ga K "Cabinet") "bars")) "__get__" = some (some (.builtin "property.__get__"))) ::
  decide (PySem.W.takesIn K (.ref (He.ma K (He.ga K "Cabinet") "bars")) = some true) ::
  HX.prB K (He.ma K (He.ga K "Cabinet") "bars") ::
  HX.codeB K (HX.prA K (He.ma K (He.ga K "Cabinet") "bars")) "Cabinet.bars" ::
  PySem.W.keepIn K (.ref (HX.prA K (He.ma K (He.ga K "Cabinet") "bars"))) ::
  decide (PySem.W.findIn K (.ref (He.ga K "Cabinet")) "__class__" = some (some (.builtin "object.__class__"))) ::
  decide (PySem.W.specialIn K (.builtin "object.__class__") "__get__" = some (some (.builtin "getset_descriptor.__get__"))) ::
  decide (PySem.W.takesIn K (.builtin "object.__class__") = some true) ::
  decide (PySem.W.mroIn K (He.ga K "Cabinet") (.type "object") = some true) ::
  decide (PySem.W.kitOne K (.ref (He.ga K "Cabinet")) (.ref (He.ga K "Cabinet")) = some true) ::
  decide (PySem.W.nsIn K mainGlobals "isinstance" = some none) ::
  decide (PySem.W.nsIn K mainGlobals "int" = some none) ::
  decide (PySem.W.nsIn K mainGlobals "bool" = some none) ::
  decide (PySem.W.nsIn K mainGlobals "tuple" = some none) ::
  decide (PySem.W.nsIn K mainGlobals "len" = some none) ::
  r
def b5 (K : HX.Fr) (r : List Bool) : List Bool :=
  decide (PySem.W.nsIn K mainGlobals "enumerate" = some none) ::
  decide (PySem.W.nsIn K mainGlobals "range" = some none) ::
  decide (PySem.W.nsIn K mainGlobals "sorted" = some none) ::
  decide (PySem.W.nsIn K mainGlobals "all" = some none) ::
  decide (PySem.W.nsIn K mainGlobals "zip" = some none) ::
  decide (PySem.W.nsIn K mainGlobals "list" = some none) ::
  decide (PySem.W.nsIn K mainGlobals "any" = some none) ::
  decide (PySem.W.nsIn K mainGlobals "max" = some none) ::
  decide (PySem.W.nsIn K mainGlobals "str" = some none) ::
  decide (PySem.W.nsIn K mainGlobals "sum" = some none) ::
  HX.intB K mainGlobals "MOST_DRAWERS" 7 ::
  decide (PySem.W.nsIn K mainGlobals "WORDS" = some (some (.ref (He.ga K "WORDS")))) ::
  HX.tup2B K (He.ga K "WORDS") "open" "shut" ::
  decide (PySem.W.nsIn K mainGlobals "SIGNS" = some (some (.ref (He.ga K "SIGNS")))) ::
  HX.strB K (He.ga K "SIGNS") "open" "o" ::
  HX.strB K (He.ga K "SIGNS") "shut" "s" ::
  HX.strB K mainGlobals "PATTERN_SIGNS" "os?" ::
  decide (PySem.W.nsIn K mainGlobals "combinations" = some (some (.type "itertools.combinations"))) ::
  HX.intB K mainGlobals "MOST_PULLS" 60 ::
  r
def bs (K : HX.Fr) : List Bool := b0 K (b1 K (b2 K (b3 K (b4 K (b5 K ([]))))))
def fn : List HX.FD := fd0 :: fd1 :: fd2 :: fd3 :: fd4 :: fd5 :: fd6 :: fd7 :: fd8 :: fd9 :: fd10 :: fd11 :: fd12 :: fd13 :: fd14 :: fd15 :: fd16 :: fd17 :: fd18 :: fd19 :: fd20 :: fd21 :: fd22 :: fd23 :: fd24 :: fd25 :: fd26 :: fd27 :: fd28 :: fd29 :: fd30 :: fd31 :: fd32 :: fd33 :: fd34 :: fd35 :: fd36 :: fd37 :: fd38 :: fd39 :: fd40 :: fd41 :: fd42 :: fd43 :: fd44 :: fd45 :: fd46 :: fd47 :: fd48 :: fd49 :: fd50 :: fd51 :: fd52 :: fd53 :: fd54 :: fd55 :: fd56 :: fd57 :: []
def L : HX.Look := ⟨bs, fn, fun K => He.ga K "SIGNS", ["open", "shut"]⟩
abbrev hk : PySem.W.Hook := HX.Look.hook 6 L
def ob (s : PySem.W.SharedT) : HX.AlX := HX.Look.ob 6 L s
theorem ob_eq (s : PySem.W.SharedT) : ob s = hk.obs s.abs := HX.Look.ob_eq 6 L s
theorem run0 (w : World) : HandSHeadRun.RunEqI R (PySem.W.view R.prog [0, 77]) hk ob 60000 loose (w.withFollow "special-get-raises" false) := by unfold HandSHeadRun.RunEqI; kernel_rfl
theorem run1 (w : World) : HandSHeadRun.RunEqI R (PySem.W.view R.prog [0, 77]) hk ob 60000 loose (w.withFollow "special-get-raises" true) := by unfold HandSHeadRun.RunEqI; kernel_rfl
theorem run (w : World) : HandSHeadRun.RunEqI R (PySem.W.view R.prog [0, 77]) hk ob 60000 loose w :=
  PySem.W.byRow2 "special-get-raises" (P := fun w => HandSHeadRun.RunEqI R (PySem.W.view R.prog [0, 77]) hk ob 60000 loose w) run0 run1 w
theorem facts {w : World} {K : HX.Fr} {h : Heap} {mg : Str → Option Value} {fa : Addr} (KX : K.In h) (G : h.Ns mainGlobals mg) (hmg : mg "law" = some (.ref fa)) (c : L.obs K = L.val w) :
    ∃ fd : FuncData, (∀ (s : Shared) (v : Value), BindsTo s fd ⟨[v], []⟩ [("_law_script", v)]) ∧ ∀ base : Heap, K.In base → base.Ns mainGlobals mg → FnOk (PySem.Challenge.rw_drawerlocks_k27_what_holds).prog w K mg base CX0 20 fa fd ["_law_script"] (spLaw K) := by
  have a_is_integer : PySem.W.nsIn K mainGlobals "is_integer" = some (some (.ref (He.ga K "is_integer"))) := HX.Look.eq c 0 rfl
  obtain ⟨_, _, _, _, _, _, _, _, _, l_is_integer, c_is_integer⟩ := HX.fd_plain (d := fd0) rfl (HX.Look.def_ c 0 rfl) (HX.Look.bit c 1 rfl)
  have k_is_integer : PySem.W.keepIn K (.ref (He.ga K "is_integer")) = true := HX.Look.bit c 2 rfl
  have a_is_drawer_count : PySem.W.nsIn K mainGlobals "is_drawer_count" = some (some (.ref (He.ga K "is_drawer_count"))) := HX.Look.eq c 3 rfl
  obtain ⟨_, _, _, _, _, _, _, _, _, l_is_drawer_count, c_is_drawer_count⟩ := HX.fd_plain (d := fd1) rfl (HX.Look.def_ c 1 rfl) (HX.Look.bit c 4 rfl)
  have k_is_drawer_count : PySem.W.keepIn K (.ref (He.ga K "is_drawer_count")) = true := HX.Look.bit c 5 rfl
  have a_is_drawer : PySem.W.nsIn K mainGlobals "is_drawer" = some (some (.ref (He.ga K "is_drawer"))) := HX.Look.eq c 6 rfl
  obtain ⟨_, _, _, _, _, _, _, _, _, l_is_drawer, c_is_drawer⟩ := HX.fd_plain (d := fd2) rfl (HX.Look.def_ c 2 rfl) (HX.Look.bit c 7 rfl)
  have k_is_drawer : PySem.W.keepIn K (.ref (He.ga K "is_drawer")) = true := HX.Look.bit c 8 rfl
  have a_is_bar : PySem.W.nsIn K mainGlobals "is_bar" = some (some (.ref (He.ga K "is_bar"))) := HX.Look.eq c 9 rfl
  obtain ⟨_, _, _, _, _, _, _, _, _, l_is_bar, c_is_bar⟩ := HX.fd_plain (d := fd3) rfl (HX.Look.def_ c 3 rfl) (HX.Look.bit c 10 rfl)
  have k_is_bar : PySem.W.keepIn K (.ref (He.ga K "is_bar")) = true := HX.Look.bit c 11 rfl
  have a_check_drawers : PySem.W.nsIn K mainGlobals "check_drawers" = some (some (.ref (He.ga K "check_drawers"))) := HX.Look.eq c 12 rfl
  obtain ⟨_, _, _, _, _, _, _, _, _, l_check_drawers, c_check_drawers⟩ := HX.fd_plain (d := fd4) rfl (HX.Look.def_ c 4 rfl) (HX.Look.bit c 13 rfl)
  have k_check_drawers : PySem.W.keepIn K (.ref (He.ga K "check_drawers")) = true := HX.Look.bit c 14 rfl
  have a_check_bars : PySem.W.nsIn K mainGlobals "check_bars" = some (some (.ref (He.ga K "check_bars"))) := HX.Look.eq c 15 rfl
  obtain ⟨_, _, _, _, _, _, _, _, _, l_check_bars, c_check_bars⟩ := HX.fd_plain (d := fd5) rfl (HX.Look.def_ c 5 rfl) (HX.Look.bit c 16 rfl)
  have k_check_bars : PySem.W.keepIn K (.ref (He.ga K "check_bars")) = true := HX.Look.bit c 17 rfl
  have a__law_taken : PySem.W.nsIn K mainGlobals "_law_taken" = some (some (.ref (He.ga K "_law_taken"))) := HX.Look.eq c 18 rfl
  obtain ⟨_, _, _, _, _, _, _, _, _, l__law_taken, c__law_taken⟩ := HX.fd_plain (d := fd6) rfl (HX.Look.def_ c 6 rfl) (HX.Look.bit c 19 rfl)
  have k__law_taken : PySem.W.keepIn K (.ref (He.ga K "_law_taken")) = true := HX.Look.bit c 20 rfl
  have a__law_parts : PySem.W.nsIn K mainGlobals "_law_parts" = some (some (.ref (He.ga K "_law_parts"))) := HX.Look.eq c 21 rfl
  obtain ⟨_, _, _, _, _, _, _, _, _, l__law_parts, c__law_parts⟩ := HX.fd_plain (d := fd7) rfl (HX.Look.def_ c 7 rfl) (HX.Look.bit c 22 rfl)
  have k__law_parts : PySem.W.keepIn K (.ref (He.ga K "_law_parts")) = true := HX.Look.bit c 23 rfl
  have a__law_made : PySem.W.nsIn K mainGlobals "_law_made" = some (some (.ref (He.ga K "_law_made"))) := HX.Look.eq c 24 rfl
  obtain ⟨_, _, _, _, _, _, _, _, _, l__law_made, c__law_made⟩ := HX.fd_plain (d := fd8) rfl (HX.Look.def_ c 8 rfl) (HX.Look.bit c 25 rfl)
  have k__law_made : PySem.W.keepIn K (.ref (He.ga K "_law_made")) = true := HX.Look.bit c 26 rfl
  have a_hinders : PySem.W.nsIn K mainGlobals "hinders" = some (some (.ref (He.ga K "hinders"))) := HX.Look.eq c 27 rfl
  obtain ⟨_, _, _, _, _, _, _, _, _, l_hinders, c_hinders⟩ := HX.fd_plain (d := fd9) rfl (HX.Look.def_ c 9 rfl) (HX.Look.bit c 28 rfl)
  have k_hinders : PySem.W.keepIn K (.ref (He.ga K "hinders")) = true := HX.Look.bit c 29 rfl
  have a_moved : PySem.W.nsIn K mainGlobals "moved" = some (some (.ref (He.ga K "moved"))) := HX.Look.eq c 30 rfl
  obtain ⟨_, _, _, _, _, _, _, _, _, l_moved, c_moved⟩ := HX.fd_plain (d := fd10) rfl (HX.Look.def_ c 10 rfl) (HX.Look.bit c 31 rfl)
  have k_moved : PySem.W.keepIn K (.ref (He.ga K "moved")) = true := HX.Look.bit c 32 rfl
  have a_bars_against : PySem.W.nsIn K mainGlobals "bars_against" = some (some (.ref (He.ga K "bars_against"))) := HX.Look.eq c 33 rfl
  obtain ⟨_, _, _, _, _, _, _, _, _, l_bars_against, c_bars_against⟩ := HX.fd_plain (d := fd11) rfl (HX.Look.def_ c 11 rfl) (HX.Look.bit c 34 rfl)
  have k_bars_against : PySem.W.keepIn K (.ref (He.ga K "bars_against")) = true := HX.Look.bit c 35 rfl
  have a_goes : PySem.W.nsIn K mainGlobals "goes" = some (some (.ref (He.ga K "goes"))) := HX.Look.eq c 36 rfl
  obtain ⟨_, _, _, _, _, _, _, _, _, l_goes, c_goes⟩ := HX.fd_plain (d := fd12) rfl (HX.Look.def_ c 12 rfl) (HX.Look.bit c 37 rfl)
  have k_goes : PySem.W.keepIn K (.ref (He.ga K "goes")) = true := HX.Look.bit c 38 rfl
  have a_free_drawers : PySem.W.nsIn K mainGlobals "free_drawers" = some (some (.ref (He.ga K "free_drawers"))) := HX.Look.eq c 39 rfl
  obtain ⟨_, _, _, _, _, _, _, _, _, l_free_drawers, c_free_drawers⟩ := HX.fd_plain (d := fd13) rfl (HX.Look.def_ c 13 rfl) (HX.Look.bit c 40 rfl)
  have k_free_drawers : PySem.W.keepIn K (.ref (He.ga K "free_drawers")) = true := HX.Look.bit c 41 rfl
  have a__law_hold : PySem.W.nsIn K mainGlobals "_law_hold" = some (some (.ref (He.ga K "_law_hold"))) := HX.Look.eq c 42 rfl
  obtain ⟨_, _, _, _, _, _, _, _, _, l__law_hold, c__law_hold⟩ := HX.fd_plain (d := fd14) rfl (HX.Look.def_ c 14 rfl) (HX.Look.bit c 43 rfl)
  have k__law_hold : PySem.W.keepIn K (.ref (He.ga K "_law_hold")) = true := HX.Look.bit c 44 rfl
  have a__law_pattern : PySem.W.nsIn K mainGlobals "_law_pattern" = some (some (.ref (He.ga K "_law_pattern"))) := HX.Look.eq c 45 rfl
  obtain ⟨_, _, _, _, _, _, _, _, _, l__law_pattern, c__law_pattern⟩ := HX.fd_plain (d := fd15) rfl (HX.Look.def_ c 15 rfl) (HX.Look.bit c 46 rfl)
  have k__law_pattern : PySem.W.keepIn K (.ref (He.ga K "_law_pattern")) = true := HX.Look.bit c 47 rfl
  have a_has_signs : PySem.W.nsIn K mainGlobals "has_signs" = some (some (.ref (He.ga K "has_signs"))) := HX.Look.eq c 48 rfl
  obtain ⟨_, _, _, _, _, _, _, _, _, l_has_signs, c_has_signs⟩ := HX.fd_plain (d := fd16) rfl (HX.Look.def_ c 16 rfl) (HX.Look.bit c 49 rfl)
  have k_has_signs : PySem.W.keepIn K (.ref (He.ga K "has_signs")) = true := HX.Look.bit c 50 rfl
  have a_is_pattern : PySem.W.nsIn K mainGlobals "is_pattern" = some (some (.ref (He.ga K "is_pattern"))) := HX.Look.eq c 51 rfl
  obtain ⟨_, _, _, _, _, _, _, _, _, l_is_pattern, c_is_pattern⟩ := HX.fd_plain (d := fd17) rfl (HX.Look.def_ c 17 rfl) (HX.Look.bit c 52 rfl)
  have k_is_pattern : PySem.W.keepIn K (.ref (He.ga K "is_pattern")) = true := HX.Look.bit c 53 rfl
  have a_check_cabinet : PySem.W.nsIn K mainGlobals "check_cabinet" = some (some (.ref (He.ga K "check_cabinet"))) := HX.Look.eq c 54 rfl
  obtain ⟨_, _, _, _, _, _, _, _, _, l_check_cabinet, c_check_cabinet⟩ := HX.fd_plain (d := fd18) rfl (HX.Look.def_ c 18 rfl) (HX.Look.bit c 55 rfl)
  have k_check_cabinet : PySem.W.keepIn K (.ref (He.ga K "check_cabinet")) = true := HX.Look.bit c 56 rfl
  have a_check_pattern : PySem.W.nsIn K mainGlobals "check_pattern" = some (some (.ref (He.ga K "check_pattern"))) := HX.Look.eq c 57 rfl
  obtain ⟨_, _, _, _, _, _, _, _, _, l_check_pattern, c_check_pattern⟩ := HX.fd_plain (d := fd19) rfl (HX.Look.def_ c 19 rfl) (HX.Look.bit c 58 rfl)
  have k_check_pattern : PySem.W.keepIn K (.ref (He.ga K "check_pattern")) = true := HX.Look.bit c 59 rfl
  have a_first_standing : PySem.W.nsIn K mainGlobals "first_standing" = some (some (.ref (He.ga K "first_standing"))) := HX.Look.eq c 60 rfl
  obtain ⟨_, _, _, _, _, _, _, _, _, l_first_standing, c_first_standing⟩ := HX.fd_plain (d := fd20) rfl (HX.Look.def_ c 20 rfl) (HX.Look.bit c 61 rfl)
  have k_first_standing : PySem.W.keepIn K (.ref (He.ga K "first_standing")) = true := HX.Look.bit c 62 rfl
  have a_fits : PySem.W.nsIn K mainGlobals "fits" = some (some (.ref (He.ga K "fits"))) := HX.Look.eq c 63 rfl
  obtain ⟨_, _, _, _, _, _, _, _, _, l_fits, c_fits⟩ := HX.fd_plain (d := fd21) rfl (HX.Look.def_ c 21 rfl) (HX.Look.bit c 64 rfl)
  have k_fits : PySem.W.keepIn K (.ref (He.ga K "fits")) = true := HX.Look.bit c 65 rfl
  have a_end_of_row : PySem.W.nsIn K mainGlobals "end_of_row" = some (some (.ref (He.ga K "end_of_row"))) := HX.Look.eq c 66 rfl
  obtain ⟨_, _, _, _, _, _, _, _, _, l_end_of_row, c_end_of_row⟩ := HX.fd_plain (d := fd22) rfl (HX.Look.def_ c 22 rfl) (HX.Look.bit c 67 rfl)
  have k_end_of_row : PySem.W.keepIn K (.ref (He.ga K "end_of_row")) = true := HX.Look.bit c 68 rfl
  have a_right_row : PySem.W.nsIn K mainGlobals "right_row" = some (some (.ref (He.ga K "right_row"))) := HX.Look.eq c 69 rfl
  obtain ⟨_, _, _, _, _, _, _, _, _, l_right_row, c_right_row⟩ := HX.fd_plain (d := fd23) rfl (HX.Look.def_ c 23 rfl) (HX.Look.bit c 70 rfl)
  have k_right_row : PySem.W.keepIn K (.ref (He.ga K "right_row")) = true := HX.Look.bit c 71 rfl
  have a_rows_from : PySem.W.nsIn K mainGlobals "rows_from" = some (some (.ref (He.ga K "rows_from"))) := HX.Look.eq c 72 rfl
  obtain ⟨_, _, _, _, _, _, _, _, _, l_rows_from, c_rows_from⟩ := HX.fd_plain (d := fd24) rfl (HX.Look.def_ c 24 rfl) (HX.Look.bit c 73 rfl)
  have k_rows_from : PySem.W.keepIn K (.ref (He.ga K "rows_from")) = true := HX.Look.bit c 74 rfl
  have a_first_rows : PySem.W.nsIn K mainGlobals "first_rows" = some (some (.ref (He.ga K "first_rows"))) := HX.Look.eq c 75 rfl
  obtain ⟨_, _, _, _, _, _, _, _, _, l_first_rows, c_first_rows⟩ := HX.fd_plain (d := fd25) rfl (HX.Look.def_ c 25 rfl) (HX.Look.bit c 76 rfl)
  have k_first_rows : PySem.W.keepIn K (.ref (He.ga K "first_rows")) = true := HX.Look.bit c 77 rfl
  have a_first_row_to : PySem.W.nsIn K mainGlobals "first_row_to" = some (some (.ref (He.ga K "first_row_to"))) := HX.Look.eq c 78 rfl
  obtain ⟨_, _, _, _, _, _, _, _, _, l_first_row_to, c_first_row_to⟩ := HX.fd_plain (d := fd26) rfl (HX.Look.def_ c 26 rfl) (HX.Look.bit c 79 rfl)
  have k_first_row_to : PySem.W.keepIn K (.ref (He.ga K "first_row_to")) = true := HX.Look.bit c 80 rfl
  have a_row_to : PySem.W.nsIn K mainGlobals "row_to" = some (some (.ref (He.ga K "row_to"))) := HX.Look.eq c 81 rfl
  obtain ⟨_, _, _, _, _, _, _, _, _, l_row_to, c_row_to⟩ := HX.fd_plain (d := fd27) rfl (HX.Look.def_ c 27 rfl) (HX.Look.bit c 82 rfl)
  have k_row_to : PySem.W.keepIn K (.ref (He.ga K "row_to")) = true := HX.Look.bit c 83 rfl
  have a_reached : PySem.W.nsIn K mainGlobals "reached" = some (some (.ref (He.ga K "reached"))) := HX.Look.eq c 84 rfl
  obtain ⟨_, _, _, _, _, _, _, _, _, l_reached, c_reached⟩ := HX.fd_plain (d := fd28) rfl (HX.Look.def_ c 28 rfl) (HX.Look.bit c 85 rfl)
  have k_reached : PySem.W.keepIn K (.ref (He.ga K "reached")) = true := HX.Look.bit c 86 rfl
  have a__law_all : PySem.W.nsIn K mainGlobals "_law_all" = some (some (.ref (He.ga K "_law_all"))) := HX.Look.eq c 87 rfl
  obtain ⟨_, _, _, _, _, _, _, _, _, l__law_all, c__law_all⟩ := HX.fd_plain (d := fd29) rfl (HX.Look.def_ c 29 rfl) (HX.Look.bit c 88 rfl)
  have k__law_all : PySem.W.keepIn K (.ref (He.ga K "_law_all")) = true := HX.Look.bit c 89 rfl
  have a_is_set : PySem.W.nsIn K mainGlobals "is_set" = some (some (.ref (He.ga K "is_set"))) := HX.Look.eq c 90 rfl
  obtain ⟨_, _, _, _, _, _, _, _, _, l_is_set, c_is_set⟩ := HX.fd_plain (d := fd30) rfl (HX.Look.def_ c 30 rfl) (HX.Look.bit c 91 rfl)
  have k_is_set : PySem.W.keepIn K (.ref (He.ga K "is_set")) = true := HX.Look.bit c 92 rfl
  have a_check_set : PySem.W.nsIn K mainGlobals "check_set" = some (some (.ref (He.ga K "check_set"))) := HX.Look.eq c 93 rfl
  obtain ⟨_, _, _, _, _, _, _, _, _, l_check_set, c_check_set⟩ := HX.fd_plain (d := fd31) rfl (HX.Look.def_ c 31 rfl) (HX.Look.bit c 94 rfl)
  have k_check_set : PySem.W.keepIn K (.ref (He.ga K "check_set")) = true := HX.Look.bit c 95 rfl
  have a_open_pattern : PySem.W.nsIn K mainGlobals "open_pattern" = some (some (.ref (He.ga K "open_pattern"))) := HX.Look.eq c 96 rfl
  obtain ⟨_, _, _, _, _, _, _, _, _, l_open_pattern, c_open_pattern⟩ := HX.fd_plain (d := fd32) rfl (HX.Look.def_ c 32 rfl) (HX.Look.bit c 97 rfl)
  have k_open_pattern : PySem.W.keepIn K (.ref (He.ga K "open_pattern")) = true := HX.Look.bit c 98 rfl
  have a_any_fits : PySem.W.nsIn K mainGlobals "any_fits" = some (some (.ref (He.ga K "any_fits"))) := HX.Look.eq c 99 rfl
  obtain ⟨_, _, _, _, _, _, _, _, _, l_any_fits, c_any_fits⟩ := HX.fd_plain (d := fd33) rfl (HX.Look.def_ c 33 rfl) (HX.Look.bit c 100 rfl)
  have k_any_fits : PySem.W.keepIn K (.ref (He.ga K "any_fits")) = true := HX.Look.bit c 101 rfl
  have a_open_together : PySem.W.nsIn K mainGlobals "open_together" = some (some (.ref (He.ga K "open_together"))) := HX.Look.eq c 102 rfl
  obtain ⟨_, _, _, _, _, _, _, _, _, l_open_together, c_open_together⟩ := HX.fd_plain (d := fd34) rfl (HX.Look.def_ c 34 rfl) (HX.Look.bit c 103 rfl)
  have k_open_together : PySem.W.keepIn K (.ref (He.ga K "open_together")) = true := HX.Look.bit c 104 rfl
  have a_open_count : PySem.W.nsIn K mainGlobals "open_count" = some (some (.ref (He.ga K "open_count"))) := HX.Look.eq c 105 rfl
  obtain ⟨_, _, _, _, _, _, _, _, _, l_open_count, c_open_count⟩ := HX.fd_plain (d := fd35) rfl (HX.Look.def_ c 35 rfl) (HX.Look.bit c 106 rfl)
  have k_open_count : PySem.W.keepIn K (.ref (He.ga K "open_count")) = true := HX.Look.bit c 107 rfl
  have a_most_open : PySem.W.nsIn K mainGlobals "most_open" = some (some (.ref (He.ga K "most_open"))) := HX.Look.eq c 108 rfl
  obtain ⟨_, _, _, _, _, _, _, _, _, l_most_open, c_most_open⟩ := HX.fd_plain (d := fd36) rfl (HX.Look.def_ c 36 rfl) (HX.Look.bit c 109 rfl)
  have k_most_open : PySem.W.keepIn K (.ref (He.ga K "most_open")) = true := HX.Look.bit c 110 rfl
  have a_barred_pulls : PySem.W.nsIn K mainGlobals "barred_pulls" = some (some (.ref (He.ga K "barred_pulls"))) := HX.Look.eq c 111 rfl
  obtain ⟨_, _, _, _, _, _, _, _, _, l_barred_pulls, c_barred_pulls⟩ := HX.fd_plain (d := fd37) rfl (HX.Look.def_ c 37 rfl) (HX.Look.bit c 112 rfl)
  have k_barred_pulls : PySem.W.keepIn K (.ref (He.ga K "barred_pulls")) = true := HX.Look.bit c 113 rfl
  have a_needless : PySem.W.nsIn K mainGlobals "needless" = some (some (.ref (He.ga K "needless"))) := HX.Look.eq c 114 rfl
  obtain ⟨_, _, _, _, _, _, _, _, _, l_needless, c_needless⟩ := HX.fd_plain (d := fd38) rfl (HX.Look.def_ c 38 rfl) (HX.Look.bit c 115 rfl)
  have k_needless : PySem.W.keepIn K (.ref (He.ga K "needless")) = true := HX.Look.bit c 116 rfl
  have a_paper : PySem.W.nsIn K mainGlobals "paper" = some (some (.ref (He.ga K "paper"))) := HX.Look.eq c 117 rfl
  obtain ⟨_, _, _, _, _, _, _, _, _, l_paper, c_paper⟩ := HX.fd_plain (d := fd39) rfl (HX.Look.def_ c 39 rfl) (HX.Look.bit c 118 rfl)
  have k_paper : PySem.W.keepIn K (.ref (He.ga K "paper")) = true := HX.Look.bit c 119 rfl
  have a_reached_pulls : PySem.W.nsIn K mainGlobals "reached_pulls" = some (some (.ref (He.ga K "reached_pulls"))) := HX.Look.eq c 120 rfl
  obtain ⟨_, _, _, _, _, _, _, _, _, l_reached_pulls, c_reached_pulls⟩ := HX.fd_plain (d := fd40) rfl (HX.Look.def_ c 40 rfl) (HX.Look.bit c 121 rfl)
  have k_reached_pulls : PySem.W.keepIn K (.ref (He.ga K "reached_pulls")) = true := HX.Look.bit c 122 rfl
  have a_first_row_beside : PySem.W.nsIn K mainGlobals "first_row_beside" = some (some (.ref (He.ga K "first_row_beside"))) := HX.Look.eq c 123 rfl
  obtain ⟨_, _, _, _, _, _, _, _, _, l_first_row_beside, c_first_row_beside⟩ := HX.fd_plain (d := fd41) rfl (HX.Look.def_ c 41 rfl) (HX.Look.bit c 124 rfl)
  have k_first_row_beside : PySem.W.keepIn K (.ref (He.ga K "first_row_beside")) = true := HX.Look.bit c 125 rfl
  have a_leading_to : PySem.W.nsIn K mainGlobals "leading_to" = some (some (.ref (He.ga K "leading_to"))) := HX.Look.eq c 126 rfl
  obtain ⟨_, _, _, _, _, _, _, _, _, l_leading_to, c_leading_to⟩ := HX.fd_plain (d := fd42) rfl (HX.Look.def_ c 42 rfl) (HX.Look.bit c 127 rfl)
  have k_leading_to : PySem.W.keepIn K (.ref (He.ga K "leading_to")) = true := HX.Look.bit c 128 rfl
  have a_dead_end : PySem.W.nsIn K mainGlobals "dead_end" = some (some (.ref (He.ga K "dead_end"))) := HX.Look.eq c 129 rfl
  obtain ⟨_, _, _, _, _, _, _, _, _, l_dead_end, c_dead_end⟩ := HX.fd_plain (d := fd43) rfl (HX.Look.def_ c 43 rfl) (HX.Look.bit c 130 rfl)
  have k_dead_end : PySem.W.keepIn K (.ref (He.ga K "dead_end")) = true := HX.Look.bit c 131 rfl
  have a_no_return : PySem.W.nsIn K mainGlobals "no_return" = some (some (.ref (He.ga K "no_return"))) := HX.Look.eq c 132 rfl
  obtain ⟨_, _, _, _, _, _, _, _, _, l_no_return, c_no_return⟩ := HX.fd_plain (d := fd44) rfl (HX.Look.def_ c 44 rfl) (HX.Look.bit c 133 rfl)
  have k_no_return : PySem.W.keepIn K (.ref (He.ga K "no_return")) = true := HX.Look.bit c 134 rfl
  have a_meets_all : PySem.W.nsIn K mainGlobals "meets_all" = some (some (.ref (He.ga K "meets_all"))) := HX.Look.eq c 135 rfl
  obtain ⟨_, _, _, _, _, _, _, _, _, l_meets_all, c_meets_all⟩ := HX.fd_plain (d := fd45) rfl (HX.Look.def_ c 45 rfl) (HX.Look.bit c 136 rfl)
  have k_meets_all : PySem.W.keepIn K (.ref (He.ga K "meets_all")) = true := HX.Look.bit c 137 rfl
  have a_fewest_of_group : PySem.W.nsIn K mainGlobals "fewest_of_group" = some (some (.ref (He.ga K "fewest_of_group"))) := HX.Look.eq c 138 rfl
  obtain ⟨_, _, _, _, _, _, _, _, _, l_fewest_of_group, c_fewest_of_group⟩ := HX.fd_plain (d := fd46) rfl (HX.Look.def_ c 46 rfl) (HX.Look.bit c 139 rfl)
  have k_fewest_of_group : PySem.W.keepIn K (.ref (He.ga K "fewest_of_group")) = true := HX.Look.bit c 140 rfl
  have a_fewest_of_each : PySem.W.nsIn K mainGlobals "fewest_of_each" = some (some (.ref (He.ga K "fewest_of_each"))) := HX.Look.eq c 141 rfl
  obtain ⟨_, _, _, _, _, _, _, _, _, l_fewest_of_each, c_fewest_of_each⟩ := HX.fd_plain (d := fd47) rfl (HX.Look.def_ c 47 rfl) (HX.Look.bit c 142 rfl)
  have k_fewest_of_each : PySem.W.keepIn K (.ref (He.ga K "fewest_of_each")) = true := HX.Look.bit c 143 rfl
  have a_fewest_bars : PySem.W.nsIn K mainGlobals "fewest_bars" = some (some (.ref (He.ga K "fewest_bars"))) := HX.Look.eq c 144 rfl
  obtain ⟨_, _, _, _, _, _, _, _, _, l_fewest_bars, c_fewest_bars⟩ := HX.fd_plain (d := fd48) rfl (HX.Look.def_ c 48 rfl) (HX.Look.bit c 145 rfl)
  have k_fewest_bars : PySem.W.keepIn K (.ref (He.ga K "fewest_bars")) = true := HX.Look.bit c 146 rfl
  have a_check_number : PySem.W.nsIn K mainGlobals "check_number" = some (some (.ref (He.ga K "check_number"))) := HX.Look.eq c 147 rfl
  obtain ⟨_, _, _, _, _, _, _, _, _, l_check_number, c_check_number⟩ := HX.fd_plain (d := fd49) rfl (HX.Look.def_ c 49 rfl) (HX.Look.bit c 148 rfl)
  have k_check_number : PySem.W.keepIn K (.ref (He.ga K "check_number")) = true := HX.Look.bit c 149 rfl
  have a_counts_behind : PySem.W.nsIn K mainGlobals "counts_behind" = some (some (.ref (He.ga K "counts_behind"))) := HX.Look.eq c 150 rfl
  obtain ⟨_, _, _, _, _, _, _, _, _, l_counts_behind, c_counts_behind⟩ := HX.fd_plain (d := fd50) rfl (HX.Look.def_ c 50 rfl) (HX.Look.bit c 151 rfl)
  have k_counts_behind : PySem.W.keepIn K (.ref (He.ga K "counts_behind")) = true := HX.Look.bit c 152 rfl
  have a_counts_by_end : PySem.W.nsIn K mainGlobals "counts_by_end" = some (some (.ref (He.ga K "counts_by_end"))) := HX.Look.eq c 153 rfl
  obtain ⟨_, _, _, _, _, _, _, _, _, l_counts_by_end, c_counts_by_end⟩ := HX.fd_plain (d := fd51) rfl (HX.Look.def_ c 51 rfl) (HX.Look.bit c 154 rfl)
  have k_counts_by_end : PySem.W.keepIn K (.ref (He.ga K "counts_by_end")) = true := HX.Look.bit c 155 rfl
  have a_count_rows : PySem.W.nsIn K mainGlobals "count_rows" = some (some (.ref (He.ga K "count_rows"))) := HX.Look.eq c 156 rfl
  obtain ⟨_, _, _, _, _, _, _, _, _, l_count_rows, c_count_rows⟩ := HX.fd_plain (d := fd52) rfl (HX.Look.def_ c 52 rfl) (HX.Look.bit c 157 rfl)
  have k_count_rows : PySem.W.keepIn K (.ref (He.ga K "count_rows")) = true := HX.Look.bit c 158 rfl
  have a_count_to : PySem.W.nsIn K mainGlobals "count_to" = some (some (.ref (He.ga K "count_to"))) := HX.Look.eq c 159 rfl
  obtain ⟨_, _, _, _, _, _, _, _, _, l_count_to, c_count_to⟩ := HX.fd_plain (d := fd53) rfl (HX.Look.def_ c 53 rfl) (HX.Look.bit c 160 rfl)
  have k_count_to : PySem.W.keepIn K (.ref (He.ga K "count_to")) = true := HX.Look.bit c 161 rfl
  have a_law : PySem.W.nsIn K mainGlobals "law" = some (some (.ref (He.ga K "law"))) := HX.Look.eq c 162 rfl
  obtain ⟨_, _, _, _, _, _, _, _, _, l_law, c_law⟩ := HX.fd_plain (d := fd54) rfl (HX.Look.def_ c 54 rfl) (HX.Look.bit c 163 rfl)
  have k_law : PySem.W.keepIn K (.ref (He.ga K "law")) = true := HX.Look.bit c 164 rfl
  have aC : PySem.W.nsIn K mainGlobals "Cabinet" = some (some (.ref (He.ga K "Cabinet"))) := HX.Look.eq c 165 rfl
  have pg : PySem.W.plainGet K (He.ga K "Cabinet") Str.empty = true := HX.Look.bit c 166 rfl
  have hd : PySem.W.hasDictIn K (He.ga K "Cabinet") = true := HX.Look.bit c 167 rfl
  have po : PySem.W.plainOver K (He.ga K "Cabinet") = true := HX.Look.bit c 168 rfl
  have sa : PySem.W.findIn K (.ref (He.ga K "Cabinet")) "__setattr__" = some (some (.builtin "object.__setattr__")) := HX.Look.eq c 169 rfl
  have mk : PySem.W.makesIn K (He.ga K "Cabinet") = true := HX.Look.bit c 170 rfl
  have kc : PySem.W.keepIn K (.ref (He.ga K "Cabinet")) = true := HX.Look.bit c 171 rfl
  have nD : PySem.W.findIn K (.ref (He.ga K "Cabinet")) "_drawers" = some none := HX.Look.eq c 172 rfl
  have nB : PySem.W.findIn K (.ref (He.ga K "Cabinet")) "_bars" = some none := HX.Look.eq c 173 rfl
  have a_Cabinet___init__ : PySem.W.findIn K (.ref (He.ga K "Cabinet")) "__init__" = some (some (.ref (He.ma K (He.ga K "Cabinet") "__init__"))) := HX.Look.eq c 174 rfl
  obtain ⟨_, _, _, _, _, _, _, _, _, l_Cabinet___init__, c_Cabinet___init__⟩ := HX.fd_plain (d := fd55) rfl (HX.Look.def_ c 55 rfl) (HX.Look.bit c 175 rfl)
  have k_Cabinet___init__ : PySem.W.keepIn K (.ref (He.ma K (He.ga K "Cabinet") "__init__")) = true := HX.Look.bit c 176 rfl
  have i_init : PySem.W.isFn K (.ref (He.ma K (He.ga K "Cabinet") "__init__")) = true := HX.Look.bit c 177 rfl
  have pa_drawers : PySem.W.findIn K (.ref (He.ga K "Cabinet")) "drawers" = some (some (.ref (He.ma K (He.ga K "Cabinet") "drawers"))) := HX.Look.eq c 178 rfl
  have pg_drawers : PySem.W.specialIn K (.ref (He.ma K (He.ga K "Cabinet") "drawers")) "__get__" = some (some (.builtin "property.__get__")) := HX.Look.eq c 179 rfl
  have pt_drawers : PySem.W.takesIn K (.ref (He.ma K (He.ga K "Cabinet") "drawers")) = some true := HX.Look.eq c 180 rfl
  have pr_drawers := HX.pr_ok (HX.Look.bit c 181 rfl)
  obtain ⟨_, _, _, _, _, _, _, _, _, l_Cabinet_drawers, c_Cabinet_drawers⟩ := HX.fd_plain (d := fd56) rfl (HX.Look.def_ c 56 rfl) (HX.Look.bit c 182 rfl)
  have k_Cabinet_drawers : PySem.W.keepIn K (.ref (HX.prA K (He.ma K (He.ga K "Cabinet") "drawers"))) = true := HX.Look.bit c 183 rfl
  have pa_bars : PySem.W.findIn K (.ref (He.ga K "Cabinet")) "bars" = some (some (.ref (He.ma K (He.ga K "Cabinet") "bars"))) := HX.Look.eq c 184 rfl
  have pg_bars : PySem.W.specialIn K (.ref (He.ma K (He.ga K "Cabinet") "bars")) "__get__" = some (some (.builtin "property.__get__")) := HX.Look.eq c 185 rfl
  have pt_bars : PySem.W.takesIn K (.ref (He.ma K (He.ga K "Cabinet") "bars")) = some true := HX.Look.eq c 186 rfl
  have pr_bars := HX.pr_ok (HX.Look.bit c 187 rfl)
  obtain ⟨_, _, _, _, _, _, _, _, _, l_Cabinet_bars, c_Cabinet_bars⟩ := HX.fd_plain (d := fd57) rfl (HX.Look.def_ c 57 rfl) (HX.Look.bit c 188 rfl)
  have k_Cabinet_bars : PySem.W.keepIn K (.ref (HX.prA K (He.ma K (He.ga K "Cabinet") "bars"))) = true := HX.Look.bit c 189 rfl
  have ci1 : PySem.W.findIn K (.ref (He.ga K "Cabinet")) "__class__" = some (some (.builtin "object.__class__")) := HX.Look.eq c 190 rfl
  have ci2 : PySem.W.specialIn K (.builtin "object.__class__") "__get__" = some (some (.builtin "getset_descriptor.__get__")) := HX.Look.eq c 191 rfl
  have ci3 : PySem.W.takesIn K (.builtin "object.__class__") = some true := HX.Look.eq c 192 rfl
  have ci4 : PySem.W.mroIn K (He.ga K "Cabinet") (.type "object") = some true := HX.Look.eq c 193 rfl
  have ci5 : PySem.W.kitOne K (.ref (He.ga K "Cabinet")) (.ref (He.ga K "Cabinet")) = some true := HX.Look.eq c 194 rfl
  have z_isinstance : PySem.W.nsIn K mainGlobals "isinstance" = some none := HX.Look.eq c 195 rfl
  have z_int : PySem.W.nsIn K mainGlobals "int" = some none := HX.Look.eq c 196 rfl
  have z_bool : PySem.W.nsIn K mainGlobals "bool" = some none := HX.Look.eq c 197 rfl
  have z_tuple : PySem.W.nsIn K mainGlobals "tuple" = some none := HX.Look.eq c 198 rfl
  have z_len : PySem.W.nsIn K mainGlobals "len" = some none := HX.Look.eq c 199 rfl
  have z_enumerate : PySem.W.nsIn K mainGlobals "enumerate" = some none := HX.Look.eq c 200 rfl
  have z_range : PySem.W.nsIn K mainGlobals "range" = some none := HX.Look.eq c 201 rfl
  have z_sorted : PySem.W.nsIn K mainGlobals "sorted" = some none := HX.Look.eq c 202 rfl
  have z_all : PySem.W.nsIn K mainGlobals "all" = some none := HX.Look.eq c 203 rfl
  have z_zip : PySem.W.nsIn K mainGlobals "zip" = some none := HX.Look.eq c 204 rfl
  have z_list : PySem.W.nsIn K mainGlobals "list" = some none := HX.Look.eq c 205 rfl
  have z_any : PySem.W.nsIn K mainGlobals "any" = some none := HX.Look.eq c 206 rfl
  have z_max : PySem.W.nsIn K mainGlobals "max" = some none := HX.Look.eq c 207 rfl
  have z_str : PySem.W.nsIn K mainGlobals "str" = some none := HX.Look.eq c 208 rfl
  have z_sum : PySem.W.nsIn K mainGlobals "sum" = some none := HX.Look.eq c 209 rfl
  obtain ⟨_, aM⟩ := HX.int_ok (HX.Look.bit c 210 rfl)
  have aW : PySem.W.nsIn K mainGlobals "WORDS" = some (some (.ref (He.ga K "WORDS"))) := HX.Look.eq c 211 rfl
  obtain ⟨_, _, _, _, _, lW⟩ := HX.tup2_ok (HX.Look.bit c 212 rfl)
  have aS : PySem.W.nsIn K mainGlobals "SIGNS" = some (some (.ref (He.ga K "SIGNS"))) := HX.Look.eq c 213 rfl
  obtain ⟨_, _, lS, kS⟩ := HX.Look.dic c
  obtain ⟨_, oS⟩ := HX.str_ok (HX.Look.bit c 214 rfl)
  obtain ⟨_, sS⟩ := HX.str_ok (HX.Look.bit c 215 rfl)
  obtain ⟨_, aSS⟩ := HX.str_ok (HX.Look.bit c 216 rfl)
  have aCM : PySem.W.nsIn K mainGlobals "combinations" = some (some (.type "itertools.combinations")) := HX.Look.eq c 217 rfl
  obtain ⟨_, aMP⟩ := HX.int_ok (HX.Look.bit c 218 rfl)
  exact DL.all_mk (l := PySem.Challenge.rw_drawerlocks_k27_what_holds) KX G hmg a_is_integer l_is_integer c_is_integer k_is_integer a_is_drawer_count l_is_drawer_count c_is_drawer_count k_is_drawer_count a_is_drawer l_is_drawer c_is_drawer k_is_drawer a_is_bar l_is_bar c_is_bar k_is_bar a_check_drawers l_check_drawers c_check_drawers k_check_drawers a_check_bars l_check_bars c_check_bars k_check_bars a__law_taken l__law_taken c__law_taken k__law_taken a__law_parts l__law_parts c__law_parts k__law_parts a__law_made l__law_made c__law_made k__law_made a_hinders l_hinders c_hinders k_hinders a_moved l_moved c_moved k_moved a_bars_against l_bars_against c_bars_against k_bars_against a_goes l_goes c_goes k_goes a_free_drawers l_free_drawers c_free_drawers k_free_drawers a__law_hold l__law_hold c__law_hold k__law_hold a__law_pattern l__law_pattern c__law_pattern k__law_pattern a_has_signs l_has_signs c_has_signs k_has_signs a_is_pattern l_is_pattern c_is_pattern k_is_pattern a_check_cabinet l_check_cabinet c_check_cabinet k_check_cabinet a_check_pattern l_check_pattern c_check_pattern k_check_pattern a_first_standing l_first_standing c_first_standing k_first_standing a_fits l_fits c_fits k_fits a_end_of_row l_end_of_row c_end_of_row k_end_of_row a_right_row l_right_row c_right_row k_right_row a_rows_from l_rows_from c_rows_from k_rows_from a_first_rows l_first_rows c_first_rows k_first_rows a_first_row_to l_first_row_to c_first_row_to k_first_row_to a_row_to l_row_to c_row_to k_row_to a_reached l_reached c_reached k_reached a__law_all l__law_all c__law_all k__law_all a_is_set l_is_set c_is_set k_is_set a_check_set l_check_set c_check_set k_check_set a_open_pattern l_open_pattern c_open_pattern k_open_pattern a_any_fits l_any_fits c_any_fits k_any_fits a_open_together l_open_together c_open_together k_open_together a_open_count l_open_count c_open_count k_open_count a_most_open l_most_open c_most_open k_most_open a_barred_pulls l_barred_pulls c_barred_pulls k_barred_pulls a_needless l_needless c_needless k_needless a_paper l_paper c_paper k_paper a_reached_pulls l_reached_pulls c_reached_pulls k_reached_pulls a_first_row_beside l_first_row_beside c_first_row_beside k_first_row_beside a_leading_to l_leading_to c_leading_to k_leading_to a_dead_end l_dead_end c_dead_end k_dead_end a_no_return l_no_return c_no_return k_no_return a_meets_all l_meets_all c_meets_all k_meets_all a_fewest_of_group l_fewest_of_group c_fewest_of_group k_fewest_of_group a_fewest_of_each l_fewest_of_each c_fewest_of_each k_fewest_of_each a_fewest_bars l_fewest_bars c_fewest_bars k_fewest_bars a_check_number l_check_number c_check_number k_check_number a_counts_behind l_counts_behind c_counts_behind k_counts_behind a_counts_by_end l_counts_by_end c_counts_by_end k_counts_by_end a_count_rows l_count_rows c_count_rows k_count_rows a_count_to l_count_to c_count_to k_count_to a_law l_law c_law k_law aC pg hd po sa mk kc nD nB a_Cabinet___init__ l_Cabinet___init__ c_Cabinet___init__ k_Cabinet___init__ i_init pa_drawers pg_drawers pt_drawers pr_drawers l_Cabinet_drawers c_Cabinet_drawers k_Cabinet_drawers pa_bars pg_bars pt_bars pr_bars l_Cabinet_bars c_Cabinet_bars k_Cabinet_bars ci1 ci2 ci3 ci4 ci5 z_isinstance z_int z_bool z_tuple z_len z_enumerate z_range z_sorted z_all z_zip z_list z_any z_max z_str z_sum aM aW lW aS lS kS oS sS aSS aCM aMP
end HDG
open PySem PySem.W PySem.Calls PyProof.Rows
theorem PySem.Challenge.cw_drawerlocks_k27_what_holds_holds : PySem.Challenge.rw_drawerlocks_k27_what_holds.Holds := by
  w_on; o_law
  refine HandSHeadRun.head_imp (r := OpenLaw.row PySem.Challenge.rw_drawerlocks_k27_what_holds) (q := view (OpenLaw.row PySem.Challenge.rw_drawerlocks_k27_what_holds).prog [0, 77]) (H := HDG.hk) (ob := HDG.ob) (M := 60000) (loose := HDG.loose) (d := HandSHeadRun.topDef (OpenLaw.row PySem.Challenge.rw_drawerlocks_k27_what_holds).prog 77) (kwd := []) HDG.ob_eq
    HDG.run (by kernel_rfl) (by kernel_rfl) (by kernel_rfl) (by rfl) (by first | assumption | decide +kernel) (by decide +kernel) ⟨rfl, rfl, rfl, rfl, rfl, by decide +kernel⟩ ?hw ?hc
  case hw => w_witness2
  case hc =>
    refine L2.walk_ofE (l := PySem.Challenge.rw_drawerlocks_k27_what_holds) (n := 63) (k := 20) (x := "_law_script") (CX := L2.CX0) rfl (by decide) (by kernel_rfl) ⟨rfl, by decide, by decide⟩ ?F (fun _ _ _ _ z => z)
    intro w mg fa h Y G hmg0
    obtain ⟨K, KX, c⟩ := Y
    have hmg : mg ("law" : PySem.Str) = some (.ref fa) := by
      have e : (HandSHeadRun.topDef (OpenLaw.row PySem.Challenge.rw_drawerlocks_k27_what_holds).prog 77).name = ("law" : PySem.Str) := by kernel_rfl
      rw [← e]
      exact hmg0
    obtain ⟨fd, hb, hF⟩ := HDG.facts (w := w) KX G hmg c
    exact ⟨K, fd, DL.spLaw K, KX, hb, fun H a ns hl _ hS => ⟨a, ns, rfl, hS, hl, fun _ => rfl⟩, hF⟩
