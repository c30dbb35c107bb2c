import PyProof.Rows.All
import Wide.All
import OpenK.AllK
import Wide.FinOn
import HandS.ForMost
import HandS.ForExc
import HandS.TupLe
import HandS.TupAny
import HandS.SortOrd
import HandS.SortRule
import HandS.IsInst
import HandS.Conv
import HandS.Wide
import HandS.Property
import HandS.Deep
import HandS.Walk
import HandS.Zip
import HandS.Flow
import KE.GoesEnum
import PySem.Challenge.RW_drawerlocks_k16_whole_guards
import HandS.Replace
import HandS.More
import HandS.TryOnly
import KE.GoesZip
import KE.KSuper
import KE.KExcSuper
import HandS.ClsMeth
import HandS.ExcInit
import HandS.WordsExc
import HandS.FStr
import HandS.Star
import PyProof.Rows.SortShellAny
import KE.DataMinMax
import PyProof.Rows.StrMeet
import HandS.SlotsOwn
import HandS.ExcOwn
import HandS.TryMany
import HandS.ExcField
import HandS.DictComp
import HandS.DictSubView
import HandS.Small
import HandS.SetKeys
import HandS.SetBool
import HandS.Strs
import HandS.Style
import HandS.Comp
import HandS.Iter
import PyProof.ZipIter
import PyProof.Rows.Range3
import HandS.RepeatKit
import HandS.ForDict
import HandS.TupSets
import HandS.SetFor
import HandS.Codes
import PyProof.DictMoreH
import HandS.TupMul
import HandS.SortInts
import PyProof.Rows.SortShell
import HandS.Head0
import HandS.Head1
import HandS.Head2
import HandS.HeadEnd
import HandS.HeadHook1
import HandS.HeadHook2
import KE.KExcInit
import HandS.Head3
set_option Elab.async false
set_option maxRecDepth 100000
namespace DL
open PySem PySem.Spec PyProof.Rows L2
/-! ### bars: four parts; the words as truth values (true: shut) -/
structure Bar where
  d : Int
  w : Bool
  o : Int
  t : Bool
deriving DecidableEq
def wd (b : Bool) : Str := if b = true then "shut" else "open"
theorem wd_inj : ∀ {a b : Bool}, wd a = wd b → a = b := by decide +kernel
theorem wd_lt : ∀ a b : Bool, decide ((wd a).cps.toList < (wd b).cps.toList) = (!a && b) := by decide +kernel
theorem wd_dec : ∀ a : Bool, decide (wd a = "shut") = a := by decide +kernel
def Bar.key (b : Bar) : List Key := [.inl b.d, .inr (wd b.w), .inl b.o, .inr (wd b.t)]
def Bar.vs (b : Bar) : List V := [.int b.d, .str (wd b.w), .int b.o, .str (wd b.t)]
def b2n (b : Bool) : Int := if b = true then 1 else 0
theorem b2n_le (b : Bool) : 0 ≤ b2n b ∧ b2n b ≤ 1 := by cases b <;> decide
theorem b2n_inj {a b : Bool} (h : b2n a = b2n b) : a = b := by revert h; revert a b; decide
def Bar.code (b : Bar) : Int := ((b.d * 2 + b2n b.w) * 8 + b.o) * 2 + b2n b.t
/-- the parts lie where a bar of at most eight drawers has them -/
def Bar.low (b : Bar) : Prop := 0 ≤ b.d ∧ b.d < 8 ∧ 0 ≤ b.o ∧ b.o < 8
theorem Bar.ext4 {a b : Bar} (h1 : a.d = b.d) (h2 : a.w = b.w) (h3 : a.o = b.o) (h4 : a.t = b.t) : a = b := by
  cases a; cases b; simp only at h1 h2 h3 h4; subst h1 h2 h3 h4; rfl
theorem Bar.code_inj {a b : Bar} (ha : a.low) (hb : b.low) (h : a.code = b.code) : a = b := by
  unfold Bar.low at ha hb
  unfold Bar.code at h
  have w1 := b2n_le a.w; have w2 := b2n_le b.w; have t1 := b2n_le a.t; have t2 := b2n_le b.t
  exact Bar.ext4 (by omega) (b2n_inj (by omega)) (by omega) (b2n_inj (by omega))
/-- what a < b of two such tuples comes to -/
def Bar.ltb (a b : Bar) : Bool := if a.d = b.d then (if a.w = b.w then (if a.o = b.o then (!a.t && b.t) else decide (a.o < b.o)) else (!a.w && b.w)) else decide (a.d < b.d)
theorem Bar.ltb_code {a b : Bar} (ha : a.low) (hb : b.low) : a.ltb b = decide (a.code < b.code) := by
  obtain ⟨ad, aw, ao, at'⟩ := a
  obtain ⟨bd, bw, bo, bt⟩ := b
  unfold Bar.low at ha hb
  unfold Bar.ltb Bar.code b2n
  simp only at ha hb ⊢
  by_cases h1 : ad = bd
  · rw [if_pos h1]
    by_cases h2 : aw = bw
    · rw [if_pos h2]
      by_cases h3 : ao = bo
      · rw [if_pos h3]
        subst h1 h2 h3
        cases at' <;> cases bt <;> simp <;> omega
      · rw [if_neg h3]
        subst h1 h2
        cases at' <;> cases bt <;> simp <;> omega
    · rw [if_neg h2]
      subst h1
      cases aw <;> cases bw <;> cases at' <;> cases bt <;> simp at h2 ⊢ <;> omega
  · rw [if_neg h1]
    cases aw <;> cases bw <;> cases at' <;> cases bt <;> simp <;> omega
/-- a bar read back -/
def barOf : List V → Bar
  | [.int d, .str w, .int o, .str t] => ⟨d, decide (w = "shut"), o, decide (t = "shut")⟩
  | _ => ⟨0, false, 0, false⟩
theorem barOf_vs (b : Bar) : barOf b.vs = b := by
  show (⟨b.d, decide (wd b.w = "shut"), b.o, decide (wd b.t = "shut")⟩ : Bar) = b
  rw [wd_dec, wd_dec]
/-- the bar that stands at an address of the heap -/
def barAt (H : Hp) : V → Bar
  | .ref a => (match H a with | some (.tup xs) => barOf xs | _ => ⟨0, false, 0, false⟩)
  | _ => ⟨0, false, 0, false⟩
theorem barAt_of {H : Hp} {a : Addr} {b : Bar} (h : H a = some (.tup b.vs)) : barAt H (.ref a) = b := by
  show (match H a with | some (.tup xs) => barOf xs | _ => ⟨0, false, 0, false⟩) = b
  rw [h]; exact barOf_vs b
/-! ### sorted(d), d a dict whose keys are such tuples -/
def IsBarV (h : Heap) (v : Value) (b : Bar) : Prop := ∃ a o t1 t2 t3 t4 n, v = .ref a ∧ h.get? a = some o ∧ o.cls = .type "tuple" ∧ o.data = .seq #[.int b.d t1, .str (wd b.w) t2, .int b.o t3, .str (wd b.t) t4] n
theorem IsBarV.keeps {h h' : Heap} {v : Value} {b : Bar} (p : IsBarV h v b) (k : ∀ c o, h.get? c = some o → o.cls = .type "tuple" → h'.get? c = some o) : IsBarV h' v b := by
  obtain ⟨a, o, t1, t2, t3, t4, n, e, ho, hc, hd⟩ := p
  exact ⟨a, o, t1, t2, t3, t4, n, e, k _ _ ho hc, hc, hd⟩
section
variable {prog : Program} {w : World} {A : Around} {E : Value → Shared → Prop} {s : Shared}
theorem oneLt_words (c : Bool) {p q : Str} {t u : Tok} {Q : Bool → Shared → Prop} (h : c = false) (hq : Q (decide (p.cps.toList < q.cps.toList)) s) : wpAny (model prog w) A (oneLt' c (.str p t) (.str q u)) Q E s := by
  subst h
  exact PySem.W.kat_one _ _ (PyProof.Rows.lt_str hq)
theorem bar_cmp {vs : List Value} {kb : Value → Bar} (hp : ∀ v ∈ vs, IsBarV s.heap v (kb v) ∧ (kb v).low) : SrtO.Cmp prog w A s (tuples' true) (fun p => p.1 ∈ vs) (SrtO.lt2 fun v u => decide ((kb v).code < (kb u).code)) := by
  intro p q hm hm'
  obtain ⟨h1, l1⟩ := hp _ hm
  obtain ⟨h2, l2⟩ := hp _ hm'
  show wpAny (model prog w) A (keyLt' (tuples' true) p.1 q.1) (fun r s' => s' = s ∧ r = decide ((kb p.1).code < (kb q.1).code)) (fun _ _ => False) s
  generalize kb p.1 = x at h1 l1 ⊢
  generalize kb q.1 = y at h2 l2 ⊢
  rw [← Bar.ltb_code l1 l2]
  obtain ⟨a, o, t1, t2, t3, t4, n, e, ho, hc, hd⟩ := h1
  obtain ⟨a', o', t1', t2', t3', t4', n', e', ho', hc', hd'⟩ := h2
  rw [e, e']
  refine PySem.W.kat_lt ho hd ho' hd' ?_
  show PySem.W.KatLex prog w A true (decide (4 < 4)) _ [(.int x.d t1, .int y.d t1'), (.str (wd x.w) t2, .str (wd y.w) t2'), (.int x.o t3, .int y.o t3'), (.str (wd x.t) t4, .str (wd y.t) t4')] 0 s
  refine PySem.W.kat_cons (SeqAt.EqAt.int_int x.d t1 y.d t1' prog w _ _ ?_)
  refine PySem.W.kat_go (fun e1 => ?_) (fun e1 => ?_)
  · have e1' : x.d = y.d := by simpa using e1
    refine PySem.W.kat_yes (PySem.W.kat_cons (wpAny_eqBool_str ?_))
    refine PySem.W.kat_go (fun e2 => ?_) (fun e2 => ?_)
    · have e2' : x.w = y.w := wd_inj (by simpa using e2)
      refine PySem.W.kat_yes (PySem.W.kat_cons (SeqAt.EqAt.int_int x.o t3 y.o t3' prog w _ _ ?_))
      refine PySem.W.kat_go (fun e3 => ?_) (fun e3 => ?_)
      · have e3' : x.o = y.o := by simpa using e3
        refine PySem.W.kat_yes (PySem.W.kat_cons (wpAny_eqBool_str ?_))
        refine PySem.W.kat_go (fun e4 => ?_) (fun e4 => ?_)
        · have e4' : x.t = y.t := wd_inj (by simpa using e4)
          refine PySem.W.kat_yes (PySem.W.kat_nil ⟨rfl, ?_⟩)
          unfold Bar.ltb
          rw [if_pos e1', if_pos e2', if_pos e3', e4']
          cases y.t <;> rfl
        · refine PySem.W.kat_no (oneLt_words _ rfl ⟨rfl, ?_⟩)
          unfold Bar.ltb
          rw [if_pos e1', if_pos e2', if_pos e3', wd_lt]
      · have e3' : ¬ x.o = y.o := by simpa using e3
        refine PySem.W.kat_no (PySem.W.kat_one _ _ (PyProof.Rows.lt_int ?_))
        refine (show s = s ∧ decide (x.o < y.o) = x.ltb y from ⟨rfl, ?_⟩)
        unfold Bar.ltb
        rw [if_pos e1', if_pos e2', if_neg e3']
    · have e2' : ¬ x.w = y.w := fun z => by rw [z] at e2; simp at e2
      refine PySem.W.kat_no (oneLt_words _ rfl ⟨rfl, ?_⟩)
      unfold Bar.ltb
      rw [if_pos e1', if_neg e2', wd_lt]
  · have e1' : ¬ x.d = y.d := by simpa using e1
    refine PySem.W.kat_no (oneLt_int ⟨rfl, ?_⟩)
    unfold Bar.ltb
    rw [if_neg e1']
theorem bar_firsts {h : Heap} : ∀ {vs : List Value}, (∀ v ∈ vs, ∃ b, IsBarV h v b) → ∃ fs : List Value, PySem.W.KatTups h vs fs ∧ fs.length = vs.length ∧ ∀ f ∈ fs, ∃ x t, f = Value.int x t
  | [], _ => ⟨[], PySem.W.KatTups.nil, rfl, fun _ hm => by simp at hm⟩
  | v :: vs, hp => by
    obtain ⟨fs, h1, h2, h3⟩ := bar_firsts (vs := vs) fun v' hm => hp v' (List.mem_cons_of_mem _ hm)
    obtain ⟨b, a, o, t1, t2, t3, t4, n, e, ho, hc, hd⟩ := hp v (List.mem_cons_self ..)
    subst e
    refine ⟨.int b.d t1 :: fs, PySem.W.KatTups.cons ho hc hd rfl h1, by rw [List.length_cons, List.length_cons, h2], fun f hm => ?_⟩
    rcases List.mem_cons.mp hm with rfl | hm
    · exact ⟨b.d, t1, rfl⟩
    · exact h3 f hm
theorem swo_code (kb : Value → Bar) : SrtO.Swo fun v u => decide ((kb v).code < (kb u).code) := by
  refine ⟨fun x y h => ?_, fun x y z h1 h2 => ?_⟩
  · have a := of_decide_eq_true h
    exact decide_eq_false (by omega)
  · have a := of_decide_eq_false h1
    have b := of_decide_eq_false h2
    exact decide_eq_false (by omega)
theorem bars_sortableO {a : Addr} {vs : List Value} {kb : Value → Bar} (h0 : 0 < vs.length) (hp : ∀ v ∈ vs, IsBarV s.heap v (kb v) ∧ (kb v).low) (ha : ∀ o, s.heap.get? a = some o → o.cls ≠ .type "tuple") :
    SrtO.SortableO prog w A s a vs fun v u => decide ((kb v).code < (kb u).code) := by
  intro h' keep
  have hp' : ∀ v ∈ vs, IsBarV h' v (kb v) ∧ (kb v).low := fun v hm => ⟨(hp v hm).1.keeps fun b o e c => keep b o (fun z => by subst z; exact ha o e c) e, (hp v hm).2⟩
  obtain ⟨fs, h1, h2, h3⟩ := bar_firsts fun v hm => ⟨_, (hp' v hm).1⟩
  refine ⟨tuples' true, fun Q E hq => ?_, bar_cmp hp'⟩
  refine PySem.W.kat_kind (T := .type "int") h1 (by omega) (fun f hm => ?_) (by rfl) ?_
  · obtain ⟨x, t, rfl⟩ := h3 f hm
    exact PySem.W.Looks.now
  · have e : (Value.type "int" != Value.type "tuple") = true := by first | decide +kernel | rfl | decide
    rw [e]
    exact hq
end
/-- sorted(d): the keys' own tuples, by their codes -/
def rSortB : List V → Hp → VK → Prop := fun xs H Q => ∃ (d : Addr) (kvs : List (List Key × V)) (bs : List Bar), xs = [V.ref d] ∧ Rd H d (.dT kvs) ∧ kvs.map (·.1) = bs.map Bar.key ∧ (∀ b ∈ bs, b.low) ∧
  ∀ (ks : List (Addr × Bar)) (p : Addr), (∀ k ∈ ks, H k.1 = some (.tup k.2.vs)) → (ks.map (·.2)).Perm bs → (ks.map (·.2)).Pairwise (fun x y => x.code ≤ y.code) → H p = none → Q (.ref p) (upd H p (.lst (ks.map fun k => V.ref k.1)))
theorem keys_bars : ∀ {H : Hp} {kvs : List (List Key × V)} {as : List Addr} {bs : List Bar}, IsKeys H kvs as → kvs.map (·.1) = bs.map Bar.key → (∀ a ∈ as, ∃ b ∈ bs, H a = some (.tup b.vs)) ∧ (as.map V.ref).map (barAt H) = bs := by
  intro H kvs as bs ik
  unfold IsKeys at ik
  induction ik generalizing bs with
  | nil =>
    intro e
    cases bs with
    | nil => exact ⟨fun a ha => by simp at ha, rfl⟩
    | cons b bs => simp at e
  | @cons kv a kvs' as' h t ih =>
    intro e
    cases bs with
    | nil => simp at e
    | cons b bs =>
      rw [List.map_cons, List.map_cons] at e
      injection e with e1 e2
      obtain ⟨i1, i2⟩ := ih e2
      have hb : H a = some (.tup b.vs) := by rw [h, e1]; rfl
      refine ⟨fun c hc => ?_, ?_⟩
      · rcases List.mem_cons.mp hc with rfl | hc
        · exact ⟨b, List.mem_cons_self, hb⟩
        · obtain ⟨b', m, q⟩ := i1 c hc
          exact ⟨b', List.mem_cons_of_mem _ m, q⟩
      · rw [List.map_cons, List.map_cons, i2, barAt_of hb]
section
variable {X : Cx}
theorem cr_sortB (hcalm : X.calm = true) : CallR X (.builtin "sorted") rSortB := by
  intro pins s σ H xs us Q I r h
  obtain ⟨d, kvs, bs, rfl, hd, hks, hlow, q⟩ := h
  obtain ⟨u, rfl, rx⟩ := r.one
  obtain rfl : u = Value.ref d := rx
  obtain ⟨z, hs, ks, pr, o, es, ep, ho, hx, hdt, he, hn⟩ := (show ObjOk X.prog X.w H s.heap d (.dT kvs) from hd.ok I.hok)
  have l1 : es.size = ks.length := size_of_entries he
  have l2 : kvs.length = ks.length := Paired.length pr
  refine Calls.call_function_entry PyProof.Rows.kind_sorted PyProof.Rows.plain_sorted PyProof.Rows.entry_sorted (PyProof.Rows.args_sorted1 _) ?_
  unfold Builtin.«sorted»
  refine wpAny_bind (m := checkCount "sorted" 1 1 _) (wpAny_pure ?_)
  refine wpAny_bind (PySem.W.kdu_collect (A := X.A.in1) (kdl_raw hs hx hdt) (I.ok.hd hcalm) ho (by omega) fun h' tk acc hk it => ?_)
  have ea : acc.toList = ks.map fun x => Value.ref x.2.1 := by
    have hl : acc.toList.length = ks.length := by rw [Array.length_toList, it.1]; exact l1
    apply List.ext_getElem?
    intro j
    rw [List.getElem?_map]
    cases hj : acc.toList[j]? with
    | none =>
      have h1 := List.getElem?_eq_none_iff.mp hj
      rw [List.getElem?_eq_none (by omega)]
      all_goals rfl
    | some v =>
      obtain ⟨en, hen, hv⟩ := it.2 j v (by rw [← Array.getElem?_toList]; exact hj)
      have qe := entry_at he j
      rw [hen] at qe
      cases hb : ks[j]? with
      | none =>
        rw [hb] at qe
        exact nomatch (show some en = none from qe)
      | some b =>
        rw [hb] at qe
        have e2 : en = entryOfKey (tupleKind (mixKind X.prog X.w)) b := Option.some.inj qe
        rw [hv, e2]
        all_goals rfl
  have ik : IsKeys H kvs (ks.map fun x => x.2.1) := isKeys_of pr
  obtain ⟨kb1, kb2⟩ := keys_bars ik hks
  generalize has : (ks.map fun x => x.2.1) = as at ik kb1 kb2
  have ea' : acc.toList = as.map Value.ref := by rw [ea, ← has, List.map_map]; rfl
  have hal : acc.toList.length = as.length := by rw [ea', List.length_map]
  have hasz : as.length ≤ sizeLine := by rw [← has, List.length_map]; omega
  have I1 : Inv X pins σ H { s with heap := h', toks := tk } := I.kept hk
  refine wpAny_bind (wpAny_newList ?_ (by rw [hal]; exact hasz))
  have hoL : (h'.push (seqObj "list" acc.toList.toArray 0)).get? h'.objs.size = some (seqObj "list" acc.toList.toArray 0) := Heap.get?_push_size _ rfl
  show wpAny _ _ _ _ _ { s with heap := h'.push (seqObj "list" acc.toList.toArray 0), toks := tk }
  have hbar : ∀ v ∈ acc.toList, IsBarV h' v (barAt H (backV v)) ∧ (barAt H (backV v)).low := fun v hv => by
    rw [ea'] at hv
    obtain ⟨a, ham, rfl⟩ := List.mem_map.mp hv
    obtain ⟨b, hbm, hHa⟩ := kb1 a ham
    have e1 : barAt H (backV (Value.ref a)) = b := barAt_of hHa
    rw [e1]
    refine ⟨?_, hlow b hbm⟩
    obtain ⟨_, its, rv, oo, h1, h2, n, h3⟩ := (show ObjOk X.prog X.w H h' a (.tup b.vs) from I1.hok a _ hHa)
    cases rv with
    | cons r1 rv =>
      cases rv with
      | cons r2 rv =>
        cases rv with
        | cons r3 rv =>
          cases rv with
          | cons r4 rv =>
            cases rv
            obtain ⟨t1, rfl⟩ := r1
            obtain ⟨t2, rfl⟩ := r2
            obtain ⟨t3, rfl⟩ := r3
            obtain ⟨t4, rfl⟩ := r4
            exact ⟨a, oo, t1, t2, t3, t4, n, rfl, h1, h2, h3⟩
  refine wpAny_bind (wpAny_holding (wpAny_call_entry PyProof.Rows.slot_list_sort ⟨_, hoL, rfl⟩ PyProof.Rows.entry_list_sort
    (SrtO.list_sort_ord (s := { s with heap := h'.push (seqObj "list" acc.toList.toArray 0), toks := tk }) (swo_code fun v => barAt H (backV v)) hoL (by rw [hal]; exact hasz) (fun h2 => ?_) fun out hs hb => ⟨_, rfl, ?_⟩)
    (PyProof.Rows.args_list_sort _)))
  · refine bars_sortableO (by omega) (fun v hv => ⟨(hbar v hv).1.keeps fun c oo e _ => Heap.get?_push_of_some _ e, (hbar v hv).2⟩) fun oo e => ?_
    have e' : some oo = some (seqObj "list" acc.toList.toArray 0) := e.symm.trans hoL
    cases e'
    intro c
    exact absurd (Value.type.inj c) (by decide)
  · obtain ⟨e', he'⟩ := PyProof.Rows.sortedHeap_at (vs := acc.toList) (out := out.toArray) hoL
    have pm : out.Perm (as.map Value.ref) := by rw [← ea']; exact hb.perm
    have href : ∀ v ∈ out, ∃ a, v = Value.ref a ∧ a ∈ as := fun v hv => by
      obtain ⟨a, ha, rfl⟩ := List.mem_map.mp (pm.mem_iff.mp hv)
      exact ⟨a, rfl, ha⟩
    have e1 : out.map backV = (out.map fun v => ((match v with | .ref a => a | _ => 0 : Addr), barAt H (backV v))).map fun k => V.ref k.1 := by
      rw [List.map_map]
      refine List.map_congr_left fun v hv => ?_
      obtain ⟨a, rfl, _⟩ := href v hv
      rfl
    have e2 : (out.map fun v => ((match v with | .ref a => a | _ => 0 : Addr), barAt H (backV v))).map (·.2) = out.map fun v => barAt H (backV v) := by
      rw [List.map_map]; rfl
    have pm2 : (out.map fun v => barAt H (backV v)).Perm bs := by
      have q1 := pm.map fun v => barAt H (backV v)
      have q2 : (as.map Value.ref).map (fun v => barAt H (backV v)) = bs := by
        rw [← kb2, List.map_map, List.map_map]; rfl
      rw [q2] at q1
      exact q1
    have qq := q (out.map fun v => ((match v with | .ref a => a | _ => 0 : Addr), barAt H (backV v))) h'.objs.size (fun k hk2 => by
        obtain ⟨v, hv, rfl⟩ := List.mem_map.mp hk2
        obtain ⟨a, rfl, ha⟩ := href v hv
        obtain ⟨b, _, hH⟩ := kb1 a ha
        show H a = some (.tup (barAt H (.ref a)).vs)
        rw [barAt_of hH]
        exact hH) (by rw [e2]; exact pm2) (by
        rw [e2, List.pairwise_map]
        exact hs.imp fun {x y} q => by
          have := of_decide_eq_false q
          omega) (I1.hok.fresh (Nat.le_refl _))
    rw [← e1] at qq
    refine wpAny_pure ⟨_, rfl, .ref h'.objs.size, upd H h'.objs.size (.lst (out.map backV)), I1.laid (t' := tk) (fun b u e => ?_) (Nat.le_refl _)
      (show ObjOk X.prog X.w _ _ _ (.lst (out.map backV)) from ⟨?_, out, e', vals_back fun v hv => ?_, he'⟩), rfl, qq⟩
    · have hb : b < h'.objs.size := Heap.lt_size e
      rw [PyProof.Rows.sortedHeap_old (Nat.ne_of_lt hb) (by rw [size_push']; exact Nat.lt_succ_of_lt hb)]
      exact Heap.get?_push_of_some _ e
    · rw [List.length_map, pm.length_eq, List.length_map]
      exact hasz
    · obtain ⟨a, e, _⟩ := href v hv
      exact ⟨a, e⟩
end
end DL

set_option Elab.async false
set_option maxRecDepth 100000
namespace DL
open PySem PySem.Spec PyProof.Rows L2
/-! ### bar <= bar -/
def Bar.leb (a b : Bar) : Bool := decide (a.code ≤ b.code)
def Bar.leq (a b : Bar) : Bool := if a.d = b.d then (if a.w = b.w then (if a.o = b.o then (if a.t = b.t then true else !(!b.t && a.t)) else decide (a.o ≤ b.o)) else !(!b.w && a.w)) else decide (a.d ≤ b.d)
theorem Bar.leq_code {a b : Bar} (ha : a.low) (hb : b.low) : a.leq b = a.leb b := by
  obtain ⟨ad, aw, ao, at'⟩ := a
  obtain ⟨bd, bw, bo, bt⟩ := b
  unfold Bar.low at ha hb
  unfold Bar.leq Bar.leb Bar.code b2n
  simp only at ha hb ⊢
  by_cases h1 : ad = bd
  · rw [if_pos h1]
    by_cases h2 : aw = bw
    · rw [if_pos h2]
      by_cases h3 : ao = bo
      · rw [if_pos h3]
        subst h1 h2 h3
        cases at' <;> cases bt <;> simp <;> omega
      · rw [if_neg h3]
        subst h1 h2
        cases at' <;> cases bt <;> simp <;> omega
    · rw [if_neg h2]
      subst h1
      cases aw <;> cases bw <;> cases at' <;> cases bt <;> simp at h2 ⊢ <;> omega
  · rw [if_neg h1]
    cases aw <;> cases bw <;> cases at' <;> cases bt <;> simp <;> omega
def rLeB (K : PySem.W.Frag) : R2 := fun x y H Q => ∃ (a b : Addr) (p q : Bar), x = .ref a ∧ y = .ref b ∧ SqT K H a p.vs ∧ SqT K H b q.vs ∧ Q (.bl (p.leq q)) H
theorem four_of {p : Bar} {its : List Value} (r : Vals p.vs its) : ∃ t1 t2 t3 t4, its = [.int p.d t1, .str (wd p.w) t2, .int p.o t3, .str (wd p.t) t4] := by
  cases r with
  | cons r1 rv =>
    cases rv with
    | cons r2 rv =>
      cases rv with
      | cons r3 rv =>
        cases rv with
        | cons r4 rv =>
          cases rv
          obtain ⟨t1, rfl⟩ := r1
          obtain ⟨t2, rfl⟩ := r2
          obtain ⟨t3, rfl⟩ := r3
          obtain ⟨t4, rfl⟩ := r4
          exact ⟨t1, t2, t3, t4, rfl⟩
theorem beq_dec {α : Type} [BEq α] [LawfulBEq α] [DecidableEq α] (a b : α) : (a == b) = decide (a = b) := by
  by_cases q : a = b
  · rw [decide_eq_true q]; exact beq_iff_eq.mpr q
  · rw [decide_eq_false q]; exact beq_eq_false_iff_ne.mpr q
theorem wd_beq (a b : Bool) : ((wd a) == (wd b)) = decide (a = b) := by revert a b; decide +kernel
theorem op_leB {X : Cx} (hu : X.A.units < cLine) : OpR X (compareOp .LtE) (rLeB X.K) := by
  intro pins s σ H x y v u Q I rx ry h
  obtain ⟨a, b, p, q, rfl, rfl, ha, hb, hq⟩ := h
  cases rx
  cases ry
  obtain ⟨its, r1, p1, _⟩ := I.tuple ha
  obtain ⟨its2, r2, p2, _⟩ := I.tuple hb
  obtain ⟨t1, t2, t3, t4, rfl⟩ := four_of r1
  obtain ⟨u1, u2, u3, u4, rfl⟩ := four_of r2
  have R := Ob.RcOp.tuples_le (A := X.A) (s := s) (e := fun j => match j with | 0 => decide (p.d = q.d) | 1 => decide (p.w = q.w) | 2 => decide (p.o = q.o) | _ => decide (p.t = q.t))
    (r := fun j => match j with | 0 => decide (p.d ≤ q.d) | 1 => !(!q.w && p.w) | 2 => decide (p.o ≤ q.o) | _ => !(!q.t && p.t)) p1 p2 hu (fun j h1 h2 => by
      match j, h1, h2 with
      | 0, _, _ => show SeqAt.EqAt _ _ (.int p.d t1) (.int q.d u1) (decide (p.d = q.d)); rw [← beq_dec]; exact SeqAt.EqAt.int_int _ _ _ _
      | 1, _, _ => show SeqAt.EqAt _ _ (.str (wd p.w) t2) (.str (wd q.w) u2) (decide (p.w = q.w)); rw [← wd_beq]; exact SeqAt.EqAt.str_str _ _ _ _
      | 2, _, _ => show SeqAt.EqAt _ _ (.int p.o t3) (.int q.o u3) (decide (p.o = q.o)); rw [← beq_dec]; exact SeqAt.EqAt.int_int _ _ _ _
      | 3, _, _ => show SeqAt.EqAt _ _ (.str (wd p.t) t4) (.str (wd q.t) u4) (decide (p.t = q.t)); rw [← wd_beq]; exact SeqAt.EqAt.str_str _ _ _ _
      | n + 4, h1, _ => exact absurd (show n + 4 < 4 from h1) (by omega)) (fun j h1 h2 _ => by
      match j, h1, h2 with
      | 0, _, _ => exact Ob.RcOp.le_int _ _ _ _
      | 1, _, _ =>
        show Ob.RcOp .LtE _ _ (.str (wd p.w) t2) (.str (wd q.w) u2) (!(!q.w && p.w))
        rw [← wd_lt]
        exact fun _ _ _ _ h => PySem.P.le_str h
      | 2, _, _ => exact Ob.RcOp.le_int _ _ _ _
      | 3, _, _ =>
        show Ob.RcOp .LtE _ _ (.str (wd p.t) t4) (.str (wd q.t) u4) (!(!q.t && p.t))
        rw [← wd_lt]
        exact fun _ _ _ _ h => PySem.P.le_str h
      | n + 4, h1, _ => exact absurd (show n + 4 < 4 from h1) (by omega))
  have z : wpAny (model X.prog X.w) X.A (compareOp .LtE (.ref a) (.ref b)) (EP X pins σ Q) X.xe s := R X.prog X.w X.xe (EP X pins σ Q) (by
    refine ⟨.bl (p.leq q), H, I, ?_, hq⟩
    show Value.bool _ = Value.bool (p.leq q)
    have e : (Ob.lexAt (fun j => match j with | 0 => decide (p.d = q.d) | 1 => decide (p.w = q.w) | 2 => decide (p.o = q.o) | _ => decide (p.t = q.t))
      (fun j => match j with | 0 => decide (p.d ≤ q.d) | 1 => !(!q.w && p.w) | 2 => decide (p.o ≤ q.o) | _ => !(!q.t && p.t)) true 0 4) = p.leq q := by
      unfold Bar.leq
      simp only [Ob.lexAt, decide_eq_true_eq]
    exact congrArg Value.bool e)
  exact z
/-! ### for i, x in enumerate(t), t a tuple -/
def IteT (K : PySem.W.Frag) (a : Addr) : It :=
  ⟨fun i H => ∃ (xs : List V) (x : V), SqT K H a xs ∧ xs[i]? = some x, fun i H v H' => ∃ T x, v = .ref T ∧ H T = none ∧ H' = upd H T (.tup [.int (i : Nat), x]) ∧ ∀ xs, SqT K H a xs → xs[i]? = some x, fun i H => ∃ xs : List V, SqT K H a xs ∧ xs.length ≤ i⟩
theorem turn_enumT {P : Program} {w : World} {K : PySem.W.Frag} {elts : List Expr} {kk : Nat} {tpos : Pos} (a e it : Addr) (hai : a ≠ it) (hae : e ≠ a) :
    Turn P w K (.Tuple elts kk tpos) (IteT K a) [e, it] e (fun i h => (∃ old, IsEnum h e it ((i : Nat) : Int) old) ∧ h.IsTupleIter it a i ∧ e ≠ it) where
  mem := by simp
  obj := fun i h st b hb => by
    obtain ⟨⟨old, he⟩, ⟨o, ho, hc, hd⟩, _⟩ := st
    have e' : b = e ∨ b = it := by simpa using hb
    rcases e' with z | z
    · rw [z]; exact ⟨_, he, fun v q => nomatch q⟩
    · rw [z]; exact ⟨o, ho, fun v q => by rw [hd] at q; cases q⟩
  keep := fun i h h' st k => let ⟨⟨old, he⟩, hi, hne⟩ := st; ⟨⟨old, k e (by simp) _ he⟩, hi.at fun o q => k it (by simp) o q, hne⟩
  item := by
    intro X hP hw hK hc i pins s σ H E I hf st hg
    subst hP hw hK
    obtain ⟨⟨old, he⟩, hit, hne⟩ := st
    obtain ⟨xs, x, hq, hx⟩ := hg
    obtain ⟨its, rv, p, hz⟩ := I.tuple hq
    obtain ⟨u, hu, ru⟩ := rv.get hx
    have hel : e < s.heap.objs.size := Heap.lt_size he
    have hil : it < s.heap.objs.size := by obtain ⟨_, q, _⟩ := hit; exact Heap.lt_size q
    have hlt : i < its.toArray.size := by
      have := (List.getElem?_eq_some_iff.mp hu).1
      simpa using this
    refine wpAny_pyNext_enum_itemD (Draws.tuple (A := X.A.in1) (I.ok.hd hc) it a hai its.toArray) he ⟨hit, p⟩ hlt hne (by simp; exact ⟨hne, hae⟩) fun x1 h' tk hp ho hst' hT hsz hk => ?_
    have hx1 : x1 = u := by
      have q : its.toArray[i]? = some u := by simpa using hu
      rw [q] at hp
      exact (Option.some.inj hp).symm
    subst hx1
    refine ⟨_, rfl, wpAny_letOwnedTupleGo_enum (s := { s with heap := h', toks := tk + 1 }) ho fun h'' he' sb => ?_⟩
    have hT2 : h''.get? s.heap.objs.size = some { cls := .type "tuple", data := .seq #[.int i tk, x1] } := (sb.2 _ (Nat.ne_of_gt hel)).trans hT
    have new : ObjOk X.prog X.w (upd H s.heap.objs.size (.tup [.int (i : Nat), x])) h'' s.heap.objs.size (.tup [.int (i : Nat), x]) :=
      ⟨by show 2 ≤ sizeLine; decide, [.int i tk, x1], .cons ⟨_, rfl⟩ (.cons ru .nil), ⟨_, hT2, rfl, _, rfl⟩⟩
    have I1 : Inv X pins σ (upd H s.heap.objs.size (.tup [.int (i : Nat), x])) { s with heap := h'', toks := tk + 1 } :=
      I.turnedNew (ch := [e, it]) (fun b ob hb q => (sb.2 b (fun z => hb (by simp [z]))).trans (hk b ob (fun z => hb (by simp [z])) (fun z => hb (by simp [z])) q)) hf (Nat.le_refl _) new
    refine ⟨.ref s.heap.objs.size, _, I1, rfl, ⟨_, x, rfl, I.hok.fresh (Nat.le_refl _), rfl, fun ys hy => by rw [I.tuple_inj hy hq]; exact hx⟩, ⟨⟨x1, ?_⟩, hst'.1.at fun o q => (sb.2 it (Ne.symm hne)).trans q, hne⟩, fun b hb => ?_⟩
    · have e1 : ((i + 1 : Nat) : Int) = (i : Int) + 1 := by omega
      rw [e1]; exact he'
    · have hb' : b < s.heap.objs.size := by
        have e' : b = e ∨ b = it := by simpa using hb
        rcases e' with z | z
        · rw [z]; exact hel
        · rw [z]; exact hil
      rw [upd_ne (Nat.ne_of_lt hb')]
      exact (hf b hb).1
  done := by
    intro X hP hw hK hc i pins s σ H E I hf st hg
    subst hP hw hK
    obtain ⟨⟨old, he⟩, hit, hne⟩ := st
    obtain ⟨xs, hq, hx⟩ := hg
    obtain ⟨its, rv, p, hz⟩ := I.tuple hq
    obtain ⟨f0, f1, f2, f3, f4, f5⟩ := hf it (by simp)
    have hl := rv.length
    have D := Draws.tuple (prog := X.prog) (w := X.w) (A := X.A.in1) (I.ok.hd hc) it a hai its.toArray
    have go : ∀ {Q : Option Value → Shared → Prop}, (∀ h', Heap.ExtBut it s.heap h' → Q none { s with heap := h' }) → wpAny (model X.prog X.w) X.A (pyNext (.ref e)) Q E s := by
      intro Q hQ
      unfold pyNext
      have hT : s.TypeIs (.ref e) "enumerate" := ⟨_, he, rfl⟩
      refine wpAny_bind (wpAny_attempt (wpAny_callSpecial?_slot (name := Str.ofString "__next__") hT F.slot_enumerate_next
        (wpAny_call_entry F.slot_enumerate_next hT F.entry_enumerate_next ?_ (F.args_enumerate_next_1 _))))
      show wpAny _ _ (field (.ref e) 2 >>= _) _ _ _
      refine wpAny_bind (wpAny_field he rfl (x := .ref it) rfl ?_)
      refine wpAny_bind (wpAny_nextOf_tuple_end (I.ok.hd hc) hit p (by simp; omega) fun h' x he' hx' => ?_)
      obtain ⟨o, ho, hc⟩ := hx'
      refine wpAny_bind (wpAny_isInstance (T := "StopIteration") (b := true) ⟨o, ho, hc⟩ isSubtype_stop ?_)
      exact wpAny_pure (hQ _ he')
    exact go fun h' eb => ⟨rfl, I.turned (t' := s.toks) (fun b o hb q => eb b o hb q) f0 f1 f3 f4 f5⟩
  self := fun A i s Q E st h => let ⟨⟨_, he⟩, _⟩ := st; wpAny_pyIter_enum he h
def iEnumT (K : PySem.W.Frag) (ta : TA) : TI := fun σ H R => ta σ H fun vs H1 => ∃ a xs, vs = [.ref a] ∧ SqT K H1 a xs ∧ R (IteT K a) H1
end DL

set_option Elab.async false
set_option maxRecDepth 100000
namespace DL
open PySem PySem.Spec PyProof.Rows L2
open Sem (wp)
set_option maxHeartbeats 1000000 in
theorem meets_enumerate_newB1 {v : Value} {o : Obj} {H : Heap → Prop} (B : Begins v o H) :
    Meets (Builtin.«enumerate.__new__» ⟨[.type "enumerate", v], []⟩) (fun _ R s => H s.heap ∧
      R (.ok (.ret (.ref (s.heap.push o).objs.size))) { s with heap := (s.heap.push o).push { cls := .type "enumerate", data := .fields #[.none, .bool false, .ref s.heap.objs.size, rawInt 0, .none, .none] } }) :=
  .of_wp fun prog w A R s h => by
    obtain ⟨hp, g, d, tk, os⟩ := s; obtain ⟨h1, h⟩ := h
    have hsub := sub_enumerate
    have q1 : ∀ {A' : Around} {E : Value → Shared → Prop} {Q : Value → Shared → Prop}, Q (.ref hp.objs.size) ⟨hp.push o, g, d, tk, os⟩ → wpAny (model prog w) A' (pyIter v) Q E ⟨hp, g, d, tk, os⟩ :=
      fun q => B.iter prog w _ _ ⟨hp, g, d, tk, os⟩ _ h1 q
    wp_walk using q1
    refine wpAny_stack_any fun st => wpAny_pure ?_
    split
    · rename_i c _ _ _ _ _
      cases (c == Value.type "enumerate")
      · wp_walk using q1
        exact ⟨_, rfl, h⟩
      · wp_walk using q1
        exact ⟨_, rfl, h⟩
    · wp_walk using q1
      exact ⟨_, rfl, h⟩
section
variable {prog : Program} {w : World} {A : Around} {E : Value → Shared → Prop} {s : Shared}
theorem enum_begins1 {v : Value} {o : Obj} {H : Heap → Prop} {Q : Value → Shared → Prop} (B : Begins v o H) (h1 : H s.heap)
    (h : ∀ h', IsEnum h' (s.heap.objs.size + 1) s.heap.objs.size 0 .none → h'.get? s.heap.objs.size = some o → h'.objs.size = s.heap.objs.size + 2 →
      (∀ b o, s.heap.get? b = some o → h'.get? b = some o) → Q (.ref (s.heap.objs.size + 1)) { s with heap := h' }) :
    wpAny (model prog w) A (call (.type "enumerate") [v]) Q E s := by
  refine callType_new F.called_enumerate (by decide) (F.typeCall_enumerate_1 _) (F.newCall_enumerate_1 _) (fun obj => F.args_object_init_2 obj _) F.entry_enumerate_new
    (meets_enumerate_newB1 B) ⟨h1, ?_⟩
  have hz : (s.heap.push o).objs.size = s.heap.objs.size + 1 := Heap.size_push ..
  show _ ∧ _
  rw [hz]
  have he : IsEnum ((s.heap.push o).push { cls := .type "enumerate", data := .fields #[.none, .bool false, .ref s.heap.objs.size, rawInt 0, .none, .none] }) (s.heap.objs.size + 1) s.heap.objs.size 0 .none := by
    have := Heap.get?_push_size (s.heap.push o) (o := { cls := .type "enumerate", data := .fields #[.none, .bool false, .ref s.heap.objs.size, rawInt 0, .none, .none] }) rfl
    rw [hz] at this; exact this
  refine ⟨⟨_, he, rfl⟩, h _ he (Heap.get?_push_of_some _ (Heap.get?_push_size _ B.free)) (by rw [Heap.size_push, hz]) fun b o x => Heap.get?_push_of_some _ (Heap.get?_push_of_some _ x)⟩
end
theorem pi_enumT {X : Cx} {e : Expr} {ta : TA} {p pos tpos : Pos} {elts : List Expr} {kk : Nat} (hg : Gl X "enumerate") (hm : X.mg "enumerate" = none) (ha : PA X [e] ta) (hs : starEach [e] X.env = [(false, eval e X.env)] := by rfl) :
    PI X (.Tuple elts kk tpos) (.Call (.Name "enumerate" p) [e] [] pos) (iEnumT X.K ta) := by
  refine ⟨fun pins s σ H R I h => ?_⟩
  refine Call_ (ld_blt I hg hm boot_enumerate (PyProof.Rows.callWith_type1 (thn (ha.run pos pins s σ H _ I h) fun us s1 ⟨vs, H1, I1, r1, q1⟩ => ?_) hs rfl))
  obtain ⟨a, xs, ex, hq, q⟩ := q1
  subst ex
  cases r1 with
  | cons r rr =>
    cases rr
    cases r
    obtain ⟨its, rv, p', hz⟩ := I1.tuple hq
    have hal : a < s1.heap.objs.size := by obtain ⟨o, ho, _⟩ := id p'; exact Heap.lt_size ho
    refine enum_begins1 (begins_tuple a its.toArray) (show s1.heap.IsTuple a its.toArray from p') fun h' he hit hsz hk => wpAny_pyIter_enum he ?_
    have I2 : Inv X pins σ H1 { s1 with heap := h' } := I1.kept (t' := s1.toks) hk
    refine ⟨s1.heap.objs.size + 1, [s1.heap.objs.size + 1, s1.heap.objs.size], _, _, H1, rfl, I2, turn_enumT a (s1.heap.objs.size + 1) s1.heap.objs.size (Nat.ne_of_lt hal) (Nat.ne_of_gt (Nat.lt_succ_of_lt hal)),
      ⟨⟨.none, he⟩, ⟨_, hit, rfl, rfl⟩, Nat.succ_ne_self _⟩, fun b hb => ?_, q⟩
    have e' : b = s1.heap.objs.size + 1 ∨ b = s1.heap.objs.size := by simpa using hb
    have hle : s1.heap.objs.size ≤ b := by
      rcases e' with z | z
      · rw [z]; exact Nat.le_add_right _ _
      · rw [z]; exact Nat.le_refl _
    exact I1.fpOk hle (I1.hok.fresh hle)
theorem walk_enumT {K : PySem.W.Frag} {a : Addr} {xs : List V} : Walk (IteT K a) xs.length (fun H => SqT K H a xs) (YPair (fun i => some (.int (i : Nat))) (fun i => xs[i]?)) := by
  refine ⟨fun i _ hi q => ⟨xs, xs[i], q, by simp [hi]⟩, fun _ q => ⟨xs, q, Nat.le_refl _⟩, fun i H v H' _ q y => ?_⟩
  obtain ⟨T, x, h1, h2, h3, h4⟩ := y
  exact ⟨T, .int (i : Nat), x, h1, h2, h3, rfl, h4 xs q⟩
end DL

set_option Elab.async false
set_option maxRecDepth 100000
namespace DL
open PySem L2
def top (i : Nat) : Stmt := PySem.Challenge.pw_drawerlocks_k16_whole_guards.main.body.getD i (.Pass ⟨0, 0, 0, 0⟩)
abbrev sIsInt : Stmt := top 13
abbrev sIsCount : Stmt := top 14
abbrev sIsDrawer : Stmt := top 15
abbrev s_is_set : Stmt := top 16
abbrev s_is_pair : Stmt := top 17
abbrev sIsBar : Stmt := top 18
abbrev s_all_bars : Stmt := top 19
abbrev s_first_standing : Stmt := top 20
abbrev s_fits : Stmt := top 21
abbrev s_hinders : Stmt := top 22
abbrev s_moved : Stmt := top 23
abbrev sInit : Stmt := inClass (top 25) 0
abbrev sDrawers : Stmt := inClass (top 25) 1
abbrev sBars : Stmt := inClass (top 25) 2
abbrev s_free_drawers : Stmt := top 26
abbrev s_goes : Stmt := top 27
abbrev s_bars_against : Stmt := top 28
abbrev sCheckDrawers : Stmt := top 29
abbrev sCheckBars : Stmt := top 30
abbrev s_check_cabinet : Stmt := top 31
abbrev s_check_few_drawers : Stmt := top 32
abbrev s_check_number : Stmt := top 33
abbrev s_first_rows : Stmt := top 35
abbrev s_reached_pulls : Stmt := top 36
abbrev s_rows_from : Stmt := top 37
abbrev s_any_fits : Stmt := top 39
abbrev s_open_pattern : Stmt := top 40
abbrev s_guards : Stmt := top 44
abbrev s_is_guarded : Stmt := top 45
abbrev s_reached_beside : Stmt := top 46
abbrev s_check_pairs : Stmt := top 47
abbrev sTaken : Stmt := top 49
abbrev sParts : Stmt := top 50
abbrev sMade : Stmt := top 51
abbrev s__law_hold : Stmt := top 52
abbrev s__law_free : Stmt := top 53
abbrev s__law_moved : Stmt := top 54
abbrev s__law_rows : Stmt := top 55
abbrev s__law_subsets : Stmt := top 56
abbrev s__law_all_bars : Stmt := top 57
abbrev s__law_good : Stmt := top 58
abbrev s_law : Stmt := top 59
end DL

set_option Elab.async false
set_option maxRecDepth 100000
namespace DL
open PySem L2
/-! ### the facts of the top -/
structure Bt (mg : Str → Option Value) : Prop where
  isinstance : mg "isinstance" = none
  int : mg "int" = none
  bool : mg "bool" = none
  tuple : mg "tuple" = none
  len : mg "len" = none
  enumerate : mg "enumerate" = none
  range : mg "range" = none
  sorted : mg "sorted" = none
/-! ### is_integer -/
structure spIsInt (K : PySem.W.Frag) (vs : List V) (H : Hp) (Q : VK) (_ : XK) : Prop where
  h : ∃ (v : V) (t : Value) (b1 b2 : Bool), vs = [v] ∧ TyX K H v t ∧ PySem.W.kitOne K t (.type "int") = some b1 ∧ PySem.W.kitOne K t (.type "bool") = some b2 ∧ Q (.bl (b1 && !b2)) H
section
variable {P : Program} {w : World} {K : PySem.W.Frag} {mg : Str → Option Value} {base : Heap}
theorem scIsInt : FnScope ["value"] ["value"] (defScope sIsInt) := ⟨rfl, rfl, rfl, by decide +kernel, rfl, by decide +kernel, by decide +kernel⟩
theorem ok_isInt {f : Addr} {fd : FuncData} (F : Fun K "is_integer" "is_integer" sIsInt f fd) (T : Bt mg) : FnOk P w K mg base CX0 1 f fd ["value"] (spIsInt K) := by
  refine F.ok scIsInt (fun vs H Q E h => ?_) (fun cdv A outer s H vs Q E hr h => ?_)
  · obtain ⟨v, t, b1, b2, rfl, _⟩ := h.h
    rfl
  · obtain ⟨v, t, b1, b2, rfl, ty, k1, k2, k⟩ := h.h
    refine ⟨_, pss_one (ps_ret (pe_and (pe_callB call_isi (by rfl) T.isinstance (by decide +kernel) (pa_cons (pv 0) (pa_cons (pe_bltn (v := .ty "int") (by rfl) T.int (by decide +kernel) rfl) pa_nil)))
      (pe_one (pe_not (pe_callB call_isi (by rfl) T.isinstance (by decide +kernel) (pa_cons (pv 0) (pa_cons (pe_bltn (v := .ty "bool") (by rfl) T.bool (by decide +kernel) rfl) pa_nil))))))), ?_⟩
    refine ⟨_, rfl, _, _, t, _, b1, rfl, .ty "int", ty, k1, b1, rfl, ?_⟩
    cases b1 with
    | false => exact iteF k
    | true => exact iteT ⟨_, rfl, _, _, t, _, b2, rfl, .ty "bool", ty, k2, b2, rfl, k⟩
/-! ### is_drawer_count(value), is_drawer(drawers, value) -/
/-- an int as value: whether it is one; any other known thing: False -/
structure spIsCount (K : PySem.W.Frag) (vs : List V) (H : Hp) (Q : VK) (_ : XK) : Prop where
  h : (∃ n : Int, vs = [.int n] ∧ Q (.bl (decide (1 ≤ n) && decide (n ≤ 7))) H) ∨
  ∃ (v : V) (t : Value) (b1 b2 : Bool), vs = [v] ∧ TyX K H v t ∧ PySem.W.kitOne K t (.type "int") = some b1 ∧ PySem.W.kitOne K t (.type "bool") = some b2 ∧ (b1 && !b2) = false ∧ Q (.bl false) H
theorem scIsCount : FnScope ["value"] ["value"] (defScope sIsCount) := ⟨rfl, rfl, rfl, by decide +kernel, rfl, by decide +kernel, by decide +kernel⟩
theorem ok_isCount {f f1 : Addr} {fd fd1 : FuncData} (F : Fun K "is_drawer_count" "is_drawer_count" sIsCount f fd) (_T : Bt mg) (G : FnOk P w K mg base CX0 1 f1 fd1 ["value"] (spIsInt K)) (g1 : mg "is_integer" = some (.ref f1)) (k1 : PySem.W.keepIn K (.ref f1) = true) (b1 : Binds K fd1 ["value"] [])
    (gM : ∃ t, mg "MOST_DRAWERS" = some (.int 7 t)) : FnOk P w K mg base CX0 2 f fd ["value"] (spIsCount K) := by
  refine F.ok scIsCount (fun vs H Q E h => ?_) (fun cdv A outer s H vs Q E hr h => ?_)
  · rcases h.h with ⟨n, rfl, _⟩ | ⟨v, t, b1, b2, rfl, _⟩ <;> rfl
  · obtain ⟨tM, gM⟩ := gM
    refine ⟨_, pss_one (ps_ret (pe_and (pe_call G (hr.mono (by decide)) rfl g1 k1 b1 .nil pass0 (pa_cons (pv 0) pa_nil)) (pe_one (pe_chain op_le op_le pe_int (pv 0) (pe_glob (v := .int 7) rfl gM ⟨_, rfl⟩))))), ?_⟩
    rcases h.h with ⟨n, rfl, k⟩ | ⟨v, t, c1, c2, rfl, ty, e1, e2, e3, k⟩
    · refine ⟨_, rfl, ⟨.int n, .type "int", true, false, rfl, .base (.int n), kit_ty (by decide +kernel), kit_ty (by decide +kernel), true, rfl, iteT ?_⟩⟩
      refine ⟨_, rfl, _, _, rfl, rfl, _, rfl, ?_⟩
      by_cases h1 : 1 ≤ n
      · rw [decide_eq_true h1] at k ⊢
        exact iteT ⟨_, _, rfl, rfl, k⟩
      · rw [decide_eq_false h1] at k ⊢
        exact iteF k
    · refine ⟨_, rfl, ⟨v, t, c1, c2, rfl, ty, e1, e2, _, rfl, ?_⟩⟩
      rw [e3]
      exact iteF k
structure spIsDrawer (K : PySem.W.Frag) (vs : List V) (H : Hp) (Q : VK) (_ : XK) : Prop where
  h : ∃ n : Int, (∃ i : Int, vs = [.int n, .int i] ∧ Q (.bl (decide (0 ≤ i) && decide (i < n))) H) ∨
  ∃ (v : V) (t : Value) (b1 b2 : Bool), vs = [.int n, v] ∧ TyX K H v t ∧ PySem.W.kitOne K t (.type "int") = some b1 ∧ PySem.W.kitOne K t (.type "bool") = some b2 ∧ (b1 && !b2) = false ∧ Q (.bl false) H
theorem scIsDrawer : FnScope ["drawers", "value"] ["drawers", "value"] (defScope sIsDrawer) := ⟨rfl, rfl, rfl, by decide +kernel, rfl, by decide +kernel, by decide +kernel⟩
theorem ok_isDrawer {f f1 : Addr} {fd fd1 : FuncData} (F : Fun K "is_drawer" "is_drawer" sIsDrawer f fd) (_T : Bt mg) (G : FnOk P w K mg base CX0 1 f1 fd1 ["value"] (spIsInt K)) (g1 : mg "is_integer" = some (.ref f1)) (k1 : PySem.W.keepIn K (.ref f1) = true) (b1 : Binds K fd1 ["value"] []) :
    FnOk P w K mg base CX0 2 f fd ["drawers", "value"] (spIsDrawer K) := by
  refine F.ok scIsDrawer (fun vs H Q E h => ?_) (fun cdv A outer s H vs Q E hr h => ?_)
  · rcases h.h with ⟨n, ⟨i, rfl, _⟩ | ⟨v, t, b1, b2, rfl, _⟩⟩ <;> rfl
  · refine ⟨_, pss_one (ps_ret (pe_and (pe_call G (hr.mono (by decide)) rfl g1 k1 b1 .nil pass0 (pa_cons (pv 1) pa_nil)) (pe_one (pe_chain op_le op_lt pe_int (pv 1) (pv 0))))), ?_⟩
    rcases h.h with ⟨n, ⟨i, rfl, k⟩ | ⟨v, t, c1, c2, rfl, ty, e1, e2, e3, k⟩⟩
    · refine ⟨_, rfl, ⟨.int i, .type "int", true, false, rfl, .base (.int i), kit_ty (by decide +kernel), kit_ty (by decide +kernel), true, rfl, iteT ?_⟩⟩
      refine ⟨_, rfl, _, _, rfl, rfl, _, rfl, ?_⟩
      by_cases h1 : 0 ≤ i
      · rw [decide_eq_true h1] at k ⊢
        exact iteT ⟨_, rfl, _, _, rfl, rfl, k⟩
      · rw [decide_eq_false h1] at k ⊢
        exact iteF k
    · refine ⟨_, rfl, ⟨v, t, c1, c2, rfl, ty, e1, e2, _, rfl, ?_⟩⟩
      rw [e3]
      exact iteF k
end
end DL

set_option Elab.async false
set_option maxRecDepth 100000
namespace DL
open PySem L2
/-! ### is_bar -/
def scV : V → Bool
  | .non => true | .bl _ => true | .int _ => true | .str _ => true | _ => false
def isD (n : Int) : V → Bool
  | .int i => decide (0 ≤ i) && decide (i < n)
  | _ => false
def inW : V → Bool
  | .str z => decide (z = "open") || decide (z = "shut")
  | _ => false
def barB (n : Int) (x0 x1 x2 x3 : V) : Bool := isD n x0 && (isD n x2 && (!decide (x0 = x2) && (inW x1 && inW x3)))
theorem inW_in (x : V) (h : scV x = true) : inV x [.str "open", .str "shut"] = inW x ∧ flatV x = true := by
  have z1 : ∀ z : Str, ((("open" : Str) == z) || ((("shut" : Str) == z) || false)) = (decide (z = "open") || decide (z = "shut")) := fun z => by
    rw [beq_dec, beq_dec, Bool.or_false]
    congr 1
    · exact decide_eq_decide.mpr ⟨Eq.symm, Eq.symm⟩
    · exact decide_eq_decide.mpr ⟨Eq.symm, Eq.symm⟩
  cases x with
  | str z => exact ⟨z1 z, rfl⟩
  | non => exact ⟨rfl, rfl⟩
  | bl b => exact ⟨rfl, rfl⟩
  | int i => exact ⟨rfl, rfl⟩
  | _ => cases h
theorem spIsDrawer_sc {K : PySem.W.Frag} {n : Int} {x : V} {H : Hp} {Q : VK} {E : XK} (hx : scV x = true) (k : Q (.bl (isD n x)) H) : spIsDrawer K [.int n, x] H Q E := by
  cases x with
  | int i => exact ⟨⟨n, .inl ⟨i, rfl, k⟩⟩⟩
  | non => exact ⟨⟨n, .inr ⟨.non, .type "NoneType", false, false, rfl, .base .non, kit_ty (by decide +kernel), kit_ty (by decide +kernel), rfl, k⟩⟩⟩
  | bl b => exact ⟨⟨n, .inr ⟨.bl b, .type "bool", true, true, rfl, .base (.bl b), kit_ty (by decide +kernel), kit_ty (by decide +kernel), rfl, k⟩⟩⟩
  | str z => exact ⟨⟨n, .inr ⟨.str z, .type "str", false, false, rfl, .base (.str z), kit_ty (by decide +kernel), kit_ty (by decide +kernel), rfl, k⟩⟩⟩
  | _ => cases hx
theorem tyT {K : PySem.W.Frag} {H : Hp} {a : Addr} {xs : List V} (h : SqT K H a xs) : TyX K H (.ref a) (.type "tuple") := by
  rcases h with (h | ⟨o, h⟩) | ⟨o, its, n, h1, h2, _⟩
  · exact .base (.tup h)
  · exact .fTuple h
  · exact .kTuple h1 h2
structure spIsBar (K : PySem.W.Frag) (vs : List V) (H : Hp) (Q : VK) (_ : XK) : Prop where
  h : ∃ n : Int, (∃ (v : V) (t : Value), vs = [.int n, v] ∧ TyX K H v t ∧ PySem.W.kitOne K t (.type "tuple") = some false ∧ Q (.bl false) H) ∨
  (∃ (a : Addr) (xs : List V), vs = [.int n, .ref a] ∧ SqT K H a xs ∧ xs.length ≠ 4 ∧ Q (.bl false) H) ∨
  ∃ (a : Addr) (x0 x1 x2 x3 : V), vs = [.int n, .ref a] ∧ SqT K H a [x0, x1, x2, x3] ∧ scV x0 = true ∧ scV x1 = true ∧ scV x2 = true ∧ scV x3 = true ∧ Q (.bl (barB n x0 x1 x2 x3)) H
section
variable {P : Program} {w : World} {K : PySem.W.Frag} {mg : Str → Option Value} {base : Heap}
theorem scIsBar : FnScope ["drawers", "value", "drawer", "way", "other", "stand"] ["drawers", "value"] (defScope sIsBar) := ⟨rfl, rfl, rfl, by decide +kernel, rfl, by decide +kernel, by decide +kernel⟩
theorem ok_isBar {f f1 : Addr} {fd fd1 : FuncData} (F : Fun K "is_bar" "is_bar" sIsBar f fd) (T : Bt mg) (G : FnOk P w K mg base CX0 2 f1 fd1 ["drawers", "value"] (spIsDrawer K)) (g1 : mg "is_drawer" = some (.ref f1)) (k1 : PySem.W.keepIn K (.ref f1) = true) (b1 : Binds K fd1 ["drawers", "value"] [])
    (gW : ∃ aW, mg "WORDS" = some (.ref aW) ∧ ∀ H, SqT K H aW [.str "open", .str "shut"]) : FnOk P w K mg base CX0 3 f fd ["drawers", "value"] (spIsBar K) := by
  refine F.ok scIsBar (fun vs H Q E h => ?_) (fun cdv A outer s H vs Q E hr h => ?_)
  · rcases h.h with ⟨n, ⟨v, t, rfl, _⟩ | ⟨a, xs, rfl, _⟩ | ⟨a, x0, x1, x2, x3, rfl, _⟩⟩ <;> rfl
  · obtain ⟨aW, gW, hW⟩ := gW
    refine ⟨_, pss_cons (ps_if (PW.pt (pw_or (pt_not (pt_val (pe_callB call_isi (by rfl) T.isinstance (by decide +kernel) (pa_cons (pv 1) (pa_cons (pe_bltn (v := .ty "tuple") (by rfl) T.tuple (by decide +kernel) rfl) pa_nil)))))
        (pw_or1 (pt_cmpR op_ne (pe_callB call_len_seq (by rfl) T.len PySem.boot_len (pa_cons (pv 1) pa_nil)) pe_int (nomark _))))) (pss_one (ps_ret pe_bl)) pss_nil)
      (pss_cons (ps_asg (pv 1) (pg_tup (by rfl) (pgs_cons (pg_name (i := 2) scIsBar.nd rfl (.inl rfl)) (pgs_cons (pg_name (i := 3) scIsBar.nd rfl (.inl rfl)) (pgs_cons (pg_name (i := 4) scIsBar.nd rfl (.inl rfl)) (pgs_cons (pg_name (i := 5) scIsBar.nd rfl (.inl rfl)) pgs_nil))))))
      (pss_cons (ps_if (PW.pt (pw_or (pt_not (pt_val (pe_call G (hr.mono (by decide)) rfl g1 k1 b1 .nil pass0 (pa_cons (pv 0) (pa_cons (pv 2) pa_nil))))) (pw_or1 (pt_not (pt_val (pe_call G (hr.mono (by decide)) rfl g1 k1 b1 .nil pass0 (pa_cons (pv 0) (pa_cons (pv 4) pa_nil)))))))) (pss_one (ps_ret pe_bl)) pss_nil)
      (pss_one (ps_ret (pe_and (pe_cmpR op_ne (pv 2) (pv 4) (nomark _)) (pe_and (pe_cmpR op_in_seq (pv 3) (pe_glob (v := .ref aW) rfl gW rfl) (by rfl)) (pe_one (pe_cmpR op_in_seq (pv 5) (pe_glob (v := .ref aW) rfl gW rfl) (by rfl))))))))), ?_⟩
    rcases h.h with ⟨n, ⟨v, t, rfl, ty, e, k⟩ | ⟨a, xs, rfl, hq, hl, k⟩ | ⟨a, x0, x1, x2, x3, rfl, hq, c0, c1, c2, c3, k⟩⟩
    · exact ⟨_, rfl, _, _, t, _, false, rfl, .ty "tuple", ty, e, _, rfl, iteT (iteT k)⟩
    · refine ⟨_, rfl, _, _, _, _, true, rfl, .ty "tuple", tyT hq, kit_ty (by decide +kernel), _, rfl, iteF ?_⟩
      refine ⟨_, rfl, a, xs, rfl, .inr hq, rfl, _, rfl, ?_⟩
      refine ite2 (fun _ => k) (fun z => ?_)
      exact absurd (show (.int (xs.length : Int) : V) = .int 4 by simpa using z) (fun q => hl (by injection q with q; omega))
    · refine ⟨_, rfl, _, _, _, _, true, rfl, .ty "tuple", tyT hq, kit_ty (by decide +kernel), _, rfl, iteF ?_⟩
      refine ⟨_, rfl, a, _, rfl, .inr hq, rfl, _, rfl, iteF ?_⟩
      refine ⟨_, rfl, a, _, rfl, hq, rfl, x0, _, rfl, x1, _, rfl, x2, _, rfl, x3, _, rfl, rfl, ?_⟩
      refine ⟨_, rfl, _, rfl, ?_⟩
      refine spIsDrawer_sc c0 ⟨_, rfl, ?_⟩
      unfold barB at k
      cases d0 : isD n x0 with
      | false => rw [d0] at k; exact iteT (iteT k)
      | true =>
        rw [d0] at k
        refine iteF ⟨_, rfl, _, rfl, ?_⟩
        refine spIsDrawer_sc c2 ⟨_, rfl, ?_⟩
        cases d2 : isD n x2 with
        | false => rw [d2] at k; exact iteT k
        | true =>
          rw [d2] at k
          refine iteF ?_
          obtain ⟨i0, rfl⟩ : ∃ i, x0 = .int i := by cases x0 <;> first | exact ⟨_, rfl⟩ | cases d0
          obtain ⟨i2, rfl⟩ : ∃ i, x2 = .int i := by cases x2 <;> first | exact ⟨_, rfl⟩ | cases d2
          refine ⟨_, rfl, _, rfl, rfl, _, rfl, ?_⟩
          have k' : Q (.bl (!decide ((.int i0 : V) = .int i2) && (inW x1 && inW x3))) H := k
          cases e : decide ((.int i0 : V) = .int i2) with
          | true => rw [e] at k'; exact iteF k'
          | false =>
            rw [e] at k'
            refine iteT ⟨_, rfl, aW, _, rfl, .inr (hW H), (inW_in x1 c1).2, rfl, _, rfl, ?_⟩
            show if inV x1 _ = true then _ else _
            rw [(inW_in x1 c1).1]
            have k'' : Q (.bl (inW x1 && inW x3)) H := k'
            cases e1 : inW x1 with
            | false => rw [e1] at k''; exact iteF k''
            | true =>
              rw [e1] at k''
              refine iteT ⟨_, rfl, aW, _, rfl, .inr (hW H), (inW_in x3 c3).2, rfl, ?_⟩
              show Q (.bl (inV x3 _)) H
              rw [(inW_in x3 c3).1]
              exact k''
end
end DL

set_option Elab.async false
set_option maxRecDepth 100000
namespace DL
open PySem L2
/-! ### bars of the heap -/
structure BarsAt (H : Hp) (t : Addr) (ks : List (Addr × Bar)) : Prop where
  tu : H t = some (.tup (ks.map fun k => V.ref k.1))
  el : ∀ k ∈ ks, H k.1 = some (.tup k.2.vs)
theorem BarsAt.same {H H' : Hp} {t : Addr} {ks : List (Addr × Bar)} (B : BarsAt H t ks) (s : Same H H') : BarsAt H' t ks := ⟨s _ _ B.tu, fun k hk => s _ _ (B.el k hk)⟩
def Bar.ok (n : Int) (b : Bar) : Prop := 0 ≤ b.d ∧ b.d < n ∧ 0 ≤ b.o ∧ b.o < n ∧ b.d ≠ b.o
theorem Bar.ok.low {n : Int} {b : Bar} (h : b.ok n) (hn : n ≤ 7) : b.low := by
  obtain ⟨h1, h2, h3, h4, _⟩ := h
  exact ⟨h1, by omega, h3, by omega⟩
structure OkBars (n : Int) (bs : List Bar) : Prop where
  ok : ∀ b ∈ bs, b.ok n
  asc : bs.Pairwise fun x y => x.code < y.code
theorem inW_wd (b : Bool) : inW (.str (wd b)) = true := by revert b; decide +kernel
theorem barB_ok {n : Int} {b : Bar} (h : b.ok n) : barB n (.int b.d) (.str (wd b.w)) (.int b.o) (.str (wd b.t)) = true := by
  obtain ⟨h1, h2, h3, h4, h5⟩ := h
  unfold barB
  rw [inW_wd, inW_wd]
  show ((decide (0 ≤ b.d) && decide (b.d < n)) && ((decide (0 ≤ b.o) && decide (b.o < n)) && (!decide ((.int b.d : V) = .int b.o) && true))) = true
  have e : decide ((.int b.d : V) = .int b.o) = false := decide_eq_false fun q => h5 (by injection q)
  rw [decide_eq_true h1, decide_eq_true h2, decide_eq_true h3, decide_eq_true h4, e]
  rfl
theorem spIsBar_ok {K : PySem.W.Frag} {n : Int} {a : Addr} {b : Bar} {H : Hp} {Q : VK} {E : XK} (h : b.ok n) (ha : SqT K H a b.vs) (k : Q (.bl true) H) : spIsBar K [.int n, .ref a] H Q E :=
  ⟨⟨n, .inr (.inr ⟨a, _, _, _, _, rfl, ha, rfl, rfl, rfl, rfl, by rw [barB_ok h]; exact k⟩)⟩⟩
theorem SqT.of' {K : PySem.W.Frag} {H : Hp} {a : Addr} {xs : List V} (h : H a = some (.tup xs)) : SqT K H a xs := .inl (.inl h)
theorem same_upd {H : Hp} {p : Addr} {o : HO} (h : H p = none) : Same H (upd H p o) := fun b u e => by rw [upd_ne (ne_of_none e h)]; exact e
theorem at_prev {α : Type} {xs : List α} {i : Nat} {v : α} (h0 : 0 < i) (h : xs[i - 1]? = some v) : atI xs ((i : Int) - 1) = some v := by
  have e : (i : Int) - 1 = ((i - 1 : Nat) : Int) := by omega
  rw [e]
  exact atI_nat h
theorem pw_prev {bs : List Bar} (h : bs.Pairwise fun x y => x.code < y.code) {i : Nat} (h0 : 0 < i) {x y : Bar} (hx : bs[i - 1]? = some x) (hy : bs[i]? = some y) : x.code < y.code := by
  obtain ⟨l1, e1⟩ := List.getElem?_eq_some_iff.mp hx
  obtain ⟨l2, e2⟩ := List.getElem?_eq_some_iff.mp hy
  have := List.pairwise_iff_getElem.mp h (i - 1) i l1 l2 (by omega)
  rw [e1, e2] at this
  exact this
theorem not_leq {n : Int} {x y : Bar} (hn : n ≤ 7) (hx : x.ok n) (hy : y.ok n) (h : x.code < y.code) : y.leq x = false := by
  rw [Bar.leq_code (hy.low hn) (hx.low hn)]
  exact decide_eq_false (by omega)
/-! ### check_drawers, check_bars, __init__ of what is right -/
structure spCheckDrawers (vs : List V) (H : Hp) (Q : VK) (_ : XK) : Prop where
  h : ∃ n : Int, vs = [.int n] ∧ 1 ≤ n ∧ n ≤ 7 ∧ Q .non H
structure spCheckBars (vs : List V) (H : Hp) (Q : VK) (_ : XK) : Prop where
  h : ∃ (n : Int) (t : Addr) (ks : List (Addr × Bar)), vs = [.int n, .ref t] ∧ n ≤ 7 ∧ BarsAt H t ks ∧ OkBars n (ks.map (·.2)) ∧ ∀ H', Same H H' → Q .non H'
theorem kd_ : ¬ (("_drawers" : Str) = "_bars") := by decide +kernel
def cfl (n : Int) (t : Addr) : List (Str × V) := putF "_bars" (.ref t) (putF "_drawers" (.int n) [])
theorem cfl_d (n : Int) (t : Addr) : (cfl n t).lookup ("_drawers" : Str) = some (.int n) := by
  unfold cfl
  rw [lookup_putF, if_neg kd_, lookup_putF, if_pos rfl]
theorem cfl_b (n : Int) (t : Addr) : (cfl n t).lookup ("_bars" : Str) = some (.ref t) := by
  unfold cfl
  rw [lookup_putF, if_pos rfl]
/-- a Cabinet stands at c -/
def CabAt (C : Addr) (H : Hp) (c : Addr) (n : Int) (t : Addr) : Prop := ∃ dx, H c = some (.ins C dx (cfl n t))
structure spInit (C : Addr) (vs : List V) (H : Hp) (Q : VK) (_ : XK) : Prop where
  h : ∃ (p dx : Addr) (n : Int) (t : Addr) (ks : List (Addr × Bar)), vs = [.ref p, .int n, .ref t] ∧ H p = some (.ins C dx []) ∧ 1 ≤ n ∧ n ≤ 7 ∧ BarsAt H t ks ∧ OkBars n (ks.map (·.2)) ∧
    ∀ H', H' p = some (.ins C dx (cfl n t)) → (∀ b o, b ≠ p → H b = some o → H' b = some o) → Q .non H'
/-- the class -/
structure CabT (K : PySem.W.Frag) (mg : Str → Option Value) (C : Addr) : Prop where
  cl : Cls K C
  nD : NoAttr K C "_drawers"
  nB : NoAttr K C "_bars"
  mgC : mg "Cabinet" = some (.ref C)
section
variable {P : Program} {w : World} {K : PySem.W.Frag} {mg : Str → Option Value} {base : Heap}
theorem scCheckDrawers : FnScope ["drawers"] ["drawers"] (defScope sCheckDrawers) := ⟨rfl, rfl, rfl, by decide +kernel, rfl, by decide +kernel, by decide +kernel⟩
theorem ok_checkDrawers {f f1 : Addr} {fd fd1 : FuncData} (F : Fun K "check_drawers" "check_drawers" sCheckDrawers f fd) (G : FnOk P w K mg base CX0 2 f1 fd1 ["value"] (spIsCount K)) (g1 : mg "is_drawer_count" = some (.ref f1)) (k1 : PySem.W.keepIn K (.ref f1) = true) (b1 : Binds K fd1 ["value"] []) :
    FnOk P w K mg base CX0 3 f fd ["drawers"] spCheckDrawers := by
  refine F.ok scCheckDrawers (fun vs H Q E h => ?_) (fun cdv A outer s H vs Q E hr h => ?_)
  · obtain ⟨n, rfl, _⟩ := h.h
    rfl
  · obtain ⟨n, rfl, h1, h2, k⟩ := h.h
    refine ⟨_, pss_one (ps_if (pt_not (pt_val (pe_call G (hr.mono (by decide)) rfl g1 k1 b1 .nil pass0 (pa_cons (pv 0) pa_nil)))) (pss_one ps_never) pss_nil), ?_⟩
    refine ⟨_, rfl, ⟨.inl ⟨n, rfl, _, rfl, ?_⟩⟩⟩
    rw [decide_eq_true h1, decide_eq_true h2]
    exact iteF k
theorem scCheckBars : FnScope ["drawers", "bars", "index", "bar"] ["drawers", "bars"] (defScope sCheckBars) := ⟨rfl, rfl, rfl, by decide +kernel, rfl, by decide +kernel, by decide +kernel⟩
theorem ok_checkBars {f f1 : Addr} {fd fd1 : FuncData} (F : Fun K "check_bars" "check_bars" sCheckBars f fd) (T : Bt mg) (G : FnOk P w K mg base CX0 3 f1 fd1 ["drawers", "value"] (spIsBar K)) (g1 : mg "is_bar" = some (.ref f1)) (k1 : PySem.W.keepIn K (.ref f1) = true) (b1 : Binds K fd1 ["drawers", "value"] []) :
    FnOk P w K mg base CX0 4 f fd ["drawers", "bars"] spCheckBars := by
  refine F.ok scCheckBars (fun vs H Q E h => ?_) (fun cdv A outer s H vs Q E hr h => ?_)
  · obtain ⟨n, t, ks, rfl, _⟩ := h.h
    rfl
  · obtain ⟨n, t, ks, rfl, hn, B, O, k⟩ := h.h
    have hu : _ < cLine := hr.units0
    refine ⟨_, pss_cons (ps_if (pt_not (pt_val (pe_callB call_isi (by rfl) T.isinstance (by decide +kernel) (pa_cons (pv 1) (pa_cons (pe_bltn (v := .ty "tuple") (by rfl) T.tuple (by decide +kernel) rfl) pa_nil))))) (pss_one ps_never) pss_nil)
      (pss_one (ps_for PassesOwn.never rfl (pi_enumT (by rfl) T.enumerate (pa_cons (pv 1) pa_nil)) (pg_tup (by rfl) (pgs_cons (pg_name (i := 2) scCheckBars.nd rfl (.inl rfl)) (pgs_cons (pg_name (i := 3) scCheckBars.nd rfl (.inl rfl)) pgs_nil)))
        (pss_cons (ps_if (pt_not (pt_val (pe_call G (hr.mono (by decide)) rfl g1 k1 b1 .nil pass0 (pa_cons (pv 0) (pa_cons (pv 3) pa_nil))))) (pss_one ps_never) pss_nil)
        (pss_one (ps_if (PW.pt (pw_and (pt_cmpR op_gt (pv 2) pe_int (nomark _)) (pw_and1 (pt_cmpR (op_leB hu) (pv 3) (pe_ix ix_tup (pv 1) (pe_op op_sub (pv 2) pe_int) (fun _ _ => rfl)) (nomark _))))) (pss_one ps_never) pss_nil))))), ?_⟩
    refine ⟨_, rfl, _, _, _, _, true, rfl, .ty "tuple", tyT (SqT.of' B.tu), kit_ty (by decide +kernel), _, rfl, iteF ?_⟩
    refine ⟨_, rfl, t, _, rfl, SqT.of' B.tu, ?_⟩
    refine for_it walk_enumT (fun i σ H' => ∃ v2 v3, σ = [some (.int n), some (.ref t), v2, v3] ∧ Same H H') ⟨_, _, rfl, Same.refl H⟩ (fun i σ H' _ ⟨_, _, _, s1⟩ => SqT.of' (s1 _ _ B.tu)) ?_ ?_
    · rintro i x σ H1 H2 hi ⟨v2, v3, rfl, s1⟩ ⟨T, x1, x2, rfl, hT, rfl, e1, e2⟩
      have e1' : V.int (i : Nat) = x1 := Option.some.inj e1
      subst e1'
      have e2 : (ks.map fun k => V.ref k.1)[i]? = some x2 := e2
      rw [List.getElem?_map] at e2
      cases ek : ks[i]? with
      | none => rw [ek] at e2; cases e2
      | some kk =>
        rw [ek] at e2
        have e2' : V.ref kk.1 = x2 := Option.some.inj e2
        subst e2'
        have s2 : Same H (upd H1 T (.tup [.int (i : Nat), .ref kk.1])) := s1.trans (same_upd hT)
        have hm : kk ∈ ks := List.mem_of_getElem? ek
        have hok : kk.2.ok n := O.ok _ (List.mem_map.mpr ⟨kk, hm, rfl⟩)
        refine ⟨T, _, rfl, SqT.of' upd_same, rfl, _, _, rfl, _, _, rfl, rfl, ?_⟩
        refine ⟨_, rfl, _, rfl, spIsBar_ok hok (SqT.of' (s2 _ _ (B.el kk hm))) ⟨_, rfl, iteF ?_⟩⟩
        refine ⟨_, rfl, _, _, rfl, rfl, _, rfl, ?_⟩
        refine ite2 (fun z => ?_) (fun z => iteF ⟨_, _, rfl, s2⟩)
        have h0 : 0 < i := by have := of_decide_eq_true z; omega
        obtain ⟨kp, ep⟩ : ∃ kp, ks[i - 1]? = some kp := by
          have := (List.getElem?_eq_some_iff.mp ek).1
          exact ⟨ks[i - 1]'(by omega), List.getElem?_eq_getElem (by omega)⟩
        have hmp : kp ∈ ks := List.mem_of_getElem? ep
        have hokp : kp.2.ok n := O.ok _ (List.mem_map.mpr ⟨kp, hmp, rfl⟩)
        refine ⟨_, rfl, _, rfl, _, rfl, _, _, rfl, rfl, t, _, _, .ref kp.1, rfl, rfl, SqT.of' (s2 _ _ B.tu), at_prev h0 (by rw [List.getElem?_map, ep]; rfl), ?_⟩
        refine ⟨kk.1, kp.1, kk.2, kp.2, rfl, rfl, SqT.of' (s2 _ _ (B.el kk hm)), SqT.of' (s2 _ _ (B.el kp hmp)), _, rfl, ?_⟩
        have hlt : kp.2.code < kk.2.code := pw_prev O.asc h0 (by rw [List.getElem?_map, ep]; rfl) (by rw [List.getElem?_map, ek]; rfl)
        rw [not_leq hn hokp hok hlt]
        exact iteF ⟨_, _, rfl, s2⟩
    · rintro σ H' ⟨v2, v3, rfl, s1⟩
      exact k H' s1
theorem scInit : FnScope ["self", "drawers", "bars"] ["self", "drawers", "bars"] (defScope sInit) := ⟨rfl, rfl, rfl, by decide +kernel, rfl, by decide +kernel, by decide +kernel⟩
theorem ok_init {f f1 f2 C : Addr} {fd fd1 fd2 : FuncData} (F : Fun K "__init__" "Cabinet.__init__" sInit f fd) (T : CabT K mg C) (G1 : FnOk P w K mg base CX0 3 f1 fd1 ["drawers"] spCheckDrawers) (g1 : mg "check_drawers" = some (.ref f1)) (k1 : PySem.W.keepIn K (.ref f1) = true) (b1 : Binds K fd1 ["drawers"] [])
    (G2 : FnOk P w K mg base CX0 4 f2 fd2 ["drawers", "bars"] spCheckBars) (g2 : mg "check_bars" = some (.ref f2)) (k2 : PySem.W.keepIn K (.ref f2) = true) (b2 : Binds K fd2 ["drawers", "bars"] []) : FnOk P w K mg base CX0 5 f fd ["self", "drawers", "bars"] (spInit C) := by
  refine F.ok scInit (fun vs H Q E h => ?_) (fun cdv A outer s H vs Q E hr h => ?_)
  · obtain ⟨p, dx, n, t, ks, rfl, _⟩ := h.h
    rfl
  · obtain ⟨p, dx, n, t, ks, rfl, hp, h1, h7, B, O, k⟩ := h.h
    refine ⟨_, pss_cons (ps_expr (pe_call G1 (hr.mono (by decide)) rfl g1 k1 b1 .nil pass0 (pa_cons (pv 1) pa_nil))) (pss_cons (ps_expr (pe_call G2 (hr.mono (by decide)) rfl g2 k2 b2 .nil pass0 (pa_cons (pv 1) (pa_cons (pv 2) pa_nil))))
      (pss_cons (ps_fld (pv 0) (pv 1) rfl) (pss_one (ps_fld (pv 0) (pv 2) rfl)))), ?_⟩
    refine ⟨_, rfl, ⟨n, rfl, h1, h7, ?_⟩⟩
    refine ⟨_, rfl, _, rfl, ⟨n, t, ks, rfl, h7, B, O, fun H1 s1 => ?_⟩⟩
    refine ⟨_, rfl, _, rfl, p, C, dx, _, rfl, s1 _ _ hp, T.cl, T.nD, (by show 0 < 1000; decide), _, rfl, _, rfl, p, C, dx, _, rfl, upd_same, T.cl, T.nB, (by show 1 < 1000; decide), ?_⟩
    refine k _ upd_same fun b o hb e => ?_
    rw [upd_ne hb, upd_ne hb]
    exact s1 _ _ e
end
end DL

set_option Elab.async false
set_option maxRecDepth 100000
namespace DL
open PySem L2
/-! ### drawing: the row of draws stands at r, the script at sc -/
def But (r : Addr) (H H' : Hp) : Prop := ∀ b o, b ≠ r → H b = some o → H' b = some o
theorem But.refl (r : Addr) (H : Hp) : But r H H := fun _ _ _ h => h
theorem But.trans {r : Addr} {H H1 H2 : Hp} (a : But r H H1) (b : But r H1 H2) : But r H H2 := fun c o hc h => b c o hc (a c o hc h)
theorem sbut {r : Addr} {H H' : Hp} (s : Same H H') : But r H H' := fun c o _ h => s c o h
theorem but_upd {r : Addr} {H : Hp} {o : HO} : But r H (upd H r o) := fun c u hc h => by rw [upd_ne hc]; exact h
theorem But.seq {K : PySem.W.Frag} {r : Addr} {H H' : Hp} {a : Addr} {xs : List V} (s : But r H H') (ha : a ≠ r) (h : SqL K H a xs) : SqL K H' a xs := by
  rcases h with (h | ⟨o, h⟩) | h
  · exact .inl (.inl (s _ _ ha h))
  · exact .inl (.inr ⟨o, s _ _ ha h⟩)
  · exact .inr h
theorem But.tup {r : Addr} {H H' : Hp} {a : Addr} {xs : List V} {ys : List V} (s : But r H H') (hr : H r = some (.lst ys)) (h : H a = some (.tup xs)) : H' a = some (.tup xs) :=
  s _ _ (ne_of h hr (by intro z; cases z)) h
structure RowOk (H : Hp) (r sc : Addr) : Prop where
  h : ∃ i m e : Int, H r = some (.lst [.ref sc, .int i, .int m, .int e]) ∧ 0 ≤ i ∧ 0 ≤ m ∧ m < 2147483647 ∧ 0 ≤ e
theorem RowOk.same {H H' : Hp} {r sc : Addr} (R : RowOk H r sc) (s : Same H H') : RowOk H' r sc := by
  obtain ⟨i, m, e, h, q⟩ := R.h
  exact ⟨⟨i, m, e, s _ _ h, q⟩⟩
theorem But.seqR {K : PySem.W.Frag} {r sc : Addr} {H H' : Hp} {a : Addr} {ns : List Int} (s : But r H H') (R : RowOk H r sc) (h : SqL K H a (ns.map V.int)) : SqL K H' a (ns.map V.int) := by
  obtain ⟨i, m, e, hR, _⟩ := R.h
  have nd : ∀ u : HO, H a = some u → u ≠ .lst [.ref sc, .int i, .int m, .int e] → a ≠ r := fun u hu hn z => by
    rw [z, hR] at hu
    exact hn (Option.some.inj hu).symm
  rcases h with (h | ⟨o, h⟩) | h
  · refine .inl (.inl (s _ _ (nd _ h fun z => ?_) h))
    injection z with z
    cases ns with
    | nil => cases z
    | cons n ns => injection z with z _; cases z
  · exact .inl (.inr ⟨o, s _ _ (nd _ h fun z => by cases z) h⟩)
  · exact .inr h
structure spTaken (K : PySem.W.Frag) (vs : List V) (H : Hp) (Q : VK) (_ : XK) : Prop where
  h : ∃ (r sc : Addr) (ns : List Int) (many : Int), vs = [.ref r, .int many] ∧ RowOk H r sc ∧ SqL K H sc (ns.map V.int) ∧ 1 ≤ many ∧ many ≤ 1000 ∧
    ∀ (v : Int) (H' : Hp), 0 ≤ v → v < many → RowOk H' r sc → But r H H' → Q (.int v) H'
section
variable {P : Program} {w : World} {K : PySem.W.Frag} {mg : Str → Option Value} {base : Heap}
theorem scTaken : FnScope ["_law_row", "_law_many", "_law_found", "_law_cell"] ["_law_row", "_law_many"] (defScope sTaken) := ⟨rfl, rfl, rfl, by decide +kernel, rfl, by decide +kernel, by decide +kernel⟩
theorem ok_taken {f : Addr} {fd : FuncData} (F : Fun K "_law_taken" "_law_taken" sTaken f fd) (T : Bt mg) : FnOk P w K mg base CX0 1 f fd ["_law_row", "_law_many"] (spTaken K) := by
  refine F.ok scTaken (fun vs H Q E h => ?_) (fun cdv A outer s H vs Q E hr h => ?_)
  · obtain ⟨r, sc, ns, many, rfl, _⟩ := h.h
    rfl
  · obtain ⟨r, sc, ns, many, rfl, R, S, h1, h2, k⟩ := h.h
    obtain ⟨i, m, e, hR, hi, hm0, hm, he⟩ := R.h
    have dv : CDivW e many := wide_div (b := 10) (by omega) (by omega) (by decide) (by decide)
    refine ⟨_, pss_cons (ps_if (pt_cmpR op_gt (pe_ix ix_list (pv 0) pe_int (fun _ _ => rfl)) pe_int (nomark _))
        (pss_cons (ps_set (i := 2) scTaken.nd rfl (.inl rfl) (pe_op op_mod (pe_callTy call_int1 (by rfl) T.int (by decide +kernel) (pa_cons (pe_ix ix_list (pv 0) pe_int (fun _ _ => rfl)) pa_nil)) (pv 1)))
        (pss_cons (ps_asg (pe_op op_fdivW (pe_ix ix_list (pv 0) pe_int (fun _ _ => rfl)) (pv 1)) (pg_sub (pv 0) pe_int set_list))
        (pss_one (ps_ret (pv 2))))) pss_nil)
      (pss_cons (ps_asg (pe_op op_add (pe_ix ix_list (pv 0) pe_int (fun _ _ => rfl)) pe_int) (pg_sub (pv 0) pe_int set_list))
      (pss_cons (ps_if (pt_cmpR op_gt (pe_ix ix_list (pv 0) pe_int (fun _ _ => rfl)) (pe_callB call_len_seq (by rfl) T.len PySem.boot_len (pa_cons (pe_ix ix_list (pv 0) pe_int (fun _ _ => rfl)) pa_nil)) (nomark _))
        (pss_cons (ps_asg (pe_op op_mod (pe_callTy call_int1 (by rfl) T.int (by decide +kernel) (pa_cons (pe_op op_add (pe_op op_mul (pe_ix ix_list (pv 0) pe_int (fun _ _ => rfl)) pe_int) pe_int) pa_nil)) pe_int) (pg_sub (pv 0) pe_int set_list))
        (pss_one (ps_ret (pe_op op_mod (pe_callTy call_int1 (by rfl) T.int (by decide +kernel) (pa_cons (pe_op op_fdiv (pe_ix ix_list (pv 0) pe_int (fun _ _ => rfl)) pe_int) pa_nil)) (pv 1))))) pss_nil)
      (pss_cons (ps_set (i := 3) scTaken.nd rfl (.inl rfl) (pe_ix ix_list (pe_ix ix_list (pv 0) pe_int (fun _ _ => rfl)) (pe_op op_sub (pe_ix ix_list (pv 0) pe_int (fun _ _ => rfl)) pe_int) (fun _ _ => rfl)))
      (pss_cons (ps_asg (pe_op op_mod (pe_callTy call_int1 (by rfl) T.int (by decide +kernel) (pa_cons (pe_op op_add (pe_op op_add (pe_op op_mul (pe_ix ix_list (pv 0) pe_int (fun _ _ => rfl)) pe_int) (pv 3)) pe_int) pa_nil)) pe_int) (pg_sub (pv 0) pe_int set_list))
      (pss_cons (ps_if (pt_cmpR op_ge (pv 3) (pe_op op_pow pe_int pe_int) (nomark _)) (pss_one (ps_asg (pe_op op_fdivW (pv 3) (pv 1)) (pg_sub (pv 0) pe_int set_list))) pss_nil)
      (pss_one (ps_ret (pe_op op_mod (pe_callTy call_int1 (by rfl) T.int (by decide +kernel) (pa_cons (pv 3) pa_nil)) (pv 1))))))))), ?_⟩
    refine ⟨_, rfl, r, _, _, .int e, rfl, rfl, SqL.of hR, rfl, _, _, rfl, rfl, _, rfl, ?_⟩
    refine ite2 (fun z => ?_) (fun _ => ?_)
    · refine ⟨_, rfl, r, _, _, .int e, rfl, rfl, SqL.of hR, rfl, .inl ⟨_, rfl, _, rfl, _, _, rfl, rfl, (by omega), ?_⟩⟩
      refine ⟨_, rfl, r, _, _, .int e, rfl, rfl, SqL.of hR, rfl, _, rfl, _, _, rfl, rfl, dv, ?_⟩
      refine ⟨_, rfl, r, _, _, 3, rfl, rfl, hR, rfl, _, rfl, ?_⟩
      exact k _ _ (Int.emod_nonneg _ (by omega)) (Int.emod_lt_of_pos _ (by omega)) ⟨⟨i, m, e / many, upd_same, hi, hm0, hm, Int.ediv_nonneg he (by omega)⟩⟩ but_upd
    · refine ⟨_, rfl, r, _, _, .int i, rfl, rfl, SqL.of hR, rfl, _, _, rfl, rfl, ?_⟩
      refine ⟨_, rfl, r, _, _, 1, rfl, rfl, hR, rfl, ?_⟩
      have S1 : SqL K (upd H r (.lst [.ref sc, .int (i + 1), .int m, .int e])) sc (ns.map V.int) := but_upd.seqR R S
      refine ⟨_, rfl, r, _, _, .int (i + 1), rfl, rfl, SqL.of upd_same, rfl, ?_⟩
      refine ⟨_, rfl, r, _, _, .ref sc, rfl, rfl, SqL.of upd_same, rfl, sc, _, rfl, .inl S1, _, _, rfl, rfl, _, rfl, ?_⟩
      refine ite2 (fun z => ?_) (fun z => ?_)
      · refine ⟨_, rfl, r, _, _, .int m, rfl, rfl, SqL.of upd_same, rfl, _, _, rfl, rfl, .inl ⟨by omega, by omega⟩, _, _, rfl, rfl, .inl ⟨_, rfl, _, _, rfl, rfl, (by show (0 : Int) < 2147483647; decide), ?_⟩⟩
        refine ⟨_, rfl, r, _, _, 2, rfl, rfl, upd_same, rfl, ?_⟩
        refine ⟨_, rfl, r, _, _, .int ((m * 48271 + 11) % 2147483647), rfl, rfl, SqL.of upd_same, rfl, _, _, rfl, rfl, ⟨by decide, by decide⟩, .inl ⟨_, rfl, _, rfl, _, _, rfl, rfl, (by omega), ?_⟩⟩
        refine k _ _ (Int.emod_nonneg _ (by omega)) (Int.emod_lt_of_pos _ (by omega)) ⟨⟨i + 1, (m * 48271 + 11) % 2147483647, e, upd_same, by omega, Int.emod_nonneg _ (by decide), Int.emod_lt_of_pos _ (by decide), he⟩⟩ (but_upd.trans but_upd)
      · have hlt : i < ns.length := by
          have := of_decide_eq_false (by simpa using z : decide ((ns.map V.int).length < i + 1) = false)
          rw [List.length_map] at this
          omega
        have hc : ∃ c, ns[i.toNat]? = some c := ⟨ns[i.toNat]'(by omega), List.getElem?_eq_getElem (by omega)⟩
        obtain ⟨c, hc⟩ := hc
        have hat : atI (ns.map V.int) ((i + 1) - 1) = some (.int c) := by
          have e1 : (i + 1) - 1 = ((i.toNat : Nat) : Int) := by omega
          rw [e1]
          exact atI_nat (by rw [List.getElem?_map, hc]; rfl)
        refine ⟨_, rfl, r, _, _, .ref sc, rfl, rfl, SqL.of upd_same, rfl, _, rfl, r, _, _, .int (i + 1), rfl, rfl, SqL.of upd_same, rfl, _, _, rfl, rfl, sc, _, _, .int c, rfl, rfl, S1, hat, ?_⟩
        refine ⟨_, rfl, r, _, _, .int m, rfl, rfl, SqL.of upd_same, rfl, _, _, rfl, rfl, .inl ⟨by omega, by omega⟩, _, rfl, _, _, rfl, rfl, _, _, rfl, rfl, .inl ⟨_, rfl, _, _, rfl, rfl, (by show (0 : Int) < 2147483647; decide), ?_⟩⟩
        refine ⟨_, rfl, r, _, _, 2, rfl, rfl, upd_same, rfl, ?_⟩
        refine ⟨_, rfl, _, _, rfl, rfl, ⟨by decide, by decide, by decide⟩, _, _, rfl, rfl, _, rfl, ?_⟩
        have m1 := Int.emod_nonneg (m * 48271 + c + 11) (show (2147483647 : Int) ≠ 0 by decide)
        have m2 := Int.emod_lt_of_pos (m * 48271 + c + 11) (show (0 : Int) < 2147483647 by decide)
        have v1 := Int.emod_nonneg c (show many ≠ 0 by omega)
        have v2 := Int.emod_lt_of_pos c (show 0 < many by omega)
        refine ite2 (fun z => ?_) (fun _ => ?_)
        · have hc0 : (10 : Int) ^ (18 : Int).toNat ≤ c := of_decide_eq_true z
          have hc1 : 0 ≤ c := by
            have : (0 : Int) ≤ (10 : Int) ^ (18 : Int).toNat := by decide
            omega
          refine ⟨_, rfl, _, rfl, _, _, rfl, rfl, wide_div (b := 10) (by omega) (by omega) (by decide) (by decide), ?_⟩
          refine ⟨_, rfl, r, _, _, 3, rfl, rfl, upd_same, rfl, ?_⟩
          refine ⟨_, rfl, .inl ⟨_, rfl, _, rfl, _, _, rfl, rfl, (by omega), ?_⟩⟩
          exact k _ _ v1 v2 ⟨⟨i + 1, _, c / many, upd_same, by omega, m1, m2, Int.ediv_nonneg hc1 (by omega)⟩⟩ ((but_upd.trans but_upd).trans but_upd)
        · refine ⟨_, rfl, .inl ⟨_, rfl, _, rfl, _, _, rfl, rfl, (by omega), ?_⟩⟩
          exact k _ _ v1 v2 ⟨⟨i + 1, _, e, upd_same, by omega, m1, m2, he⟩⟩ (but_upd.trans but_upd)
end
end DL

set_option Elab.async false
set_option maxRecDepth 100000
namespace DL
open PySem L2
theorem keys_put {kvs : List (List Key × V)} {bs : List Bar} {b : Bar} (v : V) (h : kvs.map (·.1) = bs.map Bar.key) (hn : bs.Nodup) :
    ∃ bs' : List Bar, (putK kvs b.key v).map (·.1) = bs'.map Bar.key ∧ bs'.Nodup ∧ (∀ x ∈ bs', x = b ∨ x ∈ bs) ∧ bs'.length ≤ bs.length + 1 := by
  unfold putK
  by_cases e : (kvs.any fun kv => decide (kv.1 = b.key)) = true
  · rw [if_pos e]
    refine ⟨bs, ?_, hn, fun x hx => .inr hx, Nat.le_succ _⟩
    rw [← h, List.map_map]
    refine List.map_congr_left fun kv _ => ?_
    show (if kv.1 = b.key then (kv.1, v) else kv).1 = kv.1
    by_cases q : kv.1 = b.key
    · rw [if_pos q]
    · rw [if_neg q]
  · rw [if_neg e]
    have hnot : b ∉ bs := fun hm => e (by
      rw [List.any_eq_true]
      have : b.key ∈ kvs.map (·.1) := by rw [h]; exact List.mem_map.mpr ⟨b, hm, rfl⟩
      obtain ⟨kv, hkv, q⟩ := List.mem_map.mp this
      exact ⟨kv, hkv, decide_eq_true q⟩)
    refine ⟨bs ++ [b], by rw [List.map_append, List.map_append, h]; rfl, ?_, fun x hx => ?_, by simp⟩
    · rw [List.nodup_append]
      refine ⟨hn, List.nodup_cons.mpr ⟨by simp, List.nodup_nil⟩, fun x hx y hy => ?_⟩
      rw [List.mem_singleton.mp hy]
      exact fun q => hnot (q ▸ hx)
    · rcases List.mem_append.mp hx with hx | hx
      · exact .inr hx
      · exact .inl (List.mem_singleton.mp hx)
theorem asc_of {n : Int} (hn : n ≤ 7) {xs bs : List Bar} (hp : xs.Perm bs) (hs : xs.Pairwise fun x y => x.code ≤ y.code) (hd : bs.Nodup) (ho : ∀ b ∈ bs, b.ok n) : OkBars n xs := by
  have hx : ∀ b ∈ xs, b.ok n := fun b hb => ho b (hp.mem_iff.mp hb)
  refine ⟨hx, ?_⟩
  have hd' : xs.Nodup := hp.nodup_iff.mpr hd
  have := hs.and hd'
  refine List.Pairwise.imp_of_mem (fun {a b} ha hb q => ?_) this
  obtain ⟨q1, q2⟩ := q
  rcases Int.lt_or_eq_of_le q1 with z | z
  · exact z
  · exact absurd (Bar.code_inj ((hx a ha).low hn) ((hx b hb).low hn) z) q2
structure spParts (K : PySem.W.Frag) (vs : List V) (H : Hp) (Q : VK) (_ : XK) : Prop where
  h : ∃ (r sc : Addr) (ns : List Int) (most : Int), vs = [.ref r, .int most] ∧ RowOk H r sc ∧ SqL K H sc (ns.map V.int) ∧ 1 ≤ most ∧ most ≤ 7 ∧
    ∀ (p t : Addr) (n : Int) (ks : List (Addr × Bar)) (H' : Hp), H p = none → H t = none → 1 ≤ n → n ≤ most → H' p = some (.lst [.int n, .ref t]) → BarsAt H' t ks → OkBars n (ks.map (·.2)) → ks.length ≤ 13 → RowOk H' r sc → But r H H' → Q (.ref p) H'
theorem three_at {v : Int} (h0 : 0 ≤ v) (h3 : v < 3) : ∃ c : Int, atI [V.int 3, V.int 6, V.int 14] v = some (.int c) ∧ 1 ≤ c ∧ c ≤ 14 := by
  have : v = 0 ∨ v = 1 ∨ v = 2 := by omega
  rcases this with rfl | rfl | rfl
  · exact ⟨3, rfl, by decide, by decide⟩
  · exact ⟨6, rfl, by decide, by decide⟩
  · exact ⟨14, rfl, by decide, by decide⟩
theorem two_at {v : Int} (h0 : 0 ≤ v) (h3 : v < 2) : ∃ c : Bool, atI [V.str "open", V.str "shut"] v = some (.str (wd c)) := by
  have : v = 0 ∨ v = 1 := by omega
  rcases this with rfl | rfl
  · exact ⟨false, rfl⟩
  · exact ⟨true, rfl⟩
section
variable {P : Program} {w : World} {K : PySem.W.Frag} {mg : Str → Option Value} {base : Heap}
theorem scParts : FnScope ["_law_row", "_law_most", "_law_many", "_law_found", "_law_k", "_law_drawer", "_law_other", "_law_way", "_law_stand"] ["_law_row", "_law_most"] (defScope sParts) := ⟨rfl, rfl, rfl, by decide +kernel, rfl, by decide +kernel, by decide +kernel⟩
theorem ok_parts {f f1 : Addr} {fd fd1 : FuncData} (F : Fun K "_law_parts" "_law_parts" sParts f fd) (T : Bt mg) (G : FnOk P w K mg base CX0 1 f1 fd1 ["_law_row", "_law_many"] (spTaken K)) (g1 : mg "_law_taken" = some (.ref f1)) (k1 : PySem.W.keepIn K (.ref f1) = true) (b1 : Binds K fd1 ["_law_row", "_law_many"] []) :
    FnOk P w K mg base CX0 2 f fd ["_law_row", "_law_most"] (spParts K) := by
  refine F.ok scParts (fun vs H Q E h => ?_) (fun cdv A outer s H vs Q E hr h => ?_)
  · obtain ⟨r, sc, ns, most, rfl, _⟩ := h.h
    rfl
  · obtain ⟨r, sc, ns, most, rfl, R, S, h1, h7, k⟩ := h.h
    have hu := hu_of hr
    obtain ⟨i0, m0, e0, hR0, _⟩ := id R.h
    refine ⟨_, pss_cons (ps_par (i := 2) (j := 3) (by rfl) scParts.nd rfl rfl (by decide) rfl rfl (pa_cons (pe_op op_add pe_int (pe_call G (hr.mono (by decide)) rfl g1 k1 b1 .nil pass0 (pa_cons (pv 0) (pa_cons (pv 1) pa_nil)))) (pa_cons pe_dnewT pa_nil)) (by rfl))
      (pss_cons (ps_for PassesOwn.never rfl (pi_range1 (by rfl) T.range (pa_cons (pe_call G (hr.mono (by decide)) rfl g1 k1 b1 .nil pass0 (pa_cons (pv 0) (pa_cons (pe_ix ix_list (pe_lst (pa_cons pe_int (pa_cons pe_int (pa_cons pe_int pa_nil)))) (pe_call G (hr.mono (by decide)) rfl g1 k1 b1 .nil pass0 (pa_cons (pv 0) (pa_cons pe_int pa_nil))) (fun _ _ => rfl)) pa_nil))) pa_nil)) (pg_name (i := 4) scParts.nd rfl (.inl rfl))
        (pss_cons (ps_par (i := 5) (j := 6) (by rfl) scParts.nd rfl rfl (by decide) rfl rfl (pa_cons (pe_call G (hr.mono (by decide)) rfl g1 k1 b1 .nil pass0 (pa_cons (pv 0) (pa_cons (pv 2) pa_nil))) (pa_cons (pe_call G (hr.mono (by decide)) rfl g1 k1 b1 .nil pass0 (pa_cons (pv 0) (pa_cons (pv 2) pa_nil))) pa_nil)) (by rfl))
        (pss_one (ps_if (pt_cmpR op_ne (pv 5) (pv 6) (nomark _))
          (pss_cons (ps_par (i := 7) (j := 8) (by rfl) scParts.nd rfl rfl (by decide) rfl rfl (pa_cons (pe_ix ix_list (pe_lst (pa_cons pe_str (pa_cons pe_str pa_nil))) (pe_op op_fdiv (pe_call G (hr.mono (by decide)) rfl g1 k1 b1 .nil pass0 (pa_cons (pv 0) (pa_cons pe_int pa_nil))) pe_int) (fun _ _ => rfl))
            (pa_cons (pe_ix ix_list (pe_lst (pa_cons pe_str (pa_cons pe_str pa_nil))) (pe_call G (hr.mono (by decide)) rfl g1 k1 b1 .nil pass0 (pa_cons (pv 0) (pa_cons pe_int pa_nil))) (fun _ _ => rfl)) pa_nil)) (by rfl))
          (pss_one (ps_dput hu (pv 3) (pe_tup (pa_cons (pv 5) (pa_cons (pv 7) (pa_cons (pv 6) (pa_cons (pv 8) pa_nil))))) pe_bl rfl))) pss_nil))))
      (pss_one (ps_ret (pe_lst (pa_cons (pv 2) (pa_cons (pe_callTy call_tuple_of (by rfl) T.tuple (by decide +kernel) (pa_cons (pe_callB (cr_sortB (by rfl)) (by rfl) T.sorted (by decide +kernel) (pa_cons (pv 3) pa_nil)) pa_nil)) pa_nil)))))), ?_⟩
    -- many, found
    refine ⟨_, rfl, _, rfl, ⟨⟨r, sc, ns, most, rfl, R, S, h1, by omega, fun v H1 v0 v1 R1 B1 => ?_⟩⟩⟩
    refine ⟨_, _, rfl, rfl, fun d hd => ⟨_, _, rfl, ?_⟩⟩
    obtain ⟨i1, m1, e1, hR1, _⟩ := id R1.h
    have ndr : d ≠ r := (ne_of_none hR1 hd).symm
    have hd0 : H d = none := by
      cases q : H d with
      | none => rfl
      | some o =>
        rw [B1 d o ndr q] at hd
        cases hd
    have R2 : RowOk (upd H1 d (.dT [])) r sc := R1.same (same_upd hd)
    have B2 : But r H (upd H1 d (.dT [])) := B1.trans (sbut (same_upd hd))
    -- range(..)
    refine ⟨_, rfl, (by show 3 ≤ sizeLine; decide), fun l hl => ?_⟩
    have nlr : l ≠ r := by
      obtain ⟨_, _, _, q, _⟩ := id R2.h
      exact (ne_of_none q hl).symm
    have R3 := R2.same (same_upd (o := .lst [V.int 3, V.int 6, V.int 14]) hl)
    have B3 : But r H _ := B2.trans (sbut (same_upd (o := .lst [V.int 3, V.int 6, V.int 14]) hl))
    refine ⟨_, rfl, ⟨⟨r, sc, ns, 3, rfl, R3, B3.seqR R S, by decide, by decide, fun v2 H3 w0 w1 R4 B4 => ?_⟩⟩⟩
    obtain ⟨c, hc, c1, c14⟩ := three_at w0 w1
    refine ⟨l, _, v2, .int c, rfl, rfl, SqL.of (B4 _ _ nlr upd_same), hc, ?_⟩
    have B5 : But r H H3 := B3.trans B4
    refine ⟨⟨r, sc, ns, c, rfl, R4, B5.seqR R S, c1, by omega, fun v3 H4 x0 x1 R5 B6 => ?_⟩⟩
    refine ⟨v3, rfl, by omega, by omega, ?_⟩
    have B7 : But r H H4 := B5.trans B6
    have hd4 : H4 d = some (.dT []) := B6 _ _ ndr (B4 _ _ ndr (by rw [upd_ne (ne_of_none (upd_same (H := H1) (a := d)) hl)]; exact upd_same))
    refine for_range (lo := 0) (n := v3.toNat) (fun i σ H5 => ∃ (kvs : List (List Key × V)) (bs : List Bar) (u4 u5 u6 u7 u8 : Option V), σ = [some (.ref r), some (.int most), some (.int (1 + v)), some (.ref d), u4, u5, u6, u7, u8] ∧ H5 d = some (.dT kvs) ∧ kvs.map (·.1) = bs.map Bar.key ∧ bs.Nodup ∧ (∀ b ∈ bs, b.ok (1 + v)) ∧ bs.length ≤ i ∧ RowOk H5 r sc ∧ But r H H5)
      ⟨[], [], _, _, _, _, _, rfl, hd4, rfl, List.nodup_nil, fun b hb => by simp at hb, Nat.le_refl _, R5, B7⟩ ?_ ?_
    · rintro i σ H5 hi ⟨kvs, bs, u4, u5, u6, u7, u8, rfl, hD, hk, hnd, hok, hlen, R6, B8⟩
      refine ⟨_, rfl, _, rfl, ⟨⟨r, sc, ns, 1 + v, rfl, R6, B8.seqR R S, by omega, by omega, fun a H6 a0 a1 R7 B9 => ?_⟩⟩⟩
      refine ⟨_, rfl, _, rfl, ⟨⟨r, sc, ns, 1 + v, rfl, R7, (B8.trans B9).seqR R S, by omega, by omega, fun o H7 o0 o1 R8 B10 => ?_⟩⟩⟩
      have hD7 : H7 d = some (.dT kvs) := B10 _ _ ndr (B9 _ _ ndr hD)
      have B11 : But r H H7 := (B8.trans B9).trans B10
      refine ⟨_, _, rfl, _, rfl, _, rfl, rfl, _, rfl, ?_⟩
      refine ite2 (fun z => ?_) (fun _ => ?_)
      · have hao : a ≠ o := fun q => by subst q; simp at z
        refine ⟨(by show 2 ≤ sizeLine; decide), fun l1 hl1 => ?_⟩
        have R9 := R8.same (same_upd (o := .lst [V.str "open", V.str "shut"]) hl1)
        have nl1 : l1 ≠ r := by
          obtain ⟨_, _, _, q, _⟩ := id R8.h
          exact (ne_of_none q hl1).symm
        refine ⟨_, rfl, ⟨⟨r, sc, ns, 3, rfl, R9, (B11.trans (sbut (same_upd hl1))).seqR R S, by decide, by decide, fun y H8 y0 y1 R10 B12 => ?_⟩⟩⟩
        obtain ⟨cw, hcw⟩ := two_at (v := y / 2) (by omega) (by omega)
        refine ⟨_, _, rfl, rfl, ⟨by decide, by decide⟩, l1, _, _, _, rfl, rfl, SqL.of (B12 _ _ nl1 upd_same), hcw, ?_⟩
        refine ⟨(by show 2 ≤ sizeLine; decide), fun l2 hl2 => ?_⟩
        have R11 := R10.same (same_upd (o := .lst [V.str "open", V.str "shut"]) hl2)
        have nl2 : l2 ≠ r := by
          obtain ⟨_, _, _, q, _⟩ := id R10.h
          exact (ne_of_none q hl2).symm
        have B13 : But r H7 (upd H8 l2 (.lst [V.str "open", V.str "shut"])) := ((sbut (same_upd hl1)).trans B12).trans (sbut (same_upd hl2))
        refine ⟨_, rfl, ⟨⟨r, sc, ns, 2, rfl, R11, (B11.trans B13).seqR R S, by decide, by decide, fun y2 H9 z0 z1 R12 B14 => ?_⟩⟩⟩
        obtain ⟨ct, hct⟩ := two_at z0 z1
        refine ⟨l2, _, _, _, rfl, rfl, SqL.of (B14 _ _ nl2 upd_same), hct, ?_⟩
        have B15 : But r H7 H9 := B13.trans B14
        have hD9 : H9 d = some (.dT kvs) := B15 _ _ ndr hD7
        refine ⟨_, _, rfl, _, rfl, _, rfl, _, rfl, _, rfl, _, rfl, (by show 4 ≤ sizeLine; decide), fun q hq => ?_⟩
        have hlen2 : kvs.length = bs.length := by
          have := congrArg List.length hk
          rw [List.length_map, List.length_map] at this
          exact this
        refine ⟨d, _, rfl, DPut.t (k := (⟨a, cw, o, ct⟩ : Bar).key) (by rw [upd_ne (ne_of_none hD9 hq)]; exact hD9) upd_same (by rw [hlen2]; exact small1000 (by omega)), ?_⟩
        obtain ⟨bs', g1', g2', g3', g4'⟩ := keys_put (b := ⟨a, cw, o, ct⟩) (.bl true) hk hnd
        have nqr : q ≠ r := by
          obtain ⟨_, _, _, q', _⟩ := id R12.h
          exact (ne_of_none q' hq).symm
        refine ⟨_, bs', _, _, _, _, _, rfl, upd_same, g1', g2', fun b hb => ?_, by omega, ?_, ?_⟩
        · rcases g3' b hb with rfl | hb
          · exact ⟨a0, a1, o0, o1, hao⟩
          · exact hok b hb
        · obtain ⟨i', m', e', q1, q2⟩ := (R12.same (same_upd (o := .tup (⟨a, cw, o, ct⟩ : Bar).vs) hq)).h
          exact ⟨⟨i', m', e', by rw [upd_ne (Ne.symm ndr)]; exact q1, q2⟩⟩
        · refine fun c u hc hH => ?_
          have hcd : c ≠ d := fun z' => by rw [z', hd0] at hH; cases hH
          rw [upd_ne hcd]
          exact same_upd hq _ _ (B15 _ _ hc (B11 _ _ hc hH))
      · exact ⟨kvs, bs, _, _, _, _, _, rfl, hD7, hk, hnd, hok, by omega, R8, B11⟩
    · rintro σ H5 ⟨kvs, bs, u4, u5, u6, u7, u8, rfl, hD, hk, hnd, hok, hlen, R6, B8⟩
      refine ⟨_, rfl, _, rfl, d, kvs, bs, rfl, .inl hD, hk, fun b hb => (hok b hb).low (by omega), fun ks p g1' g2' g3' hp => ?_⟩
      refine ⟨p, _, rfl, .inl ⟨SqL.of upd_same, fun t ht => ?_⟩⟩
      refine ⟨(by show 2 ≤ sizeLine; decide), fun q hq => ?_⟩
      have sp : Same H5 (upd H5 p (.lst (ks.map fun k => V.ref k.1))) := same_upd hp
      have st : Same H5 (upd (upd H5 p (.lst (ks.map fun k => V.ref k.1))) t (.tup (ks.map fun k => V.ref k.1))) := sp.trans (same_upd ht)
      have sq : Same H5 _ := st.trans (same_upd (o := .lst [.int (1 + v), .ref t]) hq)
      obtain ⟨i', m', e', qR, _⟩ := id R6.h
      have nfree : ∀ {c : Addr}, H5 c = none → H c = none := fun {c} hc => by
        cases q' : H c with
        | none => rfl
        | some o =>
          have ncr : c ≠ r := fun z => by rw [z, qR] at hc; cases hc
          rw [B8 c o ncr q'] at hc
          cases hc
      refine k q t (1 + v) ks _ (nfree (st.free hq)) (nfree (sp.free ht)) (by omega) (by omega) upd_same ⟨by rw [upd_ne (ne_of_none upd_same hq)]; exact upd_same, fun kk hkk => sq _ _ (g1' kk hkk)⟩
        (asc_of (by omega) g2' g3' hnd hok) ?_ (R6.same sq) (B8.trans (sbut sq))
      have := g2'.length_eq
      rw [List.length_map] at this
      omega
/-! ### the cabinet of a draw -/
structure spMade (C : Addr) (vs : List V) (H : Hp) (Q : VK) (_ : XK) : Prop where
  h : ∃ (p t : Addr) (n : Int) (ks : List (Addr × Bar)) (zs : List V), vs = [.ref p] ∧ H p = some (.lst (.int n :: .ref t :: zs)) ∧ 1 ≤ n ∧ n ≤ 7 ∧ BarsAt H t ks ∧ OkBars n (ks.map (·.2)) ∧
    ∀ (c : Addr) (H' : Hp), H c = none → CabAt C H' c n t → Same H H' → Q (.ref c) H'
theorem scMade : FnScope ["_law_d"] ["_law_d"] (defScope sMade) := ⟨rfl, rfl, rfl, by decide +kernel, rfl, by decide +kernel, by decide +kernel⟩
theorem ok_made {f fI C : Addr} {fd fdI : FuncData} (F : Fun K "_law_made" "_law_made" sMade f fd) (T : CabT K mg C) (M : Mk K C fI) (G : FnOk P w K mg base CX0 5 fI fdI ["self", "drawers", "bars"] (spInit C)) (bI : Binds K fdI ["self", "drawers", "bars"] []) :
    FnOk P w K mg base CX0 7 f fd ["_law_d"] (spMade C) := by
  refine F.ok scMade (fun vs H Q E h => ?_) (fun cdv A outer s H vs Q E hr h => ?_)
  · obtain ⟨p, t, n, ks, zs, rfl, _⟩ := h.h
    rfl
  · obtain ⟨p, t, n, ks, zs, rfl, hp, h1, h7, B, O, k⟩ := h.h
    refine ⟨_, pss_one (ps_ret (pe_make M G hr rfl T.mgC bI .nil pass0 (pa_cons (pe_ix ix_list (pv 0) pe_int (fun _ _ => rfl)) (pa_cons (pe_ix ix_list (pv 0) pe_int (fun _ _ => rfl)) pa_nil)))), ?_⟩
    refine ⟨_, rfl, p, _, 0, .int n, rfl, rfl, SqL.of hp, atI_nat (j := 0) rfl, _, rfl, p, _, 1, .ref t, rfl, rfl, SqL.of hp, atI_nat (j := 1) rfl, ?_⟩
    intro x dx nx ndx nex
    have s0 : Same H (upd (upd H dx (.own x)) x (.ins C dx [])) := fun b o e => by
      rw [upd_ne (ne_of_none e nx), upd_ne (ne_of_none e ndx)]
      exact e
    refine ⟨⟨x, dx, n, t, ks, rfl, upd_same, h1, h7, B.same s0, O, fun H' hx kp => ⟨rfl, ?_⟩⟩⟩
    exact k x H' nx ⟨dx, hx⟩ fun b o e => kp b o (ne_of_none e nx) (s0 b o e)
end
end DL

set_option Elab.async false
set_option maxRecDepth 100000
namespace DL
open PySem L2
/-! ### rules with the written part named, for blocks within blocks -/
theorem cr_anyK {X : Cx} {K : PySem.W.Frag} (hK : X.K = K) (hc : X.calm = true) : CallR X (.builtin "any") (rAny K) := by subst hK; exact cr_any hc
theorem cr_allK {X : Cx} {K : PySem.W.Frag} (hK : X.K = K) (hc : X.calm = true) : CallR X (.builtin "all") (rAll K) := by subst hK; exact cr_all hc
theorem pi_tupK {X : Cx} {K : PySem.W.Frag} {tg l : Expr} {tl : TE} (hK : X.K = K) (hl : PE X l tl) : PI X tg l (iTup K tl) := by subst hK; exact pi_tup hl
theorem pi_listK {X : Cx} {K : PySem.W.Frag} {tg l : Expr} {tl : TE} (hK : X.K = K) (hl : PE X l tl) : PI X tg l (iList K tl) := by subst hK; exact pi_list hl
theorem ix_listK {X : Cx} {K : PySem.W.Frag} (hK : X.K = K) : IxR X (rIxL K) := by subst hK; exact ix_list
theorem ix_tupK {X : Cx} {K : PySem.W.Frag} (hK : X.K = K) : IxR X (rIxT K) := by subst hK; exact ix_tup
theorem op_in_seqK {X : Cx} {K : PySem.W.Frag} (hK : X.K = K) : OpR X (compareOp .In) (rIn K false) := by subst hK; exact op_in_seq
theorem pe_bmK {X : Cx} {K : PySem.W.Frag} {T : String} {name : Str} {id : String} {r : V → List V → Hp → VK → Prop} {o e : Expr} {es : List Expr} {to : TE} {t : TA} {apos cpos : Pos} (hK : X.K = K) (pa : PlainAttrs T) (slot : Slot T name id) (hty : typeOf (.builtin id) = pure (.type "method_descriptor")) (hm : MtR X id r) (ho : PE X o to) (ha : PA X (e :: es) t)
    (hbase : attributeBase o name X.env (eval o X.env) = eval o X.env := by rfl)
    (hfew : ((backTo cpos (starEach (e :: es) X.env)).all (fun x => !x.1) && (backToKw cpos (keywordEach [] X.env)).all (fun x => x.1.isSome)
      && decide ((e :: es).length + ([] : List Keyword).length + (if ([] : List Keyword).isEmpty then 0 else 1) < 30)) = true := by rfl)
    (hline : (apos.endLine == cpos.line) = true := by rfl) (hs : starEach (e :: es) X.env = (false, eval e X.env) :: starEach es X.env := by rfl) (hplain : (backTo cpos (starEach es X.env)).any (·.1) = false := by rfl) :
    PE X (.Call (.Attribute o name apos) (e :: es) [] cpos) (tBM K T r to t) := by subst hK; exact pe_bm pa slot hty hm ho ha hbase hfew hline hs hplain
theorem boot_any_ : bootBuiltins ("any" : Str) = some (.builtin "any") := by decide +kernel
theorem boot_all_ : bootBuiltins ("all" : Str) = some (.builtin "all") := by decide +kernel
end DL

set_option Elab.async false
set_option maxRecDepth 100000
namespace DL
open PySem L2 HT TL
/-! ### standings: a truth value a drawer (true: open) -/
def sg (b : Bool) : Nat := if b = true then 111 else 115
def sgs (b : Bool) : Str := ⟨#[sg b]⟩
def sstr (st : List Bool) : Str := ⟨(st.map sg).toArray⟩
theorem sstr_tl (st : List Bool) : (sstr st).cps.toList = st.map sg := by simp [sstr]
theorem sstr_len (st : List Bool) : (sstr st).length = st.length := by
  show (sstr st).cps.size = st.length
  rw [← Array.length_toList, sstr_tl, List.length_map]
theorem sg_inj : ∀ {a b : Bool}, sg a = sg b → a = b := by decide
theorem sstr_inj {a b : List Bool} (h : sstr a = sstr b) : a = b := by
  have h1 : a.map sg = b.map sg := by rw [← sstr_tl, ← sstr_tl, h]
  have : ∀ {a b : List Bool}, a.map sg = b.map sg → a = b := by
    intro a
    induction a with
    | nil => intro b h; cases b with | nil => rfl | cons y b => simp at h
    | cons x a ih =>
      intro b h
      cases b with
      | nil => simp at h
      | cons y b =>
        rw [List.map_cons, List.map_cons] at h
        injection h with h1 h2
        rw [sg_inj h1, ih h2]
  exact this h1
def sat (st : List Bool) (i : Int) : Bool := st.getD i.toNat false
theorem sstr_at {st : List Bool} {i : Int} (h0 : 0 ≤ i) (h1 : i < st.length) : atI (sstr st).cps.toList i = some (sg (sat st i)) := by
  have e : i = ((i.toNat : Nat) : Int) := by omega
  have hl : i.toNat < st.length := by omega
  rw [e]
  refine atI_nat ?_
  rw [sstr_tl, List.getElem?_map]
  unfold sat
  rw [Int.toNat_natCast, List.getD_eq_getElem?_getD, List.getElem?_eq_getElem hl]
  rfl
def sgn (b : Bool) : Str := if b = true then "s" else "o"
theorem sgs_sgn (x b : Bool) : decide ((V.str ⟨#[sg x]⟩) = V.str (sgn b)) = (x != b) := by revert x b; decide +kernel
theorem sgs_o (x : Bool) : decide ((V.str ⟨#[sg x]⟩) = V.str "o") = x := by revert x; decide +kernel
theorem sgs_s (x : Bool) : decide ((V.str ⟨#[sg x]⟩) = V.str "s") = !x := by revert x; decide +kernel
theorem wd_ne (a b : Bool) : decide ((V.str (wd a)) = V.str (wd b)) = (a == b) := by revert a b; decide +kernel
/-- whether the bar stands against the pull -/
def hind (b : Bar) (st : List Bool) (d : Int) : Bool := decide (b.d = d) && ((sat st d == b.w) && (sat st b.o == b.t))
def goesB (bs : List Bar) (st : List Bool) (d : Int) : Bool := !(bs.any fun b => hind b st d)
def flip (st : List Bool) (d : Int) : List Bool := st.set d.toNat (!sat st d)
theorem flip_len (st : List Bool) (d : Int) : (flip st d).length = st.length := by unfold flip; rw [List.length_set]
def drs (n : Nat) : List Int := (List.range n).map fun (i : Nat) => (i : Int)
def freeL (bs : List Bar) (st : List Bool) : List Int := (drs st.length).filter fun d => goesB bs st d
/-- the table of signs -/
structure SgT (K : PySem.W.Frag) (w : World) (mg : Str → Option Value) (aS : Addr) : Prop where
  g : mg "SIGNS" = some (.ref aS)
  o : KDct K w aS "open" (.str "o")
  s : KDct K w aS "shut" (.str "s")
theorem SgT.at {K : PySem.W.Frag} {w : World} {mg : Str → Option Value} {aS : Addr} (T : SgT K w mg aS) (b : Bool) : KDct K w aS (wd b) (.str (sgn b)) := by
  cases b
  · exact T.o
  · exact T.s
structure spHold (K : PySem.W.Frag) (vs : List V) (H : Hp) (Q : VK) (_ : XK) : Prop where
  h : ∃ (a : Addr) (b : Bar) (st : List Bool) (d : Int), vs = [.ref a, .str (sstr st), .int d] ∧ SqT K H a b.vs ∧ b.ok st.length ∧ st.length ≤ 7 ∧ 0 ≤ d ∧ d < st.length ∧ Q (.bl (hind b st d)) H
structure spMoved (vs : List V) (H : Hp) (Q : VK) (_ : XK) : Prop where
  h : ∃ (st : List Bool) (d : Int), vs = [.str (sstr st), .int d] ∧ st.length ≤ 7 ∧ 0 ≤ d ∧ d < st.length ∧ ∀ H', Same H H' → Q (.str (sstr (flip st d))) H'
theorem str_small {st : List Bool} (h : st.length ≤ 7) : (sstr st).length ≤ sizeLine := by rw [sstr_len]; exact Nat.le_of_lt (small1000 (by omega))
theorem cut_flip (st : List Bool) (d : Int) (h0 : 0 ≤ d) (h1 : d < st.length) (x : Str) (hx : x.cps.toList = [sg (!sat st d)]) : (cutS (sstr st) none (some d) ++ x) ++ cutS (sstr st) (some (d + 1)) none = sstr (flip st d) := by
  refine PyProof.Rows.ext_toList ?_
  obtain ⟨k, rfl⟩ : ∃ k : Nat, d = (k : Int) := ⟨d.toNat, by omega⟩
  have hk : k < st.length := by omega
  have e1 : ((k : Int) + 1) = ((k + 1 : Nat) : Int) := by omega
  have t1 : tl (cutS (sstr st) none (some (k : Int))) = (st.map sg).take k := by
    unfold tl cutS
    rw [HT.sIx_none, HT.sIx_nat, sstr_len, sstr_tl]
    simp [Nat.min_eq_left (Nat.le_of_lt hk)]
  have t2 : tl (cutS (sstr st) (some ((k : Int) + 1)) none) = (st.map sg).drop (k + 1) := by
    unfold tl cutS
    rw [e1, HT.sIx_none, HT.sIx_nat, sstr_len, sstr_tl]
    simp only [Nat.min_eq_left (show k + 1 ≤ st.length by omega)]
    rw [List.take_of_length_le (by rw [List.length_drop, List.length_map]; omega)]
  show tl _ = tl _
  rw [tl_append, tl_append, t1, t2, show tl x = _ from hx, show tl (sstr (flip st (k : Int))) = _ from sstr_tl _]
  unfold flip
  rw [Int.toNat_natCast, List.map_set, List.set_eq_take_append_cons_drop, if_pos (by rw [List.length_map]; exact hk)]
  simp
section
variable {P : Program} {w : World} {K : PySem.W.Frag} {mg : Str → Option Value} {base : Heap}
theorem scHinders : FnScope ["bar", "standing", "drawer", "barred", "way", "other", "stand"] ["bar", "standing", "drawer"] (defScope s_hinders) := ⟨rfl, rfl, rfl, by decide +kernel, rfl, by decide +kernel, by decide +kernel⟩
theorem ok_hinders {f aS : Addr} {fd : FuncData} (F : Fun K "hinders" "hinders" s_hinders f fd) (T : SgT K w mg aS) : FnOk P w K mg base CX0 1 f fd ["bar", "standing", "drawer"] (spHold K) := by
  refine F.ok scHinders (fun vs H Q E h => ?_) (fun cdv A outer s H vs Q E hr h => ?_)
  · obtain ⟨a, b, st, d, rfl, _⟩ := h.h
    rfl
  · obtain ⟨a, b, st, d, rfl, hq, hb, h7, d0, d1, k⟩ := h.h
    obtain ⟨b1, b2, b3, b4, b5⟩ := hb
    refine ⟨_, pss_cons (ps_asg (pv 0) (pg_tup (by rfl) (pgs_cons (pg_name (i := 3) scHinders.nd rfl (.inl rfl)) (pgs_cons (pg_name (i := 4) scHinders.nd rfl (.inl rfl)) (pgs_cons (pg_name (i := 5) scHinders.nd rfl (.inl rfl)) (pgs_cons (pg_name (i := 6) scHinders.nd rfl (.inl rfl)) pgs_nil))))))
      (pss_cons (ps_if (PW.pt (pw_or (pt_cmpR op_ne (pv 3) (pv 2) (nomark _)) (pw_or1 (pt_cmpR op_eq (pe_ix ix_str (pv 1) (pv 2) (fun _ _ => rfl)) (pe_ix ix_kdict (pe_glob (v := .ref aS) rfl T.g rfl) (pv 4) (fun _ _ => rfl)) (nomark _))))) (pss_one (ps_ret pe_bl)) pss_nil)
      (pss_one (ps_ret (pe_cmpR op_ne (pe_ix ix_str (pv 1) (pv 5) (fun _ _ => rfl)) (pe_ix ix_kdict (pe_glob (v := .ref aS) rfl T.g rfl) (pv 6) (fun _ _ => rfl)) (nomark _))))), ?_⟩
    refine ⟨_, rfl, a, _, rfl, hq, rfl, _, _, rfl, _, _, rfl, _, _, rfl, _, _, rfl, rfl, ?_⟩
    refine ⟨_, rfl, _, rfl, rfl, _, rfl, ?_⟩
    have e0 : decide ((V.int b.d) = V.int d) = decide (b.d = d) := decide_eq_decide.mpr ⟨fun z => by injection z, fun z => by rw [z]⟩
    show if (!decide ((V.int b.d) = V.int d)) = true then _ else _
    rw [e0]
    by_cases q : b.d = d
    · rw [decide_eq_true q]
      refine iteF ?_
      refine ⟨_, rfl, _, rfl, _, d, _, rfl, rfl, str_small h7, sstr_at d0 d1, _, rfl, aS, wd b.w, _, rfl, rfl, T.at b.w, rfl, _, rfl, ?_⟩
      show if decide ((V.str ⟨#[sg (sat st d)]⟩) = V.str (sgn b.w)) = true then _ else _
      rw [sgs_sgn]
      unfold hind at k
      rw [decide_eq_true q] at k
      cases e : (sat st d != b.w) with
      | true =>
        have e' : (sat st d == b.w) = false := by rw [bne, Bool.not_eq_true'] at e; exact e
        rw [e'] at k
        exact iteT k
      | false =>
        have e' : (sat st d == b.w) = true := by rw [bne, Bool.not_eq_false'] at e; exact e
        rw [e'] at k
        refine iteF ?_
        refine ⟨_, rfl, _, rfl, _, b.o, _, rfl, rfl, str_small h7, sstr_at b3 b4, _, rfl, aS, wd b.t, _, rfl, rfl, T.at b.t, rfl, ?_⟩
        show Q (.bl (!decide ((V.str ⟨#[sg (sat st b.o)]⟩) = V.str (sgn b.t)))) H
        rw [sgs_sgn, bne, Bool.not_not]
        exact k
    · rw [decide_eq_false q]
      unfold hind at k
      rw [decide_eq_false q] at k
      exact iteT k
theorem scMoved : FnScope ["standing", "drawer", "word"] ["standing", "drawer"] (defScope s_moved) := ⟨rfl, rfl, rfl, by decide +kernel, rfl, by decide +kernel, by decide +kernel⟩
theorem ok_moved {f aS : Addr} {fd : FuncData} (F : Fun K "moved" "moved" s_moved f fd) (T : SgT K w mg aS) : FnOk P w K mg base CX0 1 f fd ["standing", "drawer"] spMoved := by
  refine F.ok scMoved (fun vs H Q E h => ?_) (fun cdv A outer s H vs Q E hr h => ?_)
  · obtain ⟨st, d, rfl, _⟩ := h.h
    rfl
  · obtain ⟨st, d, rfl, h7, d0, d1, k⟩ := h.h
    refine ⟨_, pss_cons (ps_set (i := 2) scMoved.nd rfl (.inl rfl) (pe_ifExp (pt_cmpR op_eq (pe_ix ix_str (pv 0) (pv 1) (fun _ _ => rfl)) (pe_ix ix_kdict (pe_glob (v := .ref aS) rfl T.g rfl) pe_str (fun _ _ => rfl)) (nomark _)) pe_str pe_str))
      (pss_one (ps_ret (pe_op op_add_str (pe_op op_add_str (pe_slice sl_str (pv 0) po_none (po_some (pv 1))) (pe_ix ix_kdict (pe_glob (v := .ref aS) rfl T.g rfl) (pv 2) (fun _ _ => rfl))) (pe_slice sl_str (pv 0) (po_some (pe_op op_add (pv 1) pe_int)) po_none)))), ?_⟩
    refine ⟨_, rfl, _, rfl, _, d, _, rfl, rfl, str_small h7, sstr_at d0 d1, aS, _, _, rfl, rfl, T.s, rfl, _, rfl, ?_⟩
    show if decide ((V.str ⟨#[sg (sat st d)]⟩) = V.str "s") = true then _ else _
    rw [sgs_s]
    have fin : ∀ x : Bool, x = sat st d → (∃ v, ((L2.start ["standing", "drawer", "word"] [.str (sstr st), .int d]).set 2 (some (.str (wd x))))[0]? = some (some v) ∧ (∃ z, v = .str z ∧ ∃ i, i = d ∧ True)) → True := fun _ _ _ => trivial
    have small : ∀ a b : Str, a.length ≤ 7 → b.length ≤ 7 → a.length + b.length ≤ sizeLine := fun a b ha hb => Nat.le_of_lt (small1000 (by omega))
    have c7 : ∀ lo hi, (cutS (sstr st) lo hi).length ≤ 7 := fun lo hi => by
      show (cutS (sstr st) lo hi).cps.size ≤ 7
      unfold cutS
      rw [List.size_toArray, List.length_take, List.length_drop, sstr_tl, List.length_map]
      omega
    have one : ∀ b : Bool, (sgn b).length ≤ 7 ∧ (sgn b).cps.toList = [sg (!b)] := by decide +kernel
    have app : ∀ a b : Str, (a ++ b).length = a.length + b.length := fun a b => by
      show (a ++ b).cps.size = a.cps.size + b.cps.size
      rw [← Array.length_toList, ← Array.length_toList, ← Array.length_toList]
      exact (congrArg List.length (tl_append a b)).trans (List.length_append ..)
    cases e : sat st d with
    | false =>
      refine iteT ?_
      refine ⟨_, rfl, _, rfl, _, rfl, _, rfl, str_small h7, _, rfl, aS, wd false, _, rfl, rfl, T.at false, _, _, rfl, rfl, small _ _ (c7 _ _) (one false).1, ?_⟩
      refine ⟨_, rfl, _, rfl, _, _, rfl, rfl, _, rfl, _, rfl, str_small h7, _, _, rfl, rfl, ?_, ?_⟩
      · have h1 := c7 none (some d)
        have h2 := (one false).1
        have h3 := c7 (some (d + 1)) none
        have h4 := app (cutS (sstr st) none (some d)) (sgn false)
        exact Nat.le_of_lt (small1000 (by omega))
      · have := k H (Same.refl H)
        rw [← cut_flip st d d0 d1 (sgn false) (by rw [(one false).2, e])] at this
        exact this
    | true =>
      refine iteF ?_
      refine ⟨_, rfl, _, rfl, _, rfl, _, rfl, str_small h7, _, rfl, aS, wd true, _, rfl, rfl, T.at true, _, _, rfl, rfl, small _ _ (c7 _ _) (one true).1, ?_⟩
      refine ⟨_, rfl, _, rfl, _, _, rfl, rfl, _, rfl, _, rfl, str_small h7, _, _, rfl, rfl, ?_, ?_⟩
      · have h1 := c7 none (some d)
        have h2 := (one true).1
        have h3 := c7 (some (d + 1)) none
        have h4 := app (cutS (sstr st) none (some d)) (sgn true)
        exact Nat.le_of_lt (small1000 (by omega))
      · have := k H (Same.refl H)
        rw [← cut_flip st d d0 d1 (sgn true) (by rw [(one true).2, e])] at this
        exact this
end
end DL

set_option Elab.async false
set_option maxRecDepth 100000
namespace DL
open PySem L2 HT TL
theorem new_at {H : Hp} {a : Addr} {o : HO} (h : H a = none) : Same H (upd H a o) ∧ (upd H a o) a = some o := ⟨same_upd h, upd_same⟩
/-! ### comprehensions that pick, in one word -/
theorem take_pick {α : Type} (p : α → Bool) (v : α → V) {l : List α} {i : Nat} {z : α} (h : l[i]? = some z) :
    ((l.take (i + 1)).filter p).map v = if p z = true then ((l.take i).filter p).map v ++ [v z] else ((l.take i).filter p).map v := by
  obtain ⟨hl, e⟩ := List.getElem?_eq_some_iff.mp h
  rw [List.take_succ_eq_append_getElem hl, List.filter_append, e]
  by_cases q : p z = true
  · rw [if_pos q, List.filter_cons_of_pos q, List.filter_nil, List.map_append]
    rfl
  · rw [if_neg q, List.filter_cons_of_neg q, List.filter_nil, List.append_nil]
/-- what a comprehension asks once its walk is told -/
def lcC (J : It) (g : TG) (tt : TT) (te : TE) (vs : List Nat) (σ : L2.St) (Q : VK) (H1 : Hp) : Prop := ∀ D, H1 D = none → ∃ W : Nat → Nat → Hp → Prop, (∃ m, W 0 m (upd H1 D (.lst []))) ∧ ∀ i m H, W i m H →
  (J.stop i H ∧ Q (.ref D) H) ∨ (J.go i H ∧ ∃ Nx : Hp → Prop, (∀ H', Nx H' → ∃ m', m' < m ∧ W (i + 1) m' H') ∧ ∀ x H', J.yld i H x H' → g x (wipe σ vs) H' fun σ2 H2 => wipe σ2 vs = wipe σ vs ∧ tt σ2 H2 fun b H3 =>
    if b = true then te σ2 H3 fun y H4 => ∃ acc, H4 D = some (.lst acc) ∧ acc.length < sizeLine ∧ Nx (upd H4 D (.lst (acc ++ [y]))) else Nx H3)
theorem lc_pick {α : Type} {J : It} {n : Nat} {G : Hp → Prop} {Y : Nat → Hp → V → Hp → Prop} (wk : Walk J n G Y) (l : List α) (hl : l.length = n) (hn : n ≤ 3000) (p : α → Bool) (v : α → V) {g : TG} {tt : TT} {te : TE} {vs : List Nat} {σ : L2.St} {H1 : Hp} {D : Addr} {Qd : Hp → Prop}
    (hD : H1 D = none) (hG : ∀ H, Same H1 H → G H)
    (hs : ∀ i x z H H' (Tk : V → Hp → Prop) (Nk : Hp → Prop), l[i]? = some z → Same H1 H → Y i H x H' → (∀ H4, p z = true → Same H H4 → Tk (v z) H4) → (∀ H4, p z = false → Same H H4 → Nk H4) →
      g x (wipe σ vs) H' fun σ2 H2 => wipe σ2 vs = wipe σ vs ∧ tt σ2 H2 fun b H3 => if b = true then te σ2 H3 Tk else Nk H3)
    (hd : ∀ H, Same H1 H → H D = some (.lst ((l.filter p).map v)) → Qd H) :
    ∃ W : Nat → Nat → Hp → Prop, (∃ m, W 0 m (upd H1 D (.lst []))) ∧ ∀ i m H, W i m H →
      (J.stop i H ∧ Qd H) ∨ (J.go i H ∧ ∃ Nx : Hp → Prop, (∀ H', Nx H' → ∃ m', m' < m ∧ W (i + 1) m' H') ∧ ∀ x H', J.yld i H x H' → g x (wipe σ vs) H' fun σ2 H2 => wipe σ2 vs = wipe σ vs ∧ tt σ2 H2 fun b H3 =>
        if b = true then te σ2 H3 fun y H4 => ∃ acc, H4 D = some (.lst acc) ∧ acc.length < sizeLine ∧ Nx (upd H4 D (.lst (acc ++ [y]))) else Nx H3) := by
  refine lc_it wk (fun i H' => Same H1 H' ∧ H' D = some (.lst (((l.take i).filter p).map v))) ⟨same_upd hD, upd_same⟩ (fun i H' _ q => hG H' q.1) ?_ ?_
  · rintro i x H H' hi ⟨s1, hD1⟩ y
    have hi' : i < l.length := by omega
    have ez : l[i]? = some l[i] := List.getElem?_eq_getElem hi'
    refine hs i x l[i] H H' _ _ ez s1 y (fun H4 hp s4 => ?_) (fun H4 hp s4 => ?_)
    · refine ⟨_, s4 _ _ hD1, ?_, fun b o e => ?_, ?_⟩
      · rw [List.length_map]
        have h1 := List.length_filter_le p (l.take i)
        rw [List.length_take] at h1
        have h2 : (3000 : Nat) < sizeLine := by decide
        omega
      · rw [upd_ne (ne_of_none e hD)]
        exact s4 _ _ (s1 b o e)
      · rw [upd_same, take_pick p v ez, if_pos hp]
    · refine ⟨s1.trans s4, ?_⟩
      rw [take_pick p v ez, if_neg (by rw [hp]; exact Bool.false_ne_true)]
      exact s4 _ _ hD1
  · rintro H ⟨s1, hD1⟩
    rw [← hl, List.take_length] at hD1
    exact hd H s1 hD1
/-! ### walks over the bars of a tuple -/
theorem walk_bars {K : PySem.W.Frag} {a : Addr} {α : Type} {l : List α} {f : α → V} : Walk (Itt K a) l.length (fun H => SqT K H a (l.map f)) (fun i H x H' => H' = H ∧ ∃ z, l[i]? = some z ∧ x = f z) := by
  have e : l.length = (l.map f).length := by rw [List.length_map]
  rw [e]
  refine (walk_tup (K := K) (a := a) (xs := l.map f)).mono (fun H h => h) fun i H x H' _ _ y => ⟨y.1, ?_⟩
  have h := y.2
  rw [List.getElem?_map] at h
  cases q : l[i]? with
  | none => rw [q] at h; cases h
  | some z => rw [q] at h; cases h; exact ⟨z, rfl, rfl⟩
theorem walk_lst {K : PySem.W.Frag} {a : Addr} {α : Type} {l : List α} {f : α → V} : Walk (Itl K a) l.length (fun H => SqL K H a (l.map f)) (fun i H x H' => H' = H ∧ ∃ z, l[i]? = some z ∧ x = f z) := by
  have e : l.length = (l.map f).length := by rw [List.length_map]
  rw [e]
  refine (walk_list (K := K) (a := a) (xs := l.map f)).mono (fun H h => h) fun i H x H' _ _ y => ⟨y.1, ?_⟩
  have h := y.2
  rw [List.getElem?_map] at h
  cases q : l[i]? with
  | none => rw [q] at h; cases h
  | some z => rw [q] at h; cases h; exact ⟨z, rfl, rfl⟩
end DL

set_option Elab.async false
set_option maxRecDepth 100000
namespace DL
open PySem L2 HT TL
structure CabOk (C : Addr) (H : Hp) (c : Addr) (n : Int) (bs : List Bar) : Prop where
  h : ∃ (t : Addr) (ks : List (Addr × Bar)), CabAt C H c n t ∧ BarsAt H t ks ∧ ks.map (·.2) = bs ∧ OkBars n bs ∧ 1 ≤ n ∧ n ≤ 7 ∧ bs.length ≤ 100
theorem tYes_of {σ : L2.St} {H : Hp} {Q : Bool → Hp → Prop} (h : Q true H) : tYes σ H Q := h
theorem CabOk.same {C : Addr} {H H' : Hp} {c : Addr} {n : Int} {bs : List Bar} (B : CabOk C H c n bs) (s : Same H H') : CabOk C H' c n bs := by
  obtain ⟨t, ks, ⟨dx, h1⟩, h2, h3⟩ := B.h
  exact ⟨⟨t, ks, ⟨dx, s _ _ h1⟩, h2.same s, h3⟩⟩
structure spGetD (C : Addr) (vs : List V) (H : Hp) (Q : VK) (_ : XK) : Prop where
  h : ∃ (c dx : Addr) (n : Int) (t : Addr), vs = [.ref c] ∧ H c = some (.ins C dx (cfl n t)) ∧ Q (.int n) H
structure spGetB (C : Addr) (vs : List V) (H : Hp) (Q : VK) (_ : XK) : Prop where
  h : ∃ (c dx : Addr) (n : Int) (t : Addr), vs = [.ref c] ∧ H c = some (.ins C dx (cfl n t)) ∧ Q (.ref t) H
/-- the two properties of the class -/
structure CabP (P : Program) (w : World) (K : PySem.W.Frag) (mg : Str → Option Value) (base : Heap) (C : Addr) : Prop where
  cl : Cls K C
  d : ∃ p g fd, PropOf K C "drawers" p g ∧ FnOk P w K mg base CX0 1 g fd ["self"] (spGetD C) ∧ Binds K fd ["self"] []
  b : ∃ p g fd, PropOf K C "bars" p g ∧ FnOk P w K mg base CX0 1 g fd ["self"] (spGetB C) ∧ Binds K fd ["self"] []
structure spGoes (C : Addr) (vs : List V) (H : Hp) (Q : VK) (_ : XK) : Prop where
  h : ∃ (c : Addr) (bs : List Bar) (st : List Bool) (d : Int), vs = [.ref c, .str (sstr st), .int d] ∧ CabOk C H c st.length bs ∧ 0 ≤ d ∧ d < st.length ∧ ∀ H', Same H H' → Q (.bl (goesB bs st d)) H'
structure spBarring (C : Addr) (vs : List V) (H : Hp) (Q : VK) (_ : XK) : Prop where
  h : ∃ (c t : Addr) (ks : List (Addr × Bar)) (st : List Bool) (d : Int), vs = [.ref c, .str (sstr st), .int d] ∧ CabAt C H c st.length t ∧ BarsAt H t ks ∧ OkBars st.length (ks.map (·.2)) ∧ st.length ≤ 7 ∧ ks.length ≤ 100 ∧ 0 ≤ d ∧ d < st.length ∧
    ∀ (p : Addr) (H' : Hp), H p = none → Same H H' → H' p = some (.lst ((ks.filter fun k => hind k.2 st d).map fun k => V.ref k.1)) → Q (.ref p) H'
structure spFreeDrawers (C : Addr) (vs : List V) (H : Hp) (Q : VK) (_ : XK) : Prop where
  h : ∃ (c : Addr) (bs : List Bar) (st : List Bool), vs = [.ref c, .str (sstr st)] ∧ CabOk C H c st.length bs ∧ ∀ (p : Addr) (H' : Hp), H p = none → Same H H' → H' p = some (.lst ((freeL bs st).map V.int)) → Q (.ref p) H'
theorem take_succ_map {α β : Type} (f : α → β) {l : List α} {i : Nat} {x : α} (h : l[i]? = some x) : (l.take i).map f ++ [f x] = (l.take (i + 1)).map f := by
  obtain ⟨hl, e⟩ := List.getElem?_eq_some_iff.mp h
  rw [List.take_succ_eq_append_getElem hl, List.map_append, ← e]
  rfl
theorem any_take {ks : List (Addr × Bar)} {bs : List Bar} (e : ks.map (·.2) = bs) (f : Bar → Bool) : ((ks.take (ks.map fun k => V.ref k.1).length).map fun k => f k.2).any id = bs.any f := by
  rw [List.length_map, List.take_length, ← e, List.any_map, List.any_map]
  rfl
section
variable {P : Program} {w : World} {K : PySem.W.Frag} {mg : Str → Option Value} {base : Heap}
theorem scDrawers : FnScope ["self"] ["self"] (defScope sDrawers) := ⟨rfl, rfl, rfl, by decide +kernel, rfl, by decide +kernel, by decide +kernel⟩
theorem ok_getD {f C : Addr} {fd : FuncData} (F : Fun K "drawers" "Cabinet.drawers" sDrawers f fd) (T : CabT K mg C) : FnOk P w K mg base CX0 1 f fd ["self"] (spGetD C) := by
  refine F.ok scDrawers (fun vs H Q E h => ?_) (fun cdv A outer s H vs Q E hr h => ?_)
  · obtain ⟨c, dx, n, t, rfl, _⟩ := h.h
    rfl
  · obtain ⟨c, dx, n, t, rfl, hc, k⟩ := h.h
    exact ⟨_, pss_one (ps_ret (pe_fld (pv 0) rfl)), ⟨_, rfl, c, C, dx, _, _, rfl, hc, T.cl, T.nD, cfl_d n t, k⟩⟩
theorem scBars : FnScope ["self"] ["self"] (defScope sBars) := ⟨rfl, rfl, rfl, by decide +kernel, rfl, by decide +kernel, by decide +kernel⟩
theorem ok_getB {f C : Addr} {fd : FuncData} (F : Fun K "bars" "Cabinet.bars" sBars f fd) (T : CabT K mg C) : FnOk P w K mg base CX0 1 f fd ["self"] (spGetB C) := by
  refine F.ok scBars (fun vs H Q E h => ?_) (fun cdv A outer s H vs Q E hr h => ?_)
  · obtain ⟨c, dx, n, t, rfl, _⟩ := h.h
    rfl
  · obtain ⟨c, dx, n, t, rfl, hc, k⟩ := h.h
    exact ⟨_, pss_one (ps_ret (pe_fld (pv 0) rfl)), ⟨_, rfl, c, C, dx, _, _, rfl, hc, T.cl, T.nB, cfl_b n t, k⟩⟩
abbrev nGoes : List Str := ["cabinet", "standing", "drawer", "bar"]
theorem scAg : FnScope nGoes ["cabinet", "standing", "drawer"] (defScope s_bars_against) := ⟨rfl, rfl, rfl, by decide +kernel, rfl, by decide +kernel, by decide +kernel⟩
theorem ok_against {f f1 C : Addr} {fd fd1 : FuncData} (F : Fun K "bars_against" "bars_against" s_bars_against f fd) (CP : CabP P w K mg base C) (G : FnOk P w K mg base CX0 1 f1 fd1 ["bar", "standing", "drawer"] (spHold K)) (g1 : mg "hinders" = some (.ref f1)) (k1 : PySem.W.keepIn K (.ref f1) = true) (b1 : Binds K fd1 ["bar", "standing", "drawer"] []) :
    FnOk P w K mg base CX0 4 f fd ["cabinet", "standing", "drawer"] (spBarring C) := by
  refine F.ok scAg (fun vs H Q E h => ?_) (fun cdv A outer s H vs Q E hr h => ?_)
  · obtain ⟨c, t, ks, st, d, rfl, _⟩ := h.h
    rfl
  · obtain ⟨c, t, ks, st, d, rfl, ⟨dx, hc⟩, B, O, n7, n100, d0, d1, k⟩ := h.h
    obtain ⟨pB, gB, fdB, hpB, GB, bB⟩ := CP.b
    refine ⟨_, pss_one (ps_ret (pe_lc (own := [("bar", 3)]) (g := gName 3) (by rfl) scAg.nd (pi_tup (pe_prop (pv 0) CP.cl hpB GB (hr.mono (by decide)) bB .nil pass0 rfl)) (blkOk_by (N := nGoes) (sc := defScope s_bars_against) (by decide +kernel)) (fun _ _ _ _ _ => pg_name (i := 3) scAg.nd rfl (Or.inl rfl))
        (fun _ _ _ _ _ => pts_one (pt_val (pe_call G (hr.mono (by decide)) rfl g1 k1 b1 .nil pass0 (pa_cons (pv 3) (pa_cons (pv 1) (pa_cons (pv 2) pa_nil)))))) (fun _ _ _ _ _ => pv 3))), ?_⟩
    refine ⟨_, rfl, c, dx, _, rfl, hc, ⟨⟨c, dx, _, t, rfl, hc, ?_⟩⟩⟩
    refine ⟨t, rfl, ⟨_, SqT.of' B.tu⟩, fun D hD => ?_⟩
    refine lc_pick (walk_bars (K := K) (a := t) (l := ks) (f := fun k => V.ref k.1)) ks rfl (by omega) (fun k => hind k.2 st d) (fun k => V.ref k.1) hD (fun H' s1 => SqT.of' (s1 _ _ B.tu)) ?_ (fun H' s1 hD1 => k D H' hD s1 hD1)
    rintro i x kk H1 H1' Tk Nk ek s1 ⟨rfl, z, ez, rfl⟩ kT kF
    rw [ek] at ez
    cases ez
    have hm : kk ∈ ks := List.mem_of_getElem? ek
    have hok : kk.2.ok st.length := O.ok _ (List.mem_map.mpr ⟨kk, hm, rfl⟩)
    refine ⟨rfl, ?_⟩
    refine ⟨_, rfl, _, rfl, _, rfl, ⟨⟨kk.1, kk.2, st, d, rfl, SqT.of' (s1 _ _ (B.el kk hm)), hok, by omega, d0, d1, _, rfl, ?_⟩⟩⟩
    cases e : hind kk.2 st d with
    | true => exact iteT ⟨_, rfl, kT _ e (Same.refl _)⟩
    | false => exact iteF (kF _ e (Same.refl _))
theorem goes_empty {ks : List (Addr × Bar)} {bs : List Bar} (e : ks.map (·.2) = bs) (st : List Bool) (d : Int) : ((ks.filter fun k => hind k.2 st d).map fun k => V.ref k.1).isEmpty = goesB bs st d := by
  subst e
  unfold goesB
  induction ks with
  | nil => rfl
  | cons k ks ih =>
    rw [List.map_cons, List.any_cons]
    by_cases q : hind k.2 st d = true
    · rw [List.filter_cons, if_pos q, q]
      rfl
    · rw [List.filter_cons, if_neg q]
      have q' : hind k.2 st d = false := by simpa using q
      rw [q', Bool.false_or]
      exact ih
theorem scGoes : FnScope ["cabinet", "standing", "drawer"] ["cabinet", "standing", "drawer"] (defScope s_goes) := ⟨rfl, rfl, rfl, by decide +kernel, rfl, by decide +kernel, by decide +kernel⟩
theorem ok_goes {f f1 C : Addr} {fd fd1 : FuncData} (F : Fun K "goes" "goes" s_goes f fd) (G : FnOk P w K mg base CX0 4 f1 fd1 ["cabinet", "standing", "drawer"] (spBarring C)) (g1 : mg "bars_against" = some (.ref f1)) (k1 : PySem.W.keepIn K (.ref f1) = true) (b1 : Binds K fd1 ["cabinet", "standing", "drawer"] []) :
    FnOk P w K mg base CX0 6 f fd ["cabinet", "standing", "drawer"] (spGoes C) := by
  refine F.ok scGoes (fun vs H Q E h => ?_) (fun cdv A outer s H vs Q E hr h => ?_)
  · obtain ⟨c, bs, st, d, rfl, _⟩ := h.h
    rfl
  · obtain ⟨c, bs, st, d, rfl, B, d0, d1, k⟩ := h.h
    obtain ⟨t, ks, hc, hB, ebs, O, n1, n7, n100⟩ := B.h
    refine ⟨_, pss_one (ps_ret (pe_notT (pe_call G (hr.mono (by decide)) rfl g1 k1 b1 .nil pass0 (pa_cons (pv 0) (pa_cons (pv 1) (pa_cons (pv 2) pa_nil)))))), ?_⟩
    refine ⟨_, rfl, _, rfl, _, rfl, ⟨⟨c, t, ks, st, d, rfl, hc, hB, by rw [ebs]; exact O, by omega, by rw [← ebs, List.length_map] at n100; exact n100, d0, d1, fun p H' hp s1 h1 => ?_⟩⟩⟩
    refine ⟨_, .inl ⟨_, SqL.of h1, rfl⟩, ?_⟩
    rw [Bool.not_not, goes_empty ebs]
    exact k H' s1
end
end DL

set_option Elab.async false
set_option maxRecDepth 100000
namespace DL
open PySem L2 HT TL
theorem drs_get {n i : Nat} (h : i < n) : (drs n)[i]? = some (i : Int) := by
  unfold drs
  rw [List.getElem?_map, List.getElem?_range h]
  rfl
theorem take_succ_filter {α : Type} (f : α → Bool) {l : List α} {i : Nat} {x : α} (h : l[i]? = some x) : (l.take (i + 1)).filter f = if f x = true then (l.take i).filter f ++ [x] else (l.take i).filter f := by
  obtain ⟨hl, e⟩ := List.getElem?_eq_some_iff.mp h
  rw [List.take_succ_eq_append_getElem hl, List.filter_append, e]
  by_cases q : f x = true
  · rw [if_pos q, List.filter_cons_of_pos q, List.filter_nil]
  · rw [if_neg q, List.filter_cons_of_neg q, List.filter_nil, List.append_nil]
theorem drs_len (n : Nat) : (drs n).length = n := by unfold drs; rw [List.length_map, List.length_range]
/-- a drawn cabinet's parts: the list at p -/
structure DrOk (H : Hp) (p : Addr) (n : Int) (bs : List Bar) : Prop where
  h : ∃ (t : Addr) (ks : List (Addr × Bar)) (zs : List V), H p = some (.lst (.int n :: .ref t :: zs)) ∧ BarsAt H t ks ∧ ks.map (·.2) = bs ∧ OkBars n bs ∧ 1 ≤ n ∧ n ≤ 7 ∧ bs.length ≤ 100
theorem DrOk.same {H H' : Hp} {p : Addr} {n : Int} {bs : List Bar} (B : DrOk H p n bs) (s : Same H H') : DrOk H' p n bs := by
  obtain ⟨t, ks, zs, h1, h2, h3⟩ := B.h
  exact ⟨⟨t, ks, zs, s _ _ h1, h2.same s, h3⟩⟩
structure spLawFree (vs : List V) (H : Hp) (Q : VK) (_ : XK) : Prop where
  h : ∃ (p : Addr) (bs : List Bar) (st : List Bool), vs = [.ref p, .str (sstr st)] ∧ DrOk H p st.length bs ∧ ∀ (q : Addr) (H' : Hp), H q = none → Same H H' → H' q = some (.lst ((freeL bs st).map V.int)) → Q (.ref q) H'
theorem occ_so (b : Bool) : Builtin.Str.occurrences ("so" : Str) ⟨#[sg b]⟩ 0 ("so" : Str).length 1 = [if b = true then 1 else 0] := by revert b; decide +kernel
theorem os_at (b : Bool) : atI ("os" : Str).cps.toList (((if b = true then 1 else 0 : Nat) : Int)) = some (sg (!b)) := by revert b; decide +kernel
theorem join_codes (cs : List Nat) : Txt.join "" (cs.map fun c => (⟨#[c]⟩ : Str)) = ⟨cs.toArray⟩ := by
  rw [join_eq]
  refine PyProof.Rows.ext_toList ?_
  show tl _ = cs
  rw [tl_join]
  have z : tl ("" : Str) = [] := by decide +kernel
  rw [z]
  have : ∀ l : List Nat, joinL [] ((l.map fun c => (⟨#[c]⟩ : Str)).map tl) = l := by
    intro l
    induction l with
    | nil => rfl
    | cons a l ih =>
      cases l with
      | nil => rfl
      | cons b l =>
        show [a] ++ ([] ++ joinL [] (((b :: l).map fun c => (⟨#[c]⟩ : Str)).map tl)) = _
        rw [ih]
        rfl
  exact this cs
theorem sum_ones (cs : List Nat) : ((cs.map fun c => (⟨#[c]⟩ : Str)).map (·.length)).sum = cs.length := by
  induction cs with
  | nil => rfl
  | cons a l ih =>
    rw [List.map_cons, List.map_cons, List.sum_cons, ih, List.length_cons]
    show 1 + l.length = _
    omega
theorem flip_sat {st : List Bool} {d : Int} {i : Nat} (h : i < st.length) (d0 : 0 ≤ d) : (flip st d)[i]? = some (if (i : Int) = d then !sat st d else sat st i) := by
  unfold flip sat
  rw [Int.toNat_natCast]
  by_cases q : (i : Int) = d
  · subst q
    rw [if_pos rfl, Int.toNat_natCast, List.getElem?_set_self h]
  · rw [if_neg q, List.getElem?_set_ne (by omega), List.getD_eq_getElem?_getD, List.getElem?_eq_getElem h]
    rfl
section
variable {P : Program} {w : World} {K : PySem.W.Frag} {mg : Str → Option Value} {base : Heap}
abbrev nFD : List Str := ["cabinet", "standing", "drawer"]
theorem scFD : FnScope nFD ["cabinet", "standing"] (defScope s_free_drawers) := ⟨rfl, rfl, rfl, by decide +kernel, rfl, by decide +kernel, by decide +kernel⟩
theorem ok_freeDrawers {f f1 C : Addr} {fd fd1 : FuncData} (F : Fun K "free_drawers" "free_drawers" s_free_drawers f fd) (T : Bt mg) (CP : CabP P w K mg base C) (G : FnOk P w K mg base CX0 6 f1 fd1 ["cabinet", "standing", "drawer"] (spGoes C)) (g1 : mg "goes" = some (.ref f1)) (k1 : PySem.W.keepIn K (.ref f1) = true) (b1 : Binds K fd1 ["cabinet", "standing", "drawer"] []) :
    FnOk P w K mg base CX0 8 f fd ["cabinet", "standing"] (spFreeDrawers C) := by
  refine F.ok scFD (fun vs H Q E h => ?_) (fun cdv A outer s H vs Q E hr h => ?_)
  · obtain ⟨c, bs, st, rfl, _⟩ := h.h
    rfl
  · obtain ⟨c, bs, st, rfl, B, k⟩ := h.h
    obtain ⟨t, ks, ⟨dx, hc⟩, hB, ebs, O, n1, n7, n100⟩ := id B.h
    obtain ⟨pD, gD, fdD, hpD, GD, bD⟩ := CP.d
    refine ⟨_, pss_one (ps_ret
      (pe_lc (own := [("drawer", 2)]) (g := gName 2) (by rfl) scFD.nd (pi_range1 (by rfl) T.range (pa_cons (pe_prop (pv 0) CP.cl hpD GD (hr.mono (by decide)) bD .nil pass0 rfl) pa_nil)) (blkOk_by (N := nFD) (sc := defScope s_free_drawers) (by decide +kernel)) (fun _ _ _ _ _ => pg_name (i := 2) scFD.nd rfl (by first | exact Or.inl rfl | exact Or.inr rfl))
        (fun _ _ _ _ _ => pts_one (pt_val (pe_call G (hr.mono (by decide)) rfl g1 k1 b1 .nil pass0 (pa_cons (pv 0) (pa_cons (pv 1) (pa_cons (pv 2) pa_nil)))))) (fun _ _ _ _ _ => pv 2))), ?_⟩
    refine ⟨_, rfl, c, dx, _, rfl, hc, ⟨⟨c, dx, _, t, rfl, hc, ?_⟩⟩⟩
    refine ⟨_, rfl, by omega, by omega, fun D hD => ?_⟩
    refine lc_range (lo := 0) (n := st.length) (fun i H' => Same H H' ∧ H' D = some (.lst ((((drs st.length).take i).filter fun d => goesB bs st d).map V.int))) ⟨same_upd hD, upd_same⟩ ?_ ?_
    · rintro i H' hi ⟨s1, hD1⟩
      refine ⟨rfl, ?_⟩
      have ei : (0 : Int) + (i : Nat) = (i : Int) := by omega
      refine ⟨_, rfl, _, rfl, _, rfl, ⟨⟨c, bs, st, (0 : Int) + (i : Nat), rfl, B.same s1, by omega, by omega, fun H2 s2 => ⟨_, rfl, ?_⟩⟩⟩⟩
      rw [take_succ_filter (fun d => goesB bs st d) (drs_get hi), ei]
      cases e : goesB bs st i with
      | true =>
        refine iteT ⟨_, rfl, _, s2 _ _ hD1, ?_, fun b o eb => ?_, ?_⟩
        · rw [List.length_map]
          have := List.length_filter_le (fun d => goesB bs st d) ((drs st.length).take i)
          rw [List.length_take, drs_len] at this
          exact small1000 (by omega)
        · rw [upd_ne (ne_of_none eb hD)]
          exact s2 _ _ (s1 _ _ eb)
        · rw [upd_same, if_pos rfl, List.map_append]
          rfl
      | false =>
        refine iteF ⟨fun b o eb => s2 _ _ (s1 _ _ eb), ?_⟩
        rw [if_neg Bool.false_ne_true]
        exact s2 _ _ hD1
    · rintro H' ⟨s1, hD1⟩
      refine k D H' hD s1 ?_
      rw [List.take_of_length_le (by rw [drs_len]; exact Nat.le_refl _)] at hD1
      exact hD1
theorem scLHold : FnScope ["_law_bar", "_law_standing", "_law_drawer"] ["_law_bar", "_law_standing", "_law_drawer"] (defScope s__law_hold) := ⟨rfl, rfl, rfl, by decide +kernel, rfl, by decide +kernel, by decide +kernel⟩
theorem ok_lawHold {f : Addr} {fd : FuncData} (F : Fun K "_law_hold" "_law_hold" s__law_hold f fd) : FnOk P w K mg base CX0 1 f fd ["_law_bar", "_law_standing", "_law_drawer"] (spHold K) := by
  refine F.ok scLHold (fun vs H Q E h => ?_) (fun cdv A outer s H vs Q E hr h => ?_)
  · obtain ⟨a, b, st, d, rfl, _⟩ := h.h
    rfl
  · obtain ⟨a, b, st, d, rfl, hq, hb, h7, d0, d1, k⟩ := h.h
    obtain ⟨b1, b2, b3, b4, b5⟩ := hb
    refine ⟨_, pss_cons (ps_if (PW.pt (pw_or (pt_cmpR op_ne (pe_ix ix_tup (pv 0) pe_int (fun _ _ => rfl)) (pv 2) (nomark _)) (pw_or1 (pt_cmpR op_ne (pe_ix ix_tup (pv 0) pe_int (fun _ _ => rfl)) (pe_ifExp (pt_cmpR op_eq (pe_ix ix_str (pv 1) (pv 2) (fun _ _ => rfl)) pe_str (nomark _)) pe_str pe_str) (nomark _))))) (pss_one (ps_ret pe_bl)) pss_nil)
      (pss_one (ps_ret (pe_cmpR op_ne (pe_ix ix_tup (pv 0) pe_int (fun _ _ => rfl)) (pe_ifExp (pt_cmpR op_eq (pe_ix ix_str (pv 1) (pe_ix ix_tup (pv 0) pe_int (fun _ _ => rfl)) (fun _ _ => rfl)) pe_str (nomark _)) pe_str pe_str) (nomark _)))), ?_⟩
    refine ⟨_, rfl, a, _, 0, .int b.d, rfl, rfl, hq, atI_nat (j := 0) rfl, _, rfl, rfl, _, rfl, ?_⟩
    have e0 : decide ((V.int b.d) = V.int d) = decide (b.d = d) := decide_eq_decide.mpr ⟨fun z => by injection z, fun z => by rw [z]⟩
    show if (!decide ((V.int b.d) = V.int d)) = true then _ else _
    rw [e0]
    unfold hind at k
    by_cases q : b.d = d
    · rw [decide_eq_true q] at k ⊢
      refine iteF ?_
      refine ⟨_, rfl, a, _, 1, .str (wd b.w), rfl, rfl, hq, atI_nat (j := 1) rfl, ?_⟩
      refine ⟨_, rfl, _, rfl, _, d, _, rfl, rfl, str_small h7, sstr_at d0 d1, rfl, _, rfl, ?_⟩
      show if decide ((V.str ⟨#[sg (sat st d)]⟩) = V.str "s") = true then _ else _
      rw [sgs_s]
      have second : ∀ H0 : Hp, H0 = H → (sat st d == b.w) = true → (tRet (tOp rNe (tOp (rIxT K) (tVar 0) (tC (.int 3))) (tIf (tTest (tOp rEq (tOp rIxS (tVar 1) (tOp (rIxT K) (tVar 0) (tC (.int 2)))) (tC (.str "o")))) (tC (.str "open")) (tC (.str "shut"))))
          { nx := fun _ H' => Q .non H', rt := Q } (L2.start ["_law_bar", "_law_standing", "_law_drawer"] [.ref a, .str (sstr st), .int d]) H0) := by
        intro H0 e0 e1
        subst e0
        rw [e1] at k
        refine ⟨_, rfl, a, _, 3, .str (wd b.t), rfl, rfl, hq, atI_nat (j := 3) rfl, ?_⟩
        refine ⟨_, rfl, _, rfl, a, _, 2, .int b.o, rfl, rfl, hq, atI_nat (j := 2) rfl, _, b.o, _, rfl, rfl, str_small h7, sstr_at b3 b4, rfl, _, rfl, ?_⟩
        show if decide ((V.str ⟨#[sg (sat st b.o)]⟩) = V.str "o") = true then _ else _
        rw [sgs_o]
        cases e : sat st b.o with
        | true =>
          rw [e] at k
          refine iteT ⟨rfl, ?_⟩
          show Q (.bl (!decide ((V.str (wd b.t)) = V.str (wd false)))) H0
          rw [wd_ne]
          revert k; cases b.t <;> exact id
        | false =>
          rw [e] at k
          refine iteF ⟨rfl, ?_⟩
          show Q (.bl (!decide ((V.str (wd b.t)) = V.str (wd true)))) H0
          rw [wd_ne]
          revert k; cases b.t <;> exact id
      cases e : sat st d with
      | false =>
        refine iteT ⟨rfl, _, rfl, ?_⟩
        show if (!decide ((V.str (wd b.w)) = V.str (wd false))) = true then _ else _
        rw [wd_ne]
        cases ew : b.w with
        | false => exact iteF (second H rfl (by rw [e, ew]; rfl))
        | true =>
          rw [e, ew] at k
          exact iteT k
      | true =>
        refine iteF ⟨rfl, _, rfl, ?_⟩
        show if (!decide ((V.str (wd b.w)) = V.str (wd true))) = true then _ else _
        rw [wd_ne]
        cases ew : b.w with
        | true => exact iteF (second H rfl (by rw [e, ew]; rfl))
        | false =>
          rw [e, ew] at k
          exact iteT k
    · rw [decide_eq_false q] at k ⊢
      exact iteT k
end
end DL

set_option Elab.async false
set_option maxRecDepth 100000
namespace DL
open PySem L2 HT TL
section
variable {P : Program} {w : World} {K : PySem.W.Frag} {mg : Str → Option Value} {base : Heap}
abbrev nLF : List Str := ["_law_d", "_law_standing", "_law_drawer", "_law_bar"]
theorem scLF : FnScope nLF ["_law_d", "_law_standing"] (defScope s__law_free) := ⟨rfl, rfl, rfl, by decide +kernel, rfl, by decide +kernel, by decide +kernel⟩
theorem ok_lawFree {f f1 : Addr} {fd fd1 : FuncData} (F : Fun K "_law_free" "_law_free" s__law_free f fd) (T : Bt mg) (G : FnOk P w K mg base CX0 1 f1 fd1 ["_law_bar", "_law_standing", "_law_drawer"] (spHold K)) (g1 : mg "_law_hold" = some (.ref f1)) (k1 : PySem.W.keepIn K (.ref f1) = true)
    (b1 : Binds K fd1 ["_law_bar", "_law_standing", "_law_drawer"] []) (zA : mg "any" = none) : FnOk P w K mg base CX0 2 f fd ["_law_d", "_law_standing"] spLawFree := by
  refine F.ok scLF (fun vs H Q E h => ?_) (fun cdv A outer s H vs Q E hr h => ?_)
  · obtain ⟨p, bs, st, rfl, _⟩ := h.h
    rfl
  · obtain ⟨p, bs, st, rfl, B, k⟩ := h.h
    obtain ⟨t, ks, zs, hp, hB, ebs, O, n1, n7, n100⟩ := id B.h
    refine ⟨_, pss_one (ps_ret
      (pe_lc (own := [("_law_drawer", 2)]) (g := gName 2) (by rfl) scLF.nd (pi_range1 (by rfl) T.range (pa_cons (pe_ix ix_list (pv 0) pe_int (fun _ _ => rfl)) pa_nil)) (blkOk_by (N := nLF) (sc := defScope s__law_free) (by decide +kernel)) (fun _ _ _ _ _ => pg_name (i := 2) scLF.nd rfl (by first | exact Or.inl rfl | exact Or.inr rfl))
        (fun _ _ _ _ _ => pts_one (pt_not (pt_val (pe_callB (cr_anyK (K := K) rfl rfl) (by rfl) zA boot_any_ (pa_cons
          (by exact (pe_lc (own := [("_law_bar", 3)]) (g := gName 3) (tt := tYes) (by rfl) scLF.nd (pi_tupK (K := K) rfl (pe_ix (ix_listK (K := K) rfl) (pv 0) pe_int (fun _ _ => rfl))) (blkOk_by (N := nLF) (by rfl)) (fun _ _ _ _ _ => pg_name (i := 3) scLF.nd rfl (Or.inl rfl)) (fun _ _ _ _ _ => pts_nil)
            (fun _ _ _ _ _ => pe_call G (hr.mono (by decide)) rfl g1 k1 b1 .nil pass0 (pa_cons (pv 3) (pa_cons (pv 1) (pa_cons (pv 2) pa_nil)))))) pa_nil))))) (fun _ _ _ _ _ => pv 2))), ?_⟩
    refine ⟨_, rfl, p, _, 0, .int _, rfl, rfl, SqL.of hp, atI_nat (j := 0) rfl, _, rfl, by omega, by omega, fun D hD => ?_⟩
    refine lc_range (lo := 0) (n := st.length) (fun i H' => Same H H' ∧ H' D = some (.lst ((((drs st.length).take i).filter fun d => goesB bs st d).map V.int))) ⟨same_upd hD, upd_same⟩ ?_ ?_
    · rintro i H' hi ⟨s1, hD1⟩
      refine ⟨rfl, ?_⟩
      have ei : (0 : Int) + (i : Nat) = (i : Int) := by omega
      refine ⟨_, rfl, p, _, 1, .ref t, rfl, rfl, SqL.of (s1 _ _ hp), atI_nat (j := 1) rfl, t, rfl, ⟨_, SqT.of' (s1 _ _ hB.tu)⟩, fun D2 hD2 => ?_⟩
      refine lc_tup (K := K) (a := t) (xs := ks.map fun k => V.ref k.1) (fun j H2 => Same H' H2 ∧ H2 D2 = some (.lst (((ks.take j).map fun k => hind k.2 st i).map V.bl))) ⟨same_upd hD2, upd_same⟩ (fun j H2 _ q => SqT.of' (q.1 _ _ (s1 _ _ hB.tu))) ?_ ?_
      · rintro j x H2 hj ⟨s2, hD3⟩
        rw [List.getElem?_map] at hj
        cases ek : ks[j]? with
        | none => rw [ek] at hj; cases hj
        | some kk =>
          rw [ek] at hj
          cases hj
          have hm : kk ∈ ks := List.mem_of_getElem? ek
          have hok : kk.2.ok st.length := O.ok _ (by rw [← ebs]; exact List.mem_map.mpr ⟨kk, hm, rfl⟩)
          refine ⟨rfl, tYes_of (iteT ?_)⟩
          refine ⟨_, rfl, _, rfl, _, rfl, ⟨⟨kk.1, kk.2, st, (0 : Int) + (i : Nat), rfl, SqT.of' (s2 _ _ (s1 _ _ (hB.el kk hm))), hok, by omega, by omega, by omega, ?_⟩⟩⟩
          refine ⟨_, hD3, ?_, fun b o e => ?_, ?_⟩
          · rw [List.length_map, List.length_map, List.length_take]
            have h2 : ks.length ≤ 100 := by rw [← ebs, List.length_map] at n100; exact n100
            exact small1000 (by omega)
          · rw [upd_ne (ne_of_none e hD2)]
            exact s2 b o e
          · rw [upd_same, ei]
            congr 2
            rw [List.map_map, List.map_map]
            exact take_succ_map (V.bl ∘ fun k => hind k.2 st i) ek
      · rintro H2 ⟨s2, hD3⟩
        refine ⟨D2, _, rfl, SqL.of hD3, _, rfl, ?_⟩
        rw [any_take ebs fun b => hind b st i]
        rw [take_succ_filter (fun d => goesB bs st d) (drs_get hi)]
        show if (goesB bs st i) = true then _ else _
        cases e : goesB bs st i with
        | true =>
          refine iteT ⟨_, rfl, _, s2 _ _ hD1, ?_, fun b o eb => ?_, ?_⟩
          · rw [List.length_map]
            have := List.length_filter_le (fun d => goesB bs st d) ((drs st.length).take i)
            rw [List.length_take, drs_len] at this
            exact small1000 (by omega)
          · rw [upd_ne (ne_of_none eb hD)]
            exact s2 _ _ (s1 _ _ eb)
          · rw [upd_same, if_pos rfl, List.map_append, ei]
            rfl
        | false =>
          refine iteF ⟨fun b o eb => s2 _ _ (s1 _ _ eb), ?_⟩
          rw [if_neg Bool.false_ne_true]
          exact s2 _ _ hD1
    · rintro H' ⟨s1, hD1⟩
      refine k D H' hD s1 ?_
      rw [List.take_of_length_le (by rw [drs_len]; exact Nat.le_refl _)] at hD1
      exact hD1
abbrev nLM : List Str := ["_law_standing", "_law_drawer", "_law_at"]
theorem scLM : FnScope nLM ["_law_standing", "_law_drawer"] (defScope s__law_moved) := ⟨rfl, rfl, rfl, by decide +kernel, rfl, by decide +kernel, by decide +kernel⟩
theorem ok_lawMoved {f : Addr} {fd : FuncData} (F : Fun K "_law_moved" "_law_moved" s__law_moved f fd) (T : Bt mg) : FnOk P w K mg base CX0 1 f fd ["_law_standing", "_law_drawer"] spMoved := by
  refine F.ok scLM (fun vs H Q E h => ?_) (fun cdv A outer s H vs Q E hr h => ?_)
  · obtain ⟨st, d, rfl, _⟩ := h.h
    rfl
  · obtain ⟨st, d, rfl, h7, d0, d1, k⟩ := h.h
    refine ⟨_, pss_one (ps_ret (pe_join pe_str
      (pe_lc (own := [("_law_at", 2)]) (g := gName 2) (tt := tYes) (by rfl) scLM.nd (pi_range1 (by rfl) T.range (pa_cons (pe_callB call_len_str (by rfl) T.len PySem.boot_len (pa_cons (pv 0) pa_nil)) pa_nil)) (blkOk_by (N := nLM) (sc := defScope s__law_moved) (by decide +kernel)) (fun _ _ _ _ _ => pg_name (i := 2) scLM.nd rfl (by first | exact Or.inl rfl | exact Or.inr rfl)) (fun _ _ _ _ _ => pts_nil)
        (fun _ _ _ _ _ => pe_ifExp (pt_cmpR op_ne (pv 2) (pv 1) (nomark _)) (pe_ix ix_str (pv 0) (pv 2) (fun _ _ => rfl)) (pe_ix ix_str pe_str (pe_bmK (K := K) rfl PySem.F.plainAttrs_str PySem.F.slot_str_index PySem.F.type_str_index mt_sindex pe_str (pa_cons (pe_ix ix_str (pv 0) (pv 2) (fun _ _ => rfl)) pa_nil)) (fun _ _ => rfl)))))), ?_⟩
    refine ⟨⟨_, rfl⟩, ?_⟩
    refine ⟨_, rfl, _, rfl, str_small h7, _, rfl, ?_⟩
    rw [sstr_len]
    refine ⟨by omega, by omega, fun D hD => ?_⟩
    refine lc_range (lo := 0) (n := st.length) (fun i H' => Same H H' ∧ H' D = some (.lst ((((flip st d).take i).map fun b => sgs b).map V.str))) ⟨same_upd hD, upd_same⟩ ?_ ?_
    · rintro i H' hi ⟨s1, hD1⟩
      refine ⟨rfl, tYes_of (iteT ?_)⟩
      have ei : (0 : Int) + (i : Nat) = (i : Int) := by omega
      have small : ((((flip st d).take i).map fun b => sgs b).map V.str).length < sizeLine := by
        rw [List.length_map, List.length_map, List.length_take, flip_len]
        exact small1000 (by omega)
      have fin : ∀ b : Bool, (flip st d)[i]? = some b → ∃ acc, H' D = some (.lst acc) ∧ acc.length < sizeLine ∧ Same H (upd H' D (.lst (acc ++ [.str ⟨#[sg b]⟩]))) ∧ (upd H' D (.lst (acc ++ [.str ⟨#[sg b]⟩]))) D = some (.lst ((((flip st d).take (i + 1)).map fun b => sgs b).map V.str)) := by
        intro b hb
        refine ⟨_, hD1, small, fun c o e => ?_, ?_⟩
        · rw [upd_ne (ne_of_none e hD)]
          exact s1 c o e
        · rw [upd_same, List.map_map, List.map_map, ← take_succ_map (V.str ∘ fun b => sgs b) hb]
          rfl
      refine ⟨_, rfl, _, rfl, rfl, _, rfl, ?_⟩
      have e0 : decide ((V.int ((0 : Int) + (i : Nat))) = V.int d) = decide ((i : Int) = d) := decide_eq_decide.mpr ⟨fun z => by injection z with z; omega, fun z => by rw [ei, z]⟩
      show if (!decide ((V.int ((0 : Int) + (i : Nat))) = V.int d)) = true then _ else _
      rw [e0]
      have fs := flip_sat (st := st) (d := d) hi d0
      by_cases q : (i : Int) = d
      · rw [decide_eq_true q]
        rw [if_pos q] at fs
        refine iteF ⟨rfl, ?_⟩
        refine ⟨_, rfl, _, rfl, _, (0 : Int) + (i : Nat), _, rfl, rfl, str_small h7, sstr_at (by omega) (by omega), ?_⟩
        refine ⟨_, _, _, [], rfl, rfl, occ_so _, _, _, _, rfl, rfl, (by decide +kernel), os_at _, ?_⟩
        rw [ei, q]
        exact fin _ fs
      · rw [decide_eq_false q]
        rw [if_neg q] at fs
        refine iteT ?_
        refine ⟨_, rfl, _, rfl, _, (0 : Int) + (i : Nat), _, rfl, rfl, str_small h7, sstr_at (by omega) (by omega), ?_⟩
        rw [ei]
        exact fin _ fs
    · rintro H' ⟨s1, hD1⟩
      rw [List.take_of_length_le (by rw [flip_len]; exact Nat.le_refl _)] at hD1
      have em : ((flip st d).map fun b => sgs b) = ((flip st d).map sg).map fun c => (⟨#[c]⟩ : Str) := by rw [List.map_map]; rfl
      rw [em] at hD1
      refine ⟨_, D, _, rfl, rfl, .inl (SqL.of hD1), ?_, ?_⟩
      · rw [sum_ones, List.length_map, List.length_map, flip_len]
        have z : ("" : Str).length = 0 := by decide +kernel
        rw [z]
        omega
      · rw [join_codes]
        exact k H' s1
end
end DL

set_option Elab.async false
set_option maxRecDepth 100000
namespace DL
open PySem L2 HT TL
/-! ### plain data: what == sees -/
/-- data of so many levels at most, whose texts are texts -/
def dok (k : Nat) (d : PyData) : Prop := d.canLay0 = true ∧ d.depth ≤ k
theorem dok_shaped {k : Nat} {d : PyData} (h : dok k d) (hk : k ≤ 64) : SeqAt.shaped d = true := by
  unfold SeqAt.shaped
  rw [h.1, decide_eq_true (Nat.le_trans h.2 hk)]
  rfl
theorem dok_all {k : Nat} : ∀ {ds : List PyData}, (∀ d ∈ ds, dok k d) → PyData.canLayAll0 ds = true ∧ PyData.depthAll ds ≤ k
  | [], _ => ⟨by simp [PyData.canLayAll0], by simp [PyData.depthAll]⟩
  | d :: ds, h => by
    obtain ⟨h1, h2⟩ := dok_all (ds := ds) fun e he => h e (List.mem_cons_of_mem _ he)
    obtain ⟨h3, h4⟩ := h d List.mem_cons_self
    refine ⟨by simp [PyData.canLayAll0, h1, h3], ?_⟩
    simp only [PyData.depthAll]
    omega
theorem dok_list {k : Nat} {ds : List PyData} (h : ∀ d ∈ ds, dok k d) : dok (k + 1) (.list ds) := by
  obtain ⟨h1, h2⟩ := dok_all h
  exact ⟨by simpa [PyData.canLay0] using h1, by simp only [PyData.depth]; omega⟩
theorem dok_tuple {k : Nat} {ds : List PyData} (h : ∀ d ∈ ds, dok k d) : dok (k + 1) (.tuple ds) := by
  obtain ⟨h1, h2⟩ := dok_all h
  exact ⟨by simpa [PyData.canLay0] using h1, by simp only [PyData.depth]; omega⟩
theorem dok_int (i : Int) : dok 1 (.int i) := ⟨by simp [PyData.canLay0], by simp [PyData.depth]⟩
end DL
namespace DL
open PySem L2 HT TL
theorem dok_str {z : Str} (h : PyData.strOk z = true) : dok 1 (.str z) := ⟨by simpa [PyData.canLay0] using h, by simp [PyData.depth]⟩
theorem wd_strOk (b : Bool) : PyData.strOk (wd b) = true := by revert b; decide +kernel
def barD (b : Bar) : PyData := .tuple [.int b.d, .str (wd b.w), .int b.o, .str (wd b.t)]
theorem dok_bar (b : Bar) : dok 2 (barD b) := dok_tuple fun d hd => by
  simp only [List.mem_cons, List.not_mem_nil, or_false] at hd
  rcases hd with rfl | rfl | rfl | rfl
  · exact dok_int _
  · exact dok_str (wd_strOk _)
  · exact dok_int _
  · exact dok_str (wd_strOk _)
theorem dp_bar {K : PySem.W.Frag} {H : Hp} {a : Addr} {b : Bar} (h : SqT K H a b.vs) : Dp K H (.ref a) (barD b) := .tup h (.cons (.int _) (.cons (.str _) (.cons (.int _) (.cons (.str _) .nil))))
theorem dpAll_bars {K : PySem.W.Frag} {H : Hp} : ∀ {ks : List (Addr × Bar)}, (∀ k ∈ ks, H k.1 = some (.tup k.2.vs)) → DpAll K H (ks.map fun k => V.ref k.1) (ks.map fun k => barD k.2)
  | [], _ => .nil
  | k :: ks, h => .cons (dp_bar (SqT.of' (h k List.mem_cons_self))) (dpAll_bars fun j hj => h j (List.mem_cons_of_mem _ hj))
theorem dok_bars (ks : List (Addr × Bar)) : ∀ d ∈ ks.map (fun k => barD k.2), dok 2 d := fun d hd => by
  obtain ⟨k, _, rfl⟩ := List.mem_map.mp hd
  exact dok_bar k.2
theorem eqv_self {k : Nat} {d : PyData} (h : dok k d) : PyData.eqv d d = true := SeqAt.eqv_refl d h.1
end DL

set_option Elab.async false
set_option maxRecDepth 100000
namespace DL
open PySem L2 HT TL
/-! ### the checks -/
/-- isinstance of a cabinet -/
structure CabI (K : PySem.W.Frag) (mg : Str → Option Value) (C : Addr) : Prop where
  cl : Cls K C
  mgC : mg "Cabinet" = some (.ref C)
  ha : PySem.W.findIn K (.ref C) "__class__" = some (some (.builtin "object.__class__"))
  hn : PySem.W.specialIn K (.builtin "object.__class__") "__get__" = some (some (.builtin "getset_descriptor.__get__"))
  htk : PySem.W.takesIn K (.builtin "object.__class__") = some true
  hm : PySem.W.mroIn K C (.type "object") = some true
  kk : PySem.W.kitOne K (.ref C) (.ref C) = some true
structure spCkCab (C : Addr) (vs : List V) (H : Hp) (Q : VK) (_ : XK) : Prop where
  h : ∃ (c : Addr) (n : Int) (t : Addr), vs = [.ref c] ∧ CabAt C H c n t ∧ Q .non H
theorem CabOk.cab {C : Addr} {H : Hp} {c : Addr} {n : Int} {bs : List Bar} (B : CabOk C H c n bs) : ∃ t, CabAt C H c n t ∧ n ≤ 7 := by
  obtain ⟨t, ks, h1, h2, h3, h4, h5, h6, h7⟩ := B.h
  exact ⟨t, h1, h6⟩
section
variable {P : Program} {w : World} {K : PySem.W.Frag} {mg : Str → Option Value} {base : Heap}
theorem scCkCab : FnScope ["cabinet"] ["cabinet"] (defScope s_check_cabinet) := ⟨rfl, rfl, rfl, by decide +kernel, rfl, by decide +kernel, by decide +kernel⟩
theorem ok_ckCab {f C : Addr} {fd : FuncData} (F : Fun K "check_cabinet" "check_cabinet" s_check_cabinet f fd) (T : Bt mg) (I : CabI K mg C) : FnOk P w K mg base CX0 1 f fd ["cabinet"] (spCkCab C) := by
  refine F.ok scCkCab (fun vs H Q E h => ?_) (fun cdv A outer s H vs Q E hr h => ?_)
  · obtain ⟨c, n, t, rfl, _⟩ := h.h
    rfl
  · obtain ⟨c, n, t, rfl, ⟨dx, hc⟩, k⟩ := h.h
    refine ⟨_, pss_one (ps_if (pt_not (pt_val (pe_callB call_isi (by rfl) T.isinstance (by decide +kernel) (pa_cons (pv 0) (pa_cons (pe_glob (v := .ref C) rfl I.mgC rfl) pa_nil))))) (pss_one ps_never) pss_nil), ?_⟩
    exact ⟨_, rfl, _, _, _, _, true, rfl, .own C, .base (.ins hc I.cl I.ha I.hn I.htk I.hm), I.kk, _, rfl, iteF k⟩
end
end DL

set_option Elab.async false
set_option maxRecDepth 100000
namespace DL
open PySem PySem.Spec PyProof.Rows L2
/-! ### text * number -/
theorem op_mul_str {X : Cx} : OpR X (binaryOp .Mult) (fun x y H Q => ∃ (z : Str) (n : Int), x = .str z ∧ y = .int n ∧ MulOk z n ∧ Q (.str (Txt.mul z n)) H) := by
  intro pins s σ H x y v u Q I rx ry h
  obtain ⟨z, n, rfl, rfl, ok, q⟩ := h
  obtain ⟨t, rfl⟩ := rx
  obtain ⟨t', rfl⟩ := ry
  exact SB.mul ok fun t2 k => ⟨.str _, H, I.tok k, ⟨_, rfl⟩, q⟩
theorem mulOk_one {z : Str} {n : Int} (hz : z.length = 1) (h1 : 1 ≤ n) (h7 : n ≤ 7) : MulOk z n := by
  refine ⟨?_, fun _ _ => ?_, fun _ _ => ?_⟩
  · rw [decide_eq_false (by omega), decide_eq_false (by omega)]; rfl
  · rw [hz]
    have : n = 1 ∨ n = 2 ∨ n = 3 ∨ n = 4 ∨ n = 5 ∨ n = 6 ∨ n = 7 := by omega
    rcases this with rfl | rfl | rfl | rfl | rfl | rfl | rfl <;> decide
  · rw [hz]
    have : n = 1 ∨ n = 2 ∨ n = 3 ∨ n = 4 ∨ n = 5 ∨ n = 6 ∨ n = 7 := by omega
    rcases this with rfl | rfl | rfl | rfl | rfl | rfl | rfl <;> decide +kernel
/-! ### for a, b in zip(x, y), two texts -/
def ItzS (x y : Str) : It :=
  ⟨fun i _ => i < x.cps.size ∧ i < y.cps.size, fun i H v H' => ∃ T c d, v = .ref T ∧ H T = none ∧ H' = upd H T (.tup [.str ⟨#[c]⟩, .str ⟨#[d]⟩]) ∧ x.cps[i]? = some c ∧ y.cps[i]? = some d,
    fun i _ => i ≤ x.cps.size ∧ i ≤ y.cps.size ∧ (i = x.cps.size ∨ i = y.cps.size)⟩
theorem turn_zipS {P : Program} {w : World} {K : PySem.W.Frag} {elts : List Expr} {kk : Nat} {tpos : Pos} {x y : Str} {tx ty : Tok} {z TI TO i1 i2 : Addr} (S : ZipSep2 z TI TO i1 i2 [i1] [i2]) :
    Turn P w K (.Tuple elts kk tpos) (ItzS x y) [z, TI, TO, i1, i2] z (fun i h => IsZip h z TI TO .none ∧ IsTupOf2 h TI (.ref i1) (.ref i2) ∧ (∃ a b, IsTupOf2 h TO a b) ∧ h.IsStrIter i1 (strIterType x) x tx i ∧ h.IsStrIter i2 (strIterType y) y ty i) where
  mem := by simp
  obj := fun i h st c hc => by
    obtain ⟨hz, hTI, ⟨a, b, hTO⟩, ⟨o1, e1, _, d1⟩, ⟨o2, e2, _, d2⟩⟩ := st
    have e' : c = z ∨ c = TI ∨ c = TO ∨ c = i1 ∨ c = i2 := by simpa using hc
    rcases e' with q | q | q | q | q
    · rw [q]; exact ⟨_, hz, fun v q => nomatch q⟩
    · rw [q]; exact ⟨_, hTI, fun v q => nomatch q⟩
    · rw [q]; exact ⟨_, hTO, fun v q => nomatch q⟩
    · rw [q]; exact ⟨o1, e1, fun v q => by rw [d1] at q; cases q⟩
    · rw [q]; exact ⟨o2, e2, fun v q => by rw [d2] at q; cases q⟩
  keep := fun i h h' st k => by
    obtain ⟨hz, hTI, ⟨a, b, hTO⟩, ⟨o1, e1, r1⟩, ⟨o2, e2, r2⟩⟩ := st
    exact ⟨k z (by simp) _ hz, k TI (by simp) _ hTI, ⟨a, b, k TO (by simp) _ hTO⟩, ⟨o1, k i1 (by simp) _ e1, r1⟩, ⟨o2, k i2 (by simp) _ e2, r2⟩⟩
  item := by
    intro X hP hw hK hc i pins s σ H E I hf st hg
    subst hP hw hK
    obtain ⟨hz, hTI, ⟨a0, b0, hTO⟩, h1, h2⟩ := st
    have hzl : z < s.heap.objs.size := Heap.lt_size hz
    have D1 := Draws.text (prog := X.prog) (w := X.w) (A := X.A.in1) (I.ok.hd hc) i1 x tx
    have D2 := Draws.text (prog := X.prog) (w := X.w) (A := X.A.in1) (I.ok.hd hc) i2 y ty
    refine wpAny_pyNext_zipD2_item S D1 D2 hz hTI hTO h1 h2 hg.1 hg.2 fun x1 x2 h' tk p1 p2 z' TO' h1' h2' hT hsz hk => ?_
    obtain ⟨c, t1, hc1, rfl⟩ := p1
    obtain ⟨d, t2, hd1, rfl⟩ := p2
    refine ⟨_, rfl, wpAny_letOwnedTupleGo_zip (s := { s with heap := h', toks := tk }) z' fun h'' z'' sb => ?_⟩
    have hT2 : h''.get? s.heap.objs.size = some { cls := .type "tuple", data := .seq #[.str ⟨#[c]⟩ t1, .str ⟨#[d]⟩ t2] } := (sb.2 _ (Nat.ne_of_gt hzl)).trans hT
    have new : ObjOk X.prog X.w (upd H s.heap.objs.size (.tup [.str ⟨#[c]⟩, .str ⟨#[d]⟩])) h'' s.heap.objs.size (.tup [.str ⟨#[c]⟩, .str ⟨#[d]⟩]) :=
      ⟨by show 2 ≤ sizeLine; decide, [.str ⟨#[c]⟩ t1, .str ⟨#[d]⟩ t2], .cons ⟨_, rfl⟩ (.cons ⟨_, rfl⟩ .nil), ⟨_, hT2, rfl, _, rfl⟩⟩
    have I1 : Inv X pins σ (upd H s.heap.objs.size (.tup [.str ⟨#[c]⟩, .str ⟨#[d]⟩])) { s with heap := h'', toks := tk } :=
      I.turnedNew (t' := tk) (ch := [z, TI, TO, i1, i2]) (fun c o hb q => (sb.2 c (fun q' => hb (by simp [q']))).trans (hk c o (fun q' => hb (by simp [q'])) (fun q' => hb (by simp [q'])) (fun q' => hb (by simp [q'])) (fun q' => hb (by simp [q'])) q)) hf (Nat.le_refl _) new
    have sep : ∀ b, b ≠ z → ∀ o, h'.get? b = some o → h''.get? b = some o := fun b hb o q => (sb.2 b hb).trans q
    refine ⟨.ref s.heap.objs.size, _, I1, rfl, ⟨_, c, d, rfl, I.hok.fresh (Nat.le_refl _), rfl, hc1, hd1⟩, ⟨z'', ?_, ⟨.str ⟨#[c]⟩ t1, .str ⟨#[d]⟩ t2, ?_⟩, ?_, ?_⟩, fun b hcm => ?_⟩
    · exact sep _ S.TIz _ (hk _ _ S.TIz S.TITO S.TIi1 S.TIi2 hTI)
    · exact sep _ S.TOz _ TO'
    · obtain ⟨o, q, r⟩ := h1'
      exact ⟨o, sep _ S.zi1.symm _ q, r⟩
    · obtain ⟨o, q, r⟩ := h2'
      exact ⟨o, sep _ S.zi2.symm _ q, r⟩
    · have hlt : b < s.heap.objs.size := by
        have e' : b = z ∨ b = TI ∨ b = TO ∨ b = i1 ∨ b = i2 := by simpa using hcm
        rcases e' with q | q | q | q | q
        · rw [q]; exact hzl
        · rw [q]; exact Heap.lt_size hTI
        · rw [q]; exact Heap.lt_size hTO
        · rw [q]; obtain ⟨_, e1, _⟩ := h1; exact Heap.lt_size e1
        · rw [q]; obtain ⟨_, e2, _⟩ := h2; exact Heap.lt_size e2
      rw [upd_ne (Nat.ne_of_lt hlt)]
      exact (hf b hcm).1
  done := by
    intro X hP hw hK hc i pins s σ H E I hf st hg
    subst hP hw hK
    obtain ⟨hz, hTI, ⟨a0, b0, hTO⟩, h1, h2⟩ := st
    have D1 := Draws.text (prog := X.prog) (w := X.w) (A := X.A.in1) (I.ok.hd hc) i1 x tx
    have D2 := Draws.text (prog := X.prog) (w := X.w) (A := X.A.in1) (I.ok.hd hc) i2 y ty
    exact wpAny_pyNext_zipD2_end S D1 D2 hz hTI hTO h1 h2 hg.1 hg.2.1 hg.2.2 fun h' tk hk => ⟨rfl, I.turnedL (t' := tk) (ch := [z, TI, TO, i1, i2]) (fun c o hb q =>
      hk c o (fun q' => hb (by simp [q'])) (fun q' => hb (by simp [q'])) (fun q' => hb (by simp [q'])) (fun q' => hb (by simp [q'])) q) hf⟩
  self := fun A i s Q E st h => wpAny_pyIter_zip st.1 h
def iZipS (ta : TA) : TI := fun σ H R => ta σ H fun vs H1 => ∃ x y, vs = [.str x, .str y] ∧ R (ItzS x y) H1
theorem pi_zipS {X : Cx} {e e2 : Expr} {ta : TA} {p pos tpos : Pos} {elts : List Expr} {kk : Nat} (hg : Gl X "zip") (hm : X.mg "zip" = none) (ha : PA X [e, e2] ta)
    (hs : starEach [e, e2] X.env = (false, eval e X.env) :: starEach [e2] X.env := by rfl) (hpl : (backTo pos (starEach [e2] X.env)).any (·.1) = false := by rfl) :
    PI X (.Tuple elts kk tpos) (.Call (.Name "zip" p) [e, e2] [] pos) (iZipS ta) := by
  refine ⟨fun pins s σ H R I h => ?_⟩
  refine Call_ (ld_blt I hg hm PyProof.Rows.boot_zip (PyProof.Rows.callWith_type1 (thn (ha.run pos pins s σ H _ I h) fun us s1 ⟨vs, H1, I1, r1, q1⟩ => ?_) hs hpl))
  obtain ⟨x, y, ex, q⟩ := q1
  subst ex
  cases r1 with
  | cons r rr =>
    cases rr with
    | cons r' rr =>
      cases rr
      obtain ⟨t1, rfl⟩ := r
      obtain ⟨t2, rfl⟩ := r'
      refine zip_begins2 (begins_text x t1) (begins_text y t2) trivial trivial fun h' hz hTI hTO h1 h2 hsz hk => wpAny_pyIter_zip hz ?_
      have I2 : Inv X pins σ H1 { s1 with heap := h' } := I1.kept (t' := s1.toks) hk
      have sep : ZipSep2 (s1.heap.objs.size + 4) (s1.heap.objs.size + 2) (s1.heap.objs.size + 3) s1.heap.objs.size (s1.heap.objs.size + 1) [s1.heap.objs.size] [s1.heap.objs.size + 1] := zip_sep2 (fp1 := []) (fp2 := []) (fun b hb => by simp at hb) fun b hb => by simp at hb
      refine ⟨s1.heap.objs.size + 4, [s1.heap.objs.size + 4, s1.heap.objs.size + 2, s1.heap.objs.size + 3, s1.heap.objs.size, s1.heap.objs.size + 1], _, _, H1, rfl, I2, turn_zipS sep, ⟨hz, hTI, ⟨_, _, hTO⟩, ⟨_, h1, rfl, rfl⟩, ⟨_, h2, rfl, rfl⟩⟩, fun c hcm => ?_, q⟩
      have e' : c = s1.heap.objs.size + 4 ∨ c = s1.heap.objs.size + 2 ∨ c = s1.heap.objs.size + 3 ∨ c = s1.heap.objs.size ∨ c = s1.heap.objs.size + 1 := by simpa using hcm
      have hle : s1.heap.objs.size ≤ c := by
        rcases e' with z | z | z | z | z
        · rw [z]; exact Nat.le_add_right _ _
        · rw [z]; exact Nat.le_add_right _ _
        · rw [z]; exact Nat.le_add_right _ _
        · rw [z]; exact Nat.le_refl _
        · rw [z]; exact Nat.le_add_right _ _
      exact I1.fpOk hle (I1.hok.fresh hle)
theorem walk_zipS {x y : Str} (hl : x.cps.size = y.cps.size) : Walk (ItzS x y) x.cps.size (fun _ => True) (fun i H v H' => ∃ T c d, v = .ref T ∧ H T = none ∧ H' = upd H T (.tup [.str ⟨#[c]⟩, .str ⟨#[d]⟩]) ∧ x.cps[i]? = some c ∧ y.cps[i]? = some d) :=
  ⟨fun i _ hi _ => ⟨hi, by omega⟩, fun _ _ => ⟨Nat.le_refl _, by omega, .inl rfl⟩, fun _ _ _ _ _ _ y => y⟩
end DL

set_option Elab.async false
set_option maxRecDepth 100000
namespace DL
open PySem L2 HT TL
/-! ### patterns and rows -/
theorem pg_tupK {X : Cx} {K : PySem.W.Frag} {pos : Pos} {es : List Expr} {k : Nat} {t : TGs} {n : Nat} (hK : X.K = K) (hc : X.calm = true) (h : PGs X es t) (h1 : (assignEach es X.env).length = n := by rfl) (h2 : List.findIdx? (fun x => x.1) (assignEach es X.env) = none := by rfl) :
    PG X (.Tuple es k pos) (gTup K n t) := by subst hK; exact pg_tup hc h h1 h2
theorem SqT.same {K : PySem.W.Frag} {H H' : Hp} {a : Addr} {xs : List V} (s : Same H H') (h : SqT K H a xs) : SqT K H' a xs := by
  rcases h with (h | ⟨o, h⟩) | h
  · exact .inl (.inl (s _ _ h))
  · exact .inl (.inr ⟨o, s _ _ h⟩)
  · exact .inr h
def pstr (cs : List Nat) : Str := ⟨cs.toArray⟩
theorem pstr_tl (cs : List Nat) : (pstr cs).cps.toList = cs := rfl
theorem pstr_len (cs : List Nat) : (pstr cs).length = cs.length := by
  show (pstr cs).cps.size = cs.length
  rw [← Array.length_toList, pstr_tl]
def fitAt (st : List Bool) (cs : List Nat) (i : Nat) : Bool := decide (cs.getD i 0 = 63) || decide (cs.getD i 0 = sg (st.getD i false))
def fitB (st : List Bool) (cs : List Nat) : Bool := ((List.range st.length).map (fitAt st cs)).all id
theorem str1 {c d : Nat} : ((⟨#[c]⟩ : Str) == ⟨#[d]⟩) = decide (d = c) := by
  rw [beq_dec]
  refine decide_eq_decide.mpr ⟨fun h => ?_, fun h => by rw [h]⟩
  injection h with h
  injection h with h
  injection h with h
  exact h.symm
theorem in_two (c d : Nat) : inV (.str ⟨#[d]⟩) [.str "?", .str ⟨#[c]⟩] = (decide (d = 63) || decide (d = c)) := by
  have e : ("?" : Str) = ⟨#[63]⟩ := by decide +kernel
  rw [e]
  show ((⟨#[63]⟩ : Str) == ⟨#[d]⟩ || ((⟨#[c]⟩ : Str) == ⟨#[d]⟩ || false)) = _
  rw [str1, str1, Bool.or_false]
def runB (bs : List Bar) (st : List Bool) : List Int → Option (List Bool)
  | [] => some st
  | d :: ds => if goesB bs st d = true then runB bs (flip st d) ds else none
theorem runB_cons (bs : List Bar) (st : List Bool) (d : Int) (ds : List Int) : runB bs st (d :: ds) = if goesB bs st d = true then runB bs (flip st d) ds else none := rfl
def shutS (n : Nat) : List Bool := List.replicate n false
def intOf : V → Int
  | .int i => i
  | _ => 0
theorem ints_of {n : Int} : ∀ {xs : List V}, xs.all (isD n) = true → xs = (xs.map intOf).map V.int ∧ ∀ d ∈ xs.map intOf, 0 ≤ d ∧ d < n
  | [], _ => ⟨rfl, fun d hd => by simp at hd⟩
  | x :: xs, h => by
    rw [List.all_cons, Bool.and_eq_true] at h
    obtain ⟨h1, h2⟩ := ints_of h.2
    cases x with
    | int i =>
      have hi : (decide (0 ≤ i) && decide (i < n)) = true := h.1
      rw [Bool.and_eq_true] at hi
      refine ⟨?_, fun d hd => ?_⟩
      · show V.int i :: xs = V.int i :: (xs.map intOf).map V.int
        rw [← h1]
      · rcases List.mem_cons.mp hd with rfl | hd
        · exact ⟨of_decide_eq_true hi.1, of_decide_eq_true hi.2⟩
        · exact h2 d hd
    | _ => exact absurd h.1 (by intro z; cases z)
structure spFits (vs : List V) (H : Hp) (Q : VK) (_ : XK) : Prop where
  h : ∃ (st : List Bool) (cs : List Nat), vs = [.str (sstr st), .str (pstr cs)] ∧ st.length = cs.length ∧ st.length ≤ 7 ∧ ∀ H', Same H H' → Q (.bl (fitB st cs)) H'
structure spFirst (vs : List V) (H : Hp) (Q : VK) (_ : XK) : Prop where
  h : ∃ n : Nat, vs = [.int n] ∧ 1 ≤ n ∧ n ≤ 7 ∧ Q (.str (sstr (shutS n))) H
theorem mul_shut {n : Nat} (h1 : 1 ≤ n) (h7 : n ≤ 7) : Txt.mul "s" (n : Int) = sstr (shutS n) := by
  have : n = 1 ∨ n = 2 ∨ n = 3 ∨ n = 4 ∨ n = 5 ∨ n = 6 ∨ n = 7 := by omega
  rcases this with rfl | rfl | rfl | rfl | rfl | rfl | rfl <;> decide +kernel
section
variable {P : Program} {w : World} {K : PySem.W.Frag} {mg : Str → Option Value} {base : Heap}
theorem scFirst : FnScope ["drawers"] ["drawers"] (defScope s_first_standing) := ⟨rfl, rfl, rfl, by decide +kernel, rfl, by decide +kernel, by decide +kernel⟩
theorem ok_first {f aS : Addr} {fd : FuncData} (F : Fun K "first_standing" "first_standing" s_first_standing f fd) (T : SgT K w mg aS) : FnOk P w K mg base CX0 1 f fd ["drawers"] spFirst := by
  refine F.ok scFirst (fun vs H Q E h => ?_) (fun cdv A outer s H vs Q E hr h => ?_)
  · obtain ⟨n, rfl, _⟩ := h.h
    rfl
  · obtain ⟨n, rfl, h1, h7, k⟩ := h.h
    refine ⟨_, pss_one (ps_ret (pe_op op_mul_str (pe_ix ix_kdict (pe_glob (v := .ref aS) rfl T.g rfl) pe_str (fun _ _ => rfl)) (pv 0))), ?_⟩
    refine ⟨aS, _, _, rfl, rfl, T.s, _, rfl, "s", (n : Int), rfl, rfl, mulOk_one (by decide +kernel) (by omega) (by omega), ?_⟩
    rw [mul_shut h1 h7]
    exact k
abbrev nFi : List Str := ["standing", "pattern", "sign", "wanted"]
theorem scFi : FnScope nFi ["standing", "pattern"] (defScope s_fits) := ⟨rfl, rfl, rfl, by decide +kernel, rfl, by decide +kernel, by decide +kernel⟩
theorem ok_fits {f : Addr} {fd : FuncData} (F : Fun K "fits" "fits" s_fits f fd) (zZ : mg "zip" = none) (zA : mg "all" = none) : FnOk P w K mg base CX0 1 f fd ["standing", "pattern"] spFits := by
  refine F.ok scFi (fun vs H Q E h => ?_) (fun cdv A outer s H vs Q E hr h => ?_)
  · obtain ⟨st, cs, rfl, _⟩ := h.h
    rfl
  · obtain ⟨st, cs, rfl, hl, h7, k⟩ := h.h
    refine ⟨_, pss_one (ps_ret (pe_callB (cr_all rfl) (by rfl) zA boot_all_ (pa_cons
        (pe_lc (own := [("sign", 2), ("wanted", 3)]) (g := gTup K 2 (gCons (gName 2) (gCons (gName 3) gNil))) (tt := tYes) (by rfl) scFi.nd (pi_zipS (by rfl) zZ (pa_cons (pv 0) (pa_cons (pv 1) pa_nil))) (blkOk_by (N := nFi) (sc := defScope s_fits) (by decide +kernel))
          (fun _ _ _ _ _ => pg_tupK (K := K) rfl rfl (pgs_cons (pg_name (i := 2) scFi.nd rfl (Or.inl rfl)) (pgs_cons (pg_name (i := 3) scFi.nd rfl (Or.inl rfl)) pgs_nil))) (fun _ _ _ _ _ => pts_nil)
          (fun _ _ _ _ _ => pe_cmpR (op_in_seqK (K := K) rfl) (pv 3) (pe_tup (pa_cons pe_str (pa_cons (pv 2) pa_nil))) (by rfl))) pa_nil))), ?_⟩
    refine ⟨_, rfl, _, rfl, _, _, rfl, fun D hD => ?_⟩
    have hsz : (sstr st).cps.size = (pstr cs).cps.size := by
      have e1 : (sstr st).cps.size = st.length := sstr_len st
      have e2 : (pstr cs).cps.size = cs.length := pstr_len cs
      omega
    refine lc_it (walk_zipS hsz) (fun i H' => Same H H' ∧ H' D = some (.lst ((((List.range st.length).take i).map (fitAt st cs)).map V.bl))) ⟨same_upd hD, upd_same⟩ (fun _ _ _ _ => trivial) ?_ ?_
    · rintro i x H1 H2 hi ⟨s1, hD1⟩ ⟨T, c, d, rfl, hT, rfl, ec, ed⟩
      have hi' : i < st.length := by
        have e1 : (sstr st).cps.size = st.length := sstr_len st
        omega
      refine ⟨T, _, rfl, SqT.of' upd_same, rfl, _, _, rfl, _, _, rfl, rfl, rfl, tYes_of (iteT ?_)⟩
      refine ⟨_, rfl, _, rfl, (by show 2 ≤ sizeLine; decide), fun q hq => ?_⟩
      refine ⟨q, _, rfl, .inr (SqT.of' upd_same), rfl, rfl, ?_⟩
      rw [if_neg Bool.false_ne_true, in_two]
      have s2 := (s1.trans (same_upd (o := .tup [.str ⟨#[c]⟩, .str ⟨#[d]⟩]) hT)).trans (same_upd (o := .tup [.str "?", .str ⟨#[c]⟩]) hq)
      have hDq : D ≠ q := ne_of_none (by rw [upd_ne (ne_of_none hD1 hT)]; exact hD1) hq
      refine ⟨_, by rw [upd_ne hDq, upd_ne (ne_of_none hD1 hT)]; exact hD1, ?_, fun b o e => ?_, ?_⟩
      · rw [List.length_map, List.length_map, List.length_take, List.length_range]
        exact small1000 (by omega)
      · rw [upd_ne (ne_of_none e hD)]
        exact s2 b o e
      · rw [upd_same, ← take_succ_map (fitAt st cs) (List.getElem?_range hi'), List.map_append]
        congr 3
        show [V.bl (decide (d = 63) || decide (d = c))] = [V.bl (fitAt st cs i)]
        unfold fitAt
        have e1 : c = sg (st.getD i false) := by
          rw [← Array.getElem?_toList, sstr_tl, List.getElem?_map] at ec
          rw [List.getD_eq_getElem?_getD]
          cases q : st[i]? with
          | none => rw [q] at ec; cases ec
          | some b => rw [q] at ec; exact (Option.some.inj ec).symm
        have e2 : d = cs.getD i 0 := by
          rw [← Array.getElem?_toList, pstr_tl] at ed
          rw [List.getD_eq_getElem?_getD, ed]
          rfl
        rw [e1, e2]
    · rintro H' ⟨s1, hD1⟩
      refine ⟨D, _, rfl, SqL.of hD1, ?_⟩
      have e1 : (sstr st).cps.size = st.length := sstr_len st
      rw [e1, List.take_of_length_le (by rw [List.length_range]; exact Nat.le_refl _)]
      exact k H' s1
end
end DL

set_option Elab.async false
set_option maxRecDepth 100000
namespace DL
open PySem L2 HT TL
theorem inV_ints (i : Int) (l : List Int) : inV (.int i) (l.map V.int) = decide (i ∈ l) := by
  unfold inV
  induction l with
  | nil => rfl
  | cons a l ih =>
    rw [List.map_cons, List.any_cons, ih]
    show ((a == i) || decide (i ∈ l)) = decide (i ∈ a :: l)
    by_cases q : i = a
    · subst q
      simp
    · have q' : ¬ a = i := fun z => q z.symm
      simp [q, q']
theorem flat_ints (l : List Int) : (l.map V.int).all flatV = true := by
  rw [List.all_eq_true]
  intro x hx
  obtain ⟨i, _, rfl⟩ := List.mem_map.mp hx
  rfl
end DL

set_option Elab.async false
set_option maxRecDepth 100000
namespace DL
open PySem L2 HT TL
/-! ### a drawn cabinet: its parts at p, itself at c; the row of draws at r -/
structure Lay (C r p c : Addr) (H : Hp) (n : Int) (bs : List Bar) : Prop where
  h : ∃ (t : Addr) (ks : List (Addr × Bar)) (zs : List V), H p = some (.lst (.int n :: .ref t :: zs)) ∧ CabAt C H c n t ∧ BarsAt H t ks ∧ ks.map (·.2) = bs ∧ OkBars n bs ∧ 1 ≤ n ∧ n ≤ 7 ∧ bs.length ≤ 100 ∧ p ≠ r
theorem Lay.cab {C r p c : Addr} {H : Hp} {n : Int} {bs : List Bar} (L : Lay C r p c H n bs) : CabOk C H c n bs := by
  obtain ⟨t, ks, zs, h1, h2, h3, h4, h5, h6, h7, h8, _⟩ := L.h
  exact ⟨⟨t, ks, h2, h3, h4, h5, h6, h7, h8⟩⟩
theorem Lay.but {C r sc p c : Addr} {H H' : Hp} {n : Int} {bs : List Bar} (L : Lay C r p c H n bs) (R : RowOk H r sc) (B : But r H H') : Lay C r p c H' n bs := by
  obtain ⟨t, ks, zs, h1, ⟨dx, h2⟩, h3, h4, h5, h6, h7, h8, h9⟩ := L.h
  obtain ⟨i, m, e, hR, _⟩ := R.h
  exact ⟨⟨t, ks, zs, B _ _ h9 h1, ⟨dx, B _ _ (ne_of h2 hR (by intro z; cases z)) h2⟩, ⟨B.tup hR h3.tu, fun k hk => B.tup hR (h3.el k hk)⟩, h4, h5, h6, h7, h8, h9⟩⟩
theorem Lay.same {C r p c : Addr} {H H' : Hp} {n : Int} {bs : List Bar} (L : Lay C r p c H n bs) (s : Same H H') : Lay C r p c H' n bs := by
  obtain ⟨t, ks, zs, h1, ⟨dx, h2⟩, h3, h4⟩ := L.h
  exact ⟨⟨t, ks, zs, s _ _ h1, ⟨dx, s _ _ h2⟩, h3.same s, h4⟩⟩
theorem Lay.n1 {C r p c : Addr} {H : Hp} {n : Int} {bs : List Bar} (L : Lay C r p c H n bs) : 1 ≤ n ∧ n ≤ 7 := by
  obtain ⟨t, ks, zs, h1, h2, h3, h4, h5, h6, h7, h8⟩ := L.h
  exact ⟨h6, h7⟩
theorem free_in {bs : List Bar} {st : List Bool} {d : Int} (h : d ∈ freeL bs st) : 0 ≤ d ∧ d < st.length := by
  have hm := (List.mem_filter.mp h).1
  unfold drs at hm
  obtain ⟨i, hi, rfl⟩ := List.mem_map.mp hm
  have := List.mem_range.mp hi
  omega
theorem free_len (bs : List Bar) (st : List Bool) : (freeL bs st).length ≤ st.length := by
  have := List.length_filter_le (fun d => goesB bs st d) (drs st.length)
  rw [drs_len] at this
  exact this

end DL

set_option Elab.async false
set_option maxRecDepth 100000
set_option maxHeartbeats 1000000

set_option Elab.async false
set_option maxRecDepth 100000
set_option maxHeartbeats 1000000

set_option Elab.async false
set_option maxRecDepth 100000
set_option maxHeartbeats 1000000
namespace DL
open PySem L2
/-! ### the checks with what they raise -/
/-- what is_bar says False of -/
def NoBar (K : PySem.W.Frag) (H : Hp) (n : Int) (v : V) : Prop := (∃ t : Value, TyX K H v t ∧ PySem.W.kitOne K t (.type "tuple") = some false) ∨
  (∃ (a : Addr) (xs : List V), v = .ref a ∧ SqT K H a xs ∧ xs.length ≠ 4) ∨
  ∃ (a : Addr) (x0 x1 x2 x3 : V), v = .ref a ∧ SqT K H a [x0, x1, x2, x3] ∧ scV x0 = true ∧ scV x1 = true ∧ scV x2 = true ∧ scV x3 = true ∧ barB n x0 x1 x2 x3 = false
theorem NoBar.sp {K : PySem.W.Frag} {H : Hp} {n : Int} {v : V} {Q : VK} {E : XK} (h : NoBar K H n v) (k : Q (.bl false) H) : spIsBar K [.int n, v] H Q E := by
  rcases h with ⟨t, h1, h2⟩ | ⟨a, xs, rfl, h1, h2⟩ | ⟨a, x0, x1, x2, x3, rfl, h1, c0, c1, c2, c3, h2⟩
  · exact ⟨⟨n, .inl ⟨v, t, rfl, h1, h2, k⟩⟩⟩
  · exact ⟨⟨n, .inr (.inl ⟨a, xs, rfl, h1, h2, k⟩)⟩⟩
  · exact ⟨⟨n, .inr (.inr ⟨a, x0, x1, x2, x3, rfl, h1, c0, c1, c2, c3, by rw [h2]; exact k⟩)⟩⟩
end DL

set_option Elab.async false
set_option maxRecDepth 100000
namespace DL
open PySem L2 HT TL RZ
/-! ### sets of drawers -/
def ascB (ns : List Int) : Bool := (ns.zip (ns.drop 1)).all fun p => decide (p.1 < p.2)
def setB (n : Int) (xs : List V) : Bool := xs.all (isD n) && ascB (xs.map intOf)
structure spIsSet (K : PySem.W.Frag) (vs : List V) (H : Hp) (Q : VK) (_ : XK) : Prop where
  h : ∃ (n : Int) (v : V), vs = [.int n, v] ∧ ((∃ t : Value, TyX K H v t ∧ PySem.W.kitOne K t (.type "tuple") = some false ∧ Q (.bl false) H) ∨
    ∃ (a : Addr) (xs : List V), v = .ref a ∧ SqT K H a xs ∧ xs.length ≤ 1000 ∧ (∀ x ∈ xs, scV x = true) ∧ ∀ H', Same H H' → Q (.bl (setB n xs)) H')
theorem walk_zipT {K : PySem.W.Frag} {a b : Addr} {xs ys : List V} {n : Nat} (hn : n = min xs.length ys.length) : Walk (ItzT K a b) n (fun H => SqT K H a xs ∧ SqT K H b ys) (YPair (fun i => xs[i]?) (fun i => ys[i]?)) := by
  subst hn
  refine ⟨fun i _ hi q => ?_, fun _ q => ⟨xs, ys, q.1, q.2, by omega⟩, fun i H v H' _ q y => ?_⟩
  · have l1 : i < xs.length := by omega
    have l2 : i < ys.length := by omega
    exact ⟨xs, ys, xs[i], ys[i], q.1, q.2, List.getElem?_eq_getElem l1, List.getElem?_eq_getElem l2⟩
  · obtain ⟨T, x, z, e1, e2, e3, e4, e5⟩ := y
    exact ⟨T, x, z, e1, e2, e3, e4 xs q.1, e5 ys q.2⟩
theorem cut1_empty {xs : List V} : (HT.sIx xs.length 0 (some 1) = 0 ∧ HT.sIx xs.length xs.length none = xs.length) ↔ xs = [] := by
  rw [show (some (1 : Int)) = some ((1 : Nat) : Int) from rfl, HT.sIx_nat, HT.sIx_none]
  cases xs with
  | nil => simp
  | cons x xs => simp
theorem cut1 {xs : List V} : cutV xs (some 1) none = xs.drop 1 := by
  unfold cutV
  rw [show (some (1 : Int)) = some ((1 : Nat) : Int) from rfl, HT.sIx_nat, HT.sIx_none]
  cases xs with
  | nil => rfl
  | cons x xs => simp
theorem zip_pairs {ns : List Int} {i : Nat} {p : Int × Int} (h : (ns.zip (ns.drop 1))[i]? = some p) : (ns.map V.int)[i]? = some (.int p.1) ∧ ((ns.map V.int).drop 1)[i]? = some (.int p.2) := by
  rw [List.getElem?_zip_eq_some] at h
  rw [← List.map_drop, List.getElem?_map, List.getElem?_map, h.1, h.2]
  exact ⟨rfl, rfl⟩
theorem bl_all {α : Type} (l : List α) (f : α → Bool) : (l.map f).all id = l.all f := by rw [List.all_map]; rfl
section
variable {P : Program} {w : World} {K : PySem.W.Frag} {mg : Str → Option Value} {base : Heap}
abbrev nIS : List Str := ["drawers", "value", "drawer", "one", "other"]
theorem scIS : FnScope nIS ["drawers", "value"] (defScope s_is_set) := ⟨rfl, rfl, rfl, by decide +kernel, rfl, by decide +kernel, by decide +kernel⟩
theorem ok_isSet {f f1 : Addr} {fd fd1 : FuncData} (F : Fun K "is_set" "is_set" s_is_set f fd) (T : Bt mg) (zA : mg "all" = none) (zZ : mg "zip" = none) (G : FnOk P w K mg base CX0 2 f1 fd1 ["drawers", "value"] (spIsDrawer K)) (g1 : mg "is_drawer" = some (.ref f1)) (k1 : PySem.W.keepIn K (.ref f1) = true) (b1 : Binds K fd1 ["drawers", "value"] []) :
    FnOk P w K mg base CX0 4 f fd ["drawers", "value"] (spIsSet K) := by
  refine F.ok scIS (fun vs H Q E h => ?_) (fun cdv A outer s H vs Q E hr h => ?_)
  · obtain ⟨n, v, rfl, _⟩ := h.h
    rfl
  · obtain ⟨n, v, rfl, hv⟩ := h.h
    refine ⟨_, pss_cons (ps_if (PW.pt (pw_or (pt_not (pt_val (pe_callB call_isi (by rfl) T.isinstance (by decide +kernel) (pa_cons (pv 1) (pa_cons (pe_bltn (v := .ty "tuple") (by rfl) T.tuple (by decide +kernel) rfl) pa_nil)))))
        (pw_or1 (pt_not (pt_val (pe_callB (cr_all rfl) (by rfl) zA boot_all_ (pa_cons
          (pe_lc (own := [("drawer", 2)]) (g := gName 2) (tt := tYes) (by rfl) scIS.nd (pi_tup (pv 1)) (blkOk_by (N := nIS) (sc := defScope s_is_set) (by decide +kernel)) (fun _ _ _ _ _ => pg_name (i := 2) scIS.nd rfl (Or.inl rfl)) (fun _ _ _ _ _ => pts_nil)
            (fun _ _ _ _ _ => pe_call G (hr.mono (by decide)) rfl g1 k1 b1 .nil pass0 (pa_cons (pv 0) (pa_cons (pv 2) pa_nil)))) pa_nil))))))) (pss_one (ps_ret pe_bl)) pss_nil)
      (pss_one (ps_ret (pe_callB (cr_all rfl) (by rfl) zA boot_all_ (pa_cons
          (pe_lc (own := [("one", 3), ("other", 4)]) (g := gTup K 2 (gCons (gName 3) (gCons (gName 4) gNil))) (tt := tYes) (by rfl) scIS.nd (pi_zipA (by rfl) zZ (pa_cons (pv 1) (pa_cons (pe_slice sl_tupA (pv 1) (po_some pe_int) po_none) pa_nil))) (blkOk_by (N := nIS) (sc := defScope s_is_set) (by decide +kernel))
            (fun _ _ _ _ _ => pg_tupK (K := K) rfl rfl (pgs_cons (pg_name (i := 3) scIS.nd rfl (Or.inl rfl)) (pgs_cons (pg_name (i := 4) scIS.nd rfl (Or.inl rfl)) pgs_nil))) (fun _ _ _ _ _ => pts_nil)
            (fun _ _ _ _ _ => pe_cmpR op_lt (pv 3) (pv 4) (nomark _))) pa_nil)))), ?_⟩
    rcases hv with ⟨t, hty, hk, k⟩ | ⟨a, xs, rfl, S, hlen, hsc, k⟩
    · exact ⟨_, rfl, _, _, t, _, false, rfl, .ty "tuple", hty, hk, _, rfl, iteT k⟩
    · refine ⟨_, rfl, _, _, _, _, true, rfl, .ty "tuple", tyT S, kit_ty (by decide +kernel), _, rfl, iteF ?_⟩
      refine ⟨_, rfl, a, rfl, ⟨_, S⟩, fun D hD => ?_⟩
      refine lc_pick (walk_tup (K := K) (a := a) (xs := xs)) xs rfl (by omega) (fun _ => true) (fun x => V.bl (isD n x)) hD (fun H' s1 => SqT.same s1 S) ?_ ?_
      · rintro i x z H1 H1' Tk Nk ez s1 ⟨rfl, ex⟩ kT kF
        have ex : xs[i]? = some x := ex
        rw [ez] at ex
        cases ex
        refine ⟨rfl, tYes_of (iteT ?_)⟩
        refine ⟨_, rfl, _, rfl, ?_⟩
        exact spIsDrawer_sc (hsc _ (List.mem_of_getElem? ez)) (kT _ rfl (Same.refl _))
      · intro H1 s1 hD1
        rw [List.filter_eq_self.mpr fun _ _ => rfl] at hD1
        refine ⟨D, xs.map (isD n), rfl, SqL.of (by rw [hD1, List.map_map]; rfl), _, rfl, ?_⟩
        rw [bl_all]
        cases ea : xs.all (isD n) with
        | false =>
          refine iteT ?_
          have := k H1 s1
          unfold setB at this
          rw [ea] at this
          exact this
        | true =>
          refine iteF ?_
          obtain ⟨e1, e2⟩ := ints_of ea
          have S1 := SqT.same s1 S
          have fin : ∀ (H2 : Hp) (b : Addr) (Qf : VK), Same H H2 → SqT K H2 b (xs.drop 1) → (∀ H3, Same H2 H3 → Qf (.bl (ascB (xs.map intOf))) H3) →
              lcC (ItzT K a b) (gTup K 2 (gCons (gName 3) (gCons (gName 4) gNil))) tYes (tOp (rI0 fun i j => V.bl (decide (i < j))) (tVar 3) (tVar 4)) [3, 4] (L2.start nIS [.int n, .ref a]) (fun v H3 => rAll K [v] H3 Qf) H2 := by
            intro H2 b Qf s2 Sb kq D2 hD2
            have Sa := SqT.same s2 S
            have hl : ((xs.map intOf).zip ((xs.map intOf).drop 1)).length = min xs.length (xs.drop 1).length := by rw [List.length_zip, List.length_drop, List.length_map, List.length_drop]
            refine lc_pick (walk_zipT (K := K) (a := a) (b := b) (xs := xs) (ys := xs.drop 1) rfl) ((xs.map intOf).zip ((xs.map intOf).drop 1)) hl (by rw [List.length_drop]; omega) (fun _ => true) (fun p => V.bl (decide (p.1 < p.2))) hD2 (fun H' s3 => ⟨SqT.same s3 Sa, SqT.same s3 Sb⟩) ?_ ?_
            · rintro i x p H3 H3' Tk Nk ep s3 ⟨T, u, v, rfl, hT, rfl, eu, ev⟩ kT kF
              obtain ⟨p1, p2⟩ := zip_pairs ep
              rw [← e1] at p1 p2
              have eu : xs[i]? = some u := eu
              have ev : (xs.drop 1)[i]? = some v := ev
              rw [p1] at eu
              rw [p2] at ev
              cases eu
              cases ev
              refine ⟨T, _, rfl, SqT.of' upd_same, rfl, _, _, rfl, _, _, rfl, rfl, rfl, tYes_of (iteT ?_)⟩
              exact ⟨_, rfl, _, rfl, _, _, rfl, rfl, kT _ rfl (same_upd hT)⟩
            · intro H3 s3 hD3
              rw [List.filter_eq_self.mpr fun _ _ => rfl] at hD3
              refine ⟨D2, ((xs.map intOf).zip ((xs.map intOf).drop 1)).map fun p => decide (p.1 < p.2), rfl, SqL.of (by rw [hD3, List.map_map]; rfl), ?_⟩
              rw [bl_all]
              exact kq H3 s3
          have kk : ∀ H3, Same H H3 → Q (.bl (ascB (xs.map intOf))) H3 := fun H3 s3 => by
            have := k H3 s3
            unfold setB at this
            rw [ea] at this
            exact this
          refine ⟨_, rfl, _, rfl, _, rfl, a, xs, rfl, S1, fun hw => ?_, fun hw p hp => ?_⟩
          · have hx : xs = [] := cut1_empty.mp hw
            exact ⟨a, a, xs, xs, rfl, .inr ⟨S1, S1, fin H1 a Q s1 (by rw [hx] at S1 ⊢; exact S1) fun H3 s3 => kk H3 (s1.trans s3)⟩⟩
          · have s2 := same_upd (o := .tup (cutV xs (some 1) none)) hp
            exact ⟨a, p, xs, cutV xs (some 1) none, rfl, .inr ⟨SqT.same s2 S1, SqT.of' upd_same, fin _ p Q (s1.trans s2) (by rw [← cut1]; exact SqT.of' upd_same) fun H3 s3 => kk H3 ((s1.trans s2).trans s3)⟩⟩
end
/-- a set: its drawers stand at a -/
structure SetAt (K : PySem.W.Frag) (H : Hp) (n : Int) (a : Addr) (ns : List Int) : Prop where
  at' : SqT K H a (ns.map V.int)
  low : ∀ d ∈ ns, 0 ≤ d ∧ d < n
  asc : ns.Pairwise (· < ·)
theorem SetAt.same {K : PySem.W.Frag} {H H' : Hp} {n : Int} {a : Addr} {ns : List Int} (S : SetAt K H n a ns) (s : Same H H') : SetAt K H' n a ns := ⟨SqT.same s S.at', S.low, S.asc⟩
end DL

set_option Elab.async false
set_option maxRecDepth 100000
namespace DL
open PySem PySem.Spec PyProof.Rows L2
/-! ### a walk over a list or a tuple, whichever it is -/
def iSeq (K : PySem.W.Frag) (tl : TE) : TI := fun σ H R => tl σ H fun x H1 => ∃ a : Addr, x = .ref a ∧ (((∃ xs : List V, SqL K H1 a xs) ∧ R (Itl K a) H1) ∨ ((∃ xs : List V, SqT K H1 a xs) ∧ R (Itt K a) H1))
theorem pi_seq {X : Cx} {K : PySem.W.Frag} {tg : Expr} {l : Expr} {tl : TE} (hK : X.K = K) (hl : PE X l tl) : PI X tg l (iSeq K tl) := by
  subst hK
  refine ⟨fun pins s0 σ H R I0 rd => ?_⟩
  refine thn (hl.run pins s0 σ H _ I0 rd) fun v s1 ⟨x, H1, I1, rx, a, ea, q⟩ => ?_
  subst ea
  cases rx
  have new : ∀ b, b ∈ [s1.heap.objs.size] → FpOk X pins H1 b := fun b hb => by
    rw [List.mem_singleton.mp hb]
    exact I1.fpOk (Nat.le_refl _) (I1.hok.fresh (Nat.le_refl _))
  rcases q with ⟨⟨xs, hq⟩, q⟩ | ⟨⟨xs, hq⟩, q⟩
  · obtain ⟨_, _, pl, _⟩ := I1.list hq
    exact wpAny_pyIter_list pl.isList ⟨s1.heap.objs.size, [s1.heap.objs.size], _, _, H1, rfl,
      I1.kept (t' := s1.toks) (fun b o e => Heap.get?_push_of_some _ e), turn_list a _, ⟨_, Heap.get?_push_size _ rfl, rfl, rfl⟩, new, q⟩
  · obtain ⟨its, _, pl, _⟩ := I1.tuple hq
    exact wpAny_pyIter_tuple (show s1.heap.IsTuple a its.toArray from pl) ⟨s1.heap.objs.size, [s1.heap.objs.size], _, _, H1, rfl,
      I1.kept (t' := s1.toks) (fun b o e => Heap.get?_push_of_some _ e), turn_tuple a _, ⟨_, Heap.get?_push_size _ rfl, rfl, rfl⟩, new, q⟩
/-- at a: a list or a tuple -/
def SqA (K : PySem.W.Frag) (H : Hp) (a : Addr) (xs : List V) : Prop := SqL K H a xs ∨ SqT K H a xs
theorem ix_kdictK {X : Cx} {K : PySem.W.Frag} {w : World} (hK : X.K = K) (hw : X.w = w) : IxR X (rIxD K w) := by subst hK hw; exact ix_kdict
/-! ### two for in one comprehension -/
end DL

set_option Elab.async false
set_option maxRecDepth 100000
namespace DL
open PySem L2 HT TL
/-! ### rows in their order: by their number of pulls, then by their pulls; as numbers -/
def rcode (r : List Int) : Int := r.foldl (fun a d => a * 8 + (d + 1)) 0
theorem rcode_snoc (r : List Int) (d : Int) : rcode (r ++ [d]) = rcode r * 8 + (d + 1) := by
  unfold rcode
  rw [List.foldl_append]
  rfl
theorem rcode_nil : rcode [] = 0 := rfl
def Low7 (r : List Int) : Prop := ∀ d ∈ r, 0 ≤ d ∧ d ≤ 6
theorem snoc_ind {α : Type} {p : List α → Prop} (h0 : p []) (hs : ∀ l a, p l → p (l ++ [a])) (l : List α) : p l := by
  have : ∀ m : List α, p m.reverse := fun m => by
    induction m with
    | nil => exact h0
    | cons a m ih =>
      rw [List.reverse_cons]
      exact hs _ _ ih
  have h := this l.reverse
  rw [List.reverse_reverse] at h
  exact h
theorem Low7.init {r : List Int} {d : Int} (h : Low7 (r ++ [d])) : Low7 r ∧ 0 ≤ d ∧ d ≤ 6 := ⟨fun x hx => h x (List.mem_append_left _ hx), h d (List.mem_append_right _ (List.mem_singleton.mpr rfl))⟩
theorem rcode_nn : ∀ {r : List Int}, Low7 r → 0 ≤ rcode r := by
  intro r
  refine snoc_ind (p := fun r => Low7 r → 0 ≤ rcode r) (fun _ => Int.le_refl _) (fun l a ih h => ?_) r
  obtain ⟨h1, h2, h3⟩ := h.init
  have := ih h1
  rw [rcode_snoc]
  omega
theorem rcode_inj' : ∀ a b : List Int, Low7 a → Low7 b → rcode a = rcode b → a = b := by
  intro a
  refine snoc_ind (p := fun a => ∀ b, Low7 a → Low7 b → rcode a = rcode b → a = b) (fun b _ hb e => ?_) (fun l x ih b ha hb e => ?_) a
  · revert hb e
    refine snoc_ind (p := fun b => Low7 b → rcode [] = rcode b → [] = b) (fun _ _ => rfl) (fun l y _ hb e => ?_) b
    obtain ⟨h1, h2, h3⟩ := hb.init
    have := rcode_nn h1
    rw [rcode_snoc, rcode_nil] at e
    omega
  · obtain ⟨h1, h2, h3⟩ := ha.init
    have p1 := rcode_nn h1
    revert hb e
    refine snoc_ind (p := fun b => Low7 b → rcode (l ++ [x]) = rcode b → l ++ [x] = b) (fun _ e => ?_) (fun m y _ hb e => ?_) b
    · rw [rcode_snoc, rcode_nil] at e
      omega
    · obtain ⟨g1, g2, g3⟩ := hb.init
      have p2 := rcode_nn g1
      rw [rcode_snoc, rcode_snoc] at e
      rw [ih m h1 g1 (by omega), show x = y by omega]
theorem rcode_inj {a b : List Int} (ha : Low7 a) (hb : Low7 b) (h : rcode a = rcode b) : a = b := rcode_inj' a b ha hb h
/-- a row is before another -/
def Bef (a b : List Int) : Prop := rcode a < rcode b ∧ a.length ≤ b.length
/-- rows in order, each behind the first one but one pull longer than one of those ahead of the i-th -/
structure Asc (rs : List (List Int)) (i : Nat) : Prop where
  pw : rs.Pairwise Bef
  low : ∀ x ∈ rs, Low7 x
  par : ∀ x ∈ rs, x = [] ∨ ∃ (j : Nat) (q : List Int) (d : Int), j < i ∧ rs[j]? = some q ∧ x = q ++ [d]
structure AscD (rs : List (List Int)) (i : Nat) (p : List Int) (D : Int) : Prop where
  pw : rs.Pairwise Bef
  low : ∀ x ∈ rs, Low7 x
  at' : rs[i]? = some p
  par : ∀ x ∈ rs, x = [] ∨ (∃ (j : Nat) (q : List Int) (d : Int), j < i ∧ rs[j]? = some q ∧ x = q ++ [d]) ∨ ∃ d : Int, d < D ∧ x = p ++ [d]
theorem Asc.during {rs : List (List Int)} {i : Nat} {p : List Int} (A : Asc rs i) (h : rs[i]? = some p) : AscD rs i p 0 := by
  refine ⟨A.pw, A.low, h, fun x hx => ?_⟩
  rcases A.par x hx with q | q
  · exact .inl q
  · exact .inr (.inl q)
theorem AscD.done {rs : List (List Int)} {i : Nat} {p : List Int} {D : Int} (A : AscD rs i p D) : Asc rs (i + 1) := by
  refine ⟨A.pw, A.low, fun x hx => ?_⟩
  rcases A.par x hx with q | ⟨j, q, d, h1, h2, h3⟩ | ⟨d, h1, h2⟩
  · exact .inl q
  · exact .inr ⟨j, q, d, by omega, h2, h3⟩
  · exact .inr ⟨i, p, d, by omega, A.at', h2⟩
theorem AscD.up {rs : List (List Int)} {i : Nat} {p : List Int} {D D' : Int} (A : AscD rs i p D) (h : D ≤ D') : AscD rs i p D' := by
  refine ⟨A.pw, A.low, A.at', fun x hx => ?_⟩
  rcases A.par x hx with q | q | ⟨d, h1, h2⟩
  · exact .inl q
  · exact .inr (.inl q)
  · exact .inr (.inr ⟨d, by omega, h2⟩)
theorem AscD.below {rs : List (List Int)} {i : Nat} {p : List Int} {D d : Int} (A : AscD rs i p D) (hD : D ≤ d) (h0 : 0 ≤ d) : ∀ x ∈ rs, Bef x (p ++ [d]) := by
  intro x hx
  have hp : Low7 p := A.low p (List.mem_of_getElem? A.at')
  have pn := rcode_nn hp
  have lx := A.low x hx
  rcases A.par x hx with rfl | ⟨j, q, e, h1, h2, rfl⟩ | ⟨e, h1, rfl⟩
  · refine ⟨?_, by simp⟩
    rw [rcode_snoc, rcode_nil]
    omega
  · obtain ⟨g1, g2, g3⟩ := lx.init
    obtain ⟨l1, e1⟩ := List.getElem?_eq_some_iff.mp h2
    obtain ⟨l2, e2⟩ := List.getElem?_eq_some_iff.mp A.at'
    have := List.pairwise_iff_getElem.mp A.pw j i l1 l2 h1
    rw [e1, e2] at this
    obtain ⟨b1, b2⟩ := this
    refine ⟨?_, by rw [List.length_append, List.length_append]; exact Nat.add_le_add_right b2 _⟩
    rw [rcode_snoc, rcode_snoc]
    omega
  · refine ⟨?_, by rw [List.length_append, List.length_append]; exact Nat.le_refl _⟩
    rw [rcode_snoc, rcode_snoc]
    omega
theorem AscD.add {rs : List (List Int)} {i : Nat} {p : List Int} {D d : Int} (A : AscD rs i p D) (hD : D ≤ d) (h0 : 0 ≤ d) (h6 : d ≤ 6) : AscD (rs ++ [p ++ [d]]) i p (d + 1) := by
  have hp : Low7 p := A.low p (List.mem_of_getElem? A.at')
  have keep : ∀ (j : Nat) (q : List Int), rs[j]? = some q → (rs ++ [p ++ [d]])[j]? = some q := fun j q h => by
    rw [List.getElem?_append_left (List.getElem?_eq_some_iff.mp h).1]
    exact h
  refine ⟨?_, fun x hx => ?_, keep i p A.at', fun x hx => ?_⟩
  · rw [List.pairwise_append]
    refine ⟨A.pw, List.pairwise_singleton _ _, fun x hx y hy => ?_⟩
    rw [List.mem_singleton.mp hy]
    exact A.below hD h0 x hx
  · rcases List.mem_append.mp hx with hx | hx
    · exact A.low x hx
    · rw [List.mem_singleton.mp hx]
      intro e he
      rcases List.mem_append.mp he with he | he
      · exact hp e he
      · rw [List.mem_singleton.mp he]; exact ⟨h0, h6⟩
  · rcases List.mem_append.mp hx with hx | hx
    · rcases A.par x hx with q | ⟨j, q, e, h1, h2, h3⟩ | ⟨e, h1, h2⟩
      · exact .inl q
      · exact .inr (.inl ⟨j, q, e, h1, keep j q h2, h3⟩)
      · exact .inr (.inr ⟨e, by omega, h2⟩)
    · exact .inr (.inr ⟨d, by omega, List.mem_singleton.mp hx⟩)
/-! ### the pulls that go, one after another -/
theorem drs_pw (n : Nat) : (drs n).Pairwise (· < ·) := by
  unfold drs
  rw [List.pairwise_map]
  exact List.pairwise_lt_range.imp fun h => by omega
theorem free_pw (bs : List Bar) (st : List Bool) : (freeL bs st).Pairwise (· < ·) := (drs_pw st.length).filter _
theorem free_mem {bs : List Bar} {st : List Bool} {d : Int} : d ∈ freeL bs st ↔ (0 ≤ d ∧ d < st.length) ∧ goesB bs st d = true := by
  refine ⟨fun h => ⟨free_in h, (List.mem_filter.mp h).2⟩, fun h => ?_⟩
  refine List.mem_filter.mpr ⟨?_, h.2⟩
  unfold drs
  exact List.mem_map.mpr ⟨d.toNat, List.mem_range.mpr (by omega), by omega⟩
theorem pw_drop {l : List Int} (h : l.Pairwise (· < ·)) {t : Nat} {d : Int} (hd : l[t]? = some d) : (∀ x ∈ l.drop (t + 1), d + 1 ≤ x) ∧ l.drop t = d :: l.drop (t + 1) := by
  obtain ⟨h1, h2⟩ := List.getElem?_eq_some_iff.mp hd
  have e : l.drop t = d :: l.drop (t + 1) := by rw [List.drop_eq_getElem_cons h1, h2]
  refine ⟨fun x hx => ?_, e⟩
  have hp : (l.drop t).Pairwise (· < ·) := List.Pairwise.sublist (List.drop_sublist t l) h
  rw [e, List.pairwise_cons] at hp
  have := hp.1 x hx
  omega
theorem mem_take_succ {α : Type} {l : List α} {t : Nat} {d x : α} (hd : l[t]? = some d) (h : x ∈ l.take (t + 1)) : x ∈ l.take t ∨ x = d := by
  obtain ⟨h1, h2⟩ := List.getElem?_eq_some_iff.mp hd
  rw [List.take_succ_eq_append_getElem h1, h2] at h
  rcases List.mem_append.mp h with h | h
  · exact .inl h
  · exact .inr (List.mem_singleton.mp h)
/-! ### the queue: an entry is a standing and its row -/
abbrev Ent := List Bool × List Int
def Led (bs : List Bar) (s0 : List Bool) (e : Ent) : Prop := runB bs s0 e.2 = some e.1 ∧ (Low7 e.2 ∧ ∀ d ∈ e.2, 0 ≤ d ∧ d < s0.length) ∧ e.1.length = s0.length
theorem runB_snoc {bs : List Bar} : ∀ {r : List Int} {st : List Bool} {d : Int}, runB bs st (r ++ [d]) = (runB bs st r).bind fun s => if goesB bs s d = true then some (flip s d) else none
  | [], st, d => by
    show runB bs st [d] = _
    rw [runB_cons]
    rfl
  | x :: r, st, d => by
    show runB bs st (x :: (r ++ [d])) = _
    rw [runB_cons, runB_cons]
    by_cases q : goesB bs st x = true
    · rw [if_pos q, if_pos q]
      exact runB_snoc
    · rw [if_neg q, if_neg q]
      rfl
theorem Led.step {bs : List Bar} {s0 : List Bool} {p : Ent} {d : Int} (L : Led bs s0 p) (hd : d ∈ freeL bs p.1) (h7 : s0.length ≤ 7) : Led bs s0 (flip p.1 d, p.2 ++ [d]) := by
  obtain ⟨⟨d0, d1⟩, hg⟩ := free_mem.mp hd
  refine ⟨?_, ⟨fun x hx => ?_, fun x hx => ?_⟩, by rw [flip_len]; exact L.2.2⟩
  · show runB bs s0 (p.2 ++ [d]) = _
    rw [runB_snoc, L.1, Option.bind_some, if_pos hg]
  · rcases List.mem_append.mp hx with hx | hx
    · exact L.2.1.1 x hx
    · rw [List.mem_singleton.mp hx]
      have := L.2.2
      omega
  · rcases List.mem_append.mp hx with hx | hx
    · exact L.2.1.2 x hx
    · rw [List.mem_singleton.mp hx]
      have := L.2.2
      omega
structure BI (bs : List Bar) (s0 : List Bool) (i : Nat) (es : List Ent) : Prop where
  nd : (es.map (·.1)).Nodup
  asc : Asc (es.map (·.2)) i
  led : ∀ e ∈ es, Led bs s0 e
  ex : ∀ (j : Nat) (p : Ent), j < i → es[j]? = some p → ∀ d ∈ freeL bs p.1, ∃ e ∈ es, e.1 = flip p.1 d ∧ rcode e.2 ≤ rcode (p.2 ++ [d]) ∧ e.2.length ≤ p.2.length + 1
  root : (s0, []) ∈ es
structure BD (bs : List Bar) (s0 : List Bool) (i : Nat) (p : Ent) (t : Nat) (D : Int) (es : List Ent) : Prop where
  nd : (es.map (·.1)).Nodup
  asc : AscD (es.map (·.2)) i p.2 D
  led : ∀ e ∈ es, Led bs s0 e
  at' : es[i]? = some p
  ex : ∀ (j : Nat) (p : Ent), j < i → es[j]? = some p → ∀ d ∈ freeL bs p.1, ∃ e ∈ es, e.1 = flip p.1 d ∧ rcode e.2 ≤ rcode (p.2 ++ [d]) ∧ e.2.length ≤ p.2.length + 1
  exd : ∀ d ∈ (freeL bs p.1).take t, ∃ e ∈ es, e.1 = flip p.1 d ∧ rcode e.2 ≤ rcode (p.2 ++ [d]) ∧ e.2.length ≤ p.2.length + 1
  dle : ∀ d ∈ (freeL bs p.1).drop t, D ≤ d
  root : (s0, []) ∈ es
theorem BI.begin {bs : List Bar} {s0 : List Bool} : BI bs s0 0 [(s0, [])] := by
  refine ⟨by simp, ⟨List.pairwise_singleton _ _, fun x hx => ?_, fun x hx => .inl (List.mem_singleton.mp hx)⟩, fun e he => ?_, fun j p hj => by omega, List.mem_singleton.mpr rfl⟩
  · rw [List.mem_singleton.mp hx]
    intro d hd
    cases hd
  · rw [List.mem_singleton.mp he]
    exact ⟨rfl, ⟨fun d hd => (by cases hd), fun d hd => (by cases hd)⟩, rfl⟩
theorem BI.during {bs : List Bar} {s0 : List Bool} {i : Nat} {es : List Ent} {p : Ent} (B : BI bs s0 i es) (h : es[i]? = some p) : BD bs s0 i p 0 0 es :=
  ⟨B.nd, B.asc.during (by rw [List.getElem?_map, h]; rfl), B.led, h, B.ex, fun d hd => (by cases hd), fun d hd => (free_in (List.mem_of_mem_drop hd)).1, B.root⟩
theorem BD.done {bs : List Bar} {s0 : List Bool} {i : Nat} {p : Ent} {D : Int} {es : List Ent} (B : BD bs s0 i p (freeL bs p.1).length D es) : BI bs s0 (i + 1) es := by
  refine ⟨B.nd, B.asc.done, B.led, fun j q hj hq => ?_, B.root⟩
  by_cases e : j = i
  · subst e
    rw [B.at'] at hq
    cases hq
    have := B.exd
    rw [List.take_length] at this
    exact this
  · exact B.ex j q (by omega) hq
theorem BD.free {bs : List Bar} {s0 : List Bool} {i : Nat} {p : Ent} {t : Nat} {D : Int} {es : List Ent} (B : BD bs s0 i p t D es) {d : Int} (hd : (freeL bs p.1)[t]? = some d) (h7 : s0.length ≤ 7) :
    d ∈ freeL bs p.1 ∧ D ≤ d ∧ 0 ≤ d ∧ d ≤ 6 := by
  have hm := List.mem_of_getElem? hd
  obtain ⟨d0, d1⟩ := free_in hm
  have := (B.led p (List.mem_of_getElem? B.at')).2.2
  obtain ⟨_, e⟩ := pw_drop (free_pw bs p.1) hd
  exact ⟨hm, B.dle d (by rw [e]; exact List.mem_cons_self), d0, by omega⟩
theorem BD.old {bs : List Bar} {s0 : List Bool} {i : Nat} {p : Ent} {t : Nat} {D : Int} {es : List Ent} (B : BD bs s0 i p t D es) {d : Int} (hd : (freeL bs p.1)[t]? = some d) (h7 : s0.length ≤ 7) (h : flip p.1 d ∈ es.map (·.1)) : BD bs s0 i p (t + 1) (d + 1) es := by
  obtain ⟨hm, hD, d0, d6⟩ := B.free hd h7
  refine ⟨B.nd, B.asc.up (by omega), B.led, B.at', B.ex, fun x hx => ?_, (pw_drop (free_pw bs p.1) hd).1, B.root⟩
  rcases mem_take_succ hd hx with hx | rfl
  · exact B.exd x hx
  · obtain ⟨e, he, h1⟩ := List.mem_map.mp h
    obtain ⟨b1, b2⟩ := B.asc.below hD d0 e.2 (List.mem_map.mpr ⟨e, he, rfl⟩)
    rw [List.length_append] at b2
    exact ⟨e, he, h1, Int.le_of_lt b1, b2⟩
theorem BD.new {bs : List Bar} {s0 : List Bool} {i : Nat} {p : Ent} {t : Nat} {D : Int} {es : List Ent} (B : BD bs s0 i p t D es) {d : Int} (hd : (freeL bs p.1)[t]? = some d) (h7 : s0.length ≤ 7) (h : ¬ flip p.1 d ∈ es.map (·.1)) : BD bs s0 i p (t + 1) (d + 1) (es ++ [(flip p.1 d, p.2 ++ [d])]) := by
  obtain ⟨hm, hD, d0, d6⟩ := B.free hd h7
  have mono : ∀ {e : Ent}, e ∈ es → e ∈ es ++ [(flip p.1 d, p.2 ++ [d])] := fun he => List.mem_append_left _ he
  refine ⟨?_, ?_, fun e he => ?_, ?_, fun j q hj hq x hx => ?_, fun x hx => ?_, (pw_drop (free_pw bs p.1) hd).1, mono B.root⟩
  · rw [List.map_append, List.nodup_append]
    refine ⟨B.nd, by simp, fun x hx y hy => ?_⟩
    rw [List.mem_singleton.mp hy]
    intro z
    have z' : x = flip p.1 d := z
    rw [z'] at hx
    exact h hx
  · rw [List.map_append]
    exact B.asc.add hD d0 d6
  · rcases List.mem_append.mp he with he | he
    · exact B.led e he
    · rw [List.mem_singleton.mp he]
      exact (B.led p (List.mem_of_getElem? B.at')).step hm h7
  · rw [List.getElem?_append_left (List.getElem?_eq_some_iff.mp B.at').1]
    exact B.at'
  · have hq' : es[j]? = some q := by
      have := (List.getElem?_eq_some_iff.mp B.at').1
      rw [List.getElem?_append_left (by omega)] at hq
      exact hq
    obtain ⟨e, he, h1⟩ := B.ex j q hj hq' x hx
    exact ⟨e, mono he, h1⟩
  · rcases mem_take_succ hd hx with hx | rfl
    · obtain ⟨e, he, h1⟩ := B.exd x hx
      exact ⟨e, mono he, h1⟩
    · exact ⟨_, List.mem_append_right _ (List.mem_singleton.mpr rfl), rfl, Int.le_refl _, by rw [List.length_append]; exact Nat.le_refl _⟩
/-- every row that goes ends where an entry stands whose row is not behind it -/
theorem BI.opt {bs : List Bar} {s0 : List Bool} {es : List Ent} (B : BI bs s0 es.length es) (h7 : s0.length ≤ 7) : ∀ (r : List Int), (∀ d ∈ r, 0 ≤ d ∧ d < s0.length) → ∀ st, runB bs s0 r = some st → ∃ e ∈ es, e.1 = st ∧ rcode e.2 ≤ rcode r ∧ e.2.length ≤ r.length := by
  intro r
  refine snoc_ind (p := fun (r : List Int) => (∀ d ∈ r, 0 ≤ d ∧ d < s0.length) → ∀ st, runB bs s0 r = some st → ∃ e ∈ es, e.1 = st ∧ rcode e.2 ≤ rcode r ∧ e.2.length ≤ r.length) (fun _ st h => ?_) (fun l d ih hl st h => ?_) r
  · cases h
    exact ⟨_, B.root, rfl, Int.le_refl _, Nat.le_refl _⟩
  · rw [runB_snoc] at h
    cases hr : runB bs s0 l with
    | none => rw [hr] at h; cases h
    | some s1 =>
      rw [hr, Option.bind_some] at h
      by_cases hg : goesB bs s1 d = true
      · rw [if_pos hg] at h
        cases h
        obtain ⟨e, he, h1, h2, h3⟩ := ih (fun x hx => hl x (List.mem_append_left _ hx)) s1 hr
        obtain ⟨j, hj⟩ := List.getElem?_of_mem he
        have el := (B.led e he).2.2
        have hdm : d ∈ freeL bs e.1 := free_mem.mpr ⟨by have := hl d (List.mem_append_right _ (List.mem_singleton.mpr rfl)); omega, by rw [h1]; exact hg⟩
        obtain ⟨f, hf, g1, g2, g3⟩ := B.ex j e (List.getElem?_eq_some_iff.mp hj).1 hj d hdm
        refine ⟨f, hf, by rw [g1, h1], ?_, ?_⟩
        · rw [rcode_snoc] at g2 ⊢
          omega
        · rw [List.length_append]
          show f.2.length ≤ l.length + 1
          omega
      · rw [if_neg hg] at h
        cases h
/-! ### there are not many standings -/
theorem few : ∀ (n : Nat) (l : List (List Bool)), l.Nodup → (∀ x ∈ l, x.length = n) → l.length ≤ 2 ^ n
  | 0, l, hn, h => by
    cases l with
    | nil => exact Nat.zero_le _
    | cons a l =>
      cases l with
      | nil => exact Nat.le_refl _
      | cons b l =>
        have h1 := List.length_eq_zero_iff.mp (h a (by simp))
        have h2 := List.length_eq_zero_iff.mp (h b (by simp))
        rw [h1, h2] at hn
        simp at hn
  | n + 1, l, hn, h => by
    have part : ∀ b : Bool, (l.filter fun x => x.head? == some b).length ≤ 2 ^ n := fun b => by
      have e : ((l.filter fun x => x.head? == some b).map List.tail).length = (l.filter fun x => x.head? == some b).length := List.length_map ..
      rw [← e]
      have hd : ∀ x ∈ l.filter fun x => x.head? == some b, x = b :: x.tail := fun x hx => by
        have := (List.mem_filter.mp hx).2
        cases x with
        | nil => cases this
        | cons c x =>
          have : some c = some b := eq_of_beq this
          cases this
          rfl
      refine few n _ ?_ fun x hx => ?_
      · have h1 : (l.filter fun x => x.head? == some b).Nodup := hn.filter _
        unfold List.Nodup at h1 ⊢
        rw [List.pairwise_map]
        refine List.Pairwise.imp_of_mem (fun {x y} hx hy q z => q ?_) h1
        rw [hd x hx, hd y hy, z]
      · obtain ⟨y, hy, rfl⟩ := List.mem_map.mp hx
        rw [List.length_tail, h y (List.mem_filter.mp hy).1]
        rfl
    have split : l.length = (l.filter fun x => x.head? == some true).length + (l.filter fun x => x.head? == some false).length := by
      clear part hn
      induction l with
      | nil => rfl
      | cons a l ih =>
        have := ih fun x hx => h x (List.mem_cons_of_mem _ hx)
        have ha := h a List.mem_cons_self
        cases a with
        | nil => cases ha
        | cons c a =>
          cases c
          · rw [List.filter_cons_of_neg (by simp), List.filter_cons_of_pos (by simp), List.length_cons, List.length_cons]
            omega
          · rw [List.filter_cons_of_pos (by simp), List.filter_cons_of_neg (by simp), List.length_cons, List.length_cons]
            omega
    have p1 := part true
    have p2 := part false
    rw [Nat.pow_succ]
    omega
theorem led_few {bs : List Bar} {s0 : List Bool} {es : List Ent} (nd : (es.map (·.1)).Nodup) (led : ∀ e ∈ es, Led bs s0 e) (h7 : s0.length ≤ 7) : es.length ≤ 128 := by
  have := few s0.length (es.map (·.1)) nd fun x hx => by
    obtain ⟨e, he, rfl⟩ := List.mem_map.mp hx
    exact (led e he).2.2
  rw [List.length_map] at this
  have h2 : 2 ^ s0.length ≤ 2 ^ 7 := Nat.pow_le_pow_right (by decide) h7
  have h3 : (2 : Nat) ^ 7 = 128 := rfl
  omega
end DL

set_option Elab.async false
set_option maxRecDepth 100000
namespace DL
open PySem L2 HT TL
/-! ### a dict that is made within a for's head is read only from then on -/
def tFrz (te : TE) : TE := fun σ H Q => te σ H fun x H1 => ∃ d u, x = V.ref d ∧ H1 d = some u ∧ Mut (some u) ∧ ∀ od, Q x (upd H1 d (.frz od u))
theorem pe_frz {X : Cx} {e : Expr} {te : TE} (he : PE X e te) : PE X e (tFrz te) := by
  refine ⟨fun pins s σ H Q I h => thn (he.run pins s σ H _ I h) fun v s1 ⟨x, H1, I1, r, d, u, ex, hd, mu, q⟩ => ?_⟩
  obtain ⟨od, I2⟩ := I1.lock hd mu
  exact ⟨x, _, I2, r, q od⟩
/-! ### rows in a dict -/
abbrev KEnt := Addr × Ent
def kvsOf (ks : List KEnt) : List (Key × V) := ks.map fun k => (.inr (sstr k.2.1), .ref k.1)
structure RowsEl (H : Hp) (ks : List KEnt) : Prop where
  el : ∀ k ∈ ks, H k.1 = some (.tup (k.2.2.map V.int))
theorem RowsEl.same {H H' : Hp} {ks : List KEnt} (R : RowsEl H ks) (s : Same H H') : RowsEl H' ks := ⟨fun k hk => s _ _ (R.el k hk)⟩
theorem val_some {ks : List KEnt} {k : KEnt} (nd : ((ks.map (·.2)).map (·.1)).Nodup) (hk : k ∈ ks) : valV (kvsOf ks) (.inr (sstr k.2.1)) = some (.ref k.1) := by
  induction ks with
  | nil => cases hk
  | cons a ks ih =>
    rw [List.map_cons, List.map_cons, List.nodup_cons] at nd
    unfold valV kvsOf
    rw [List.map_cons, List.find?_cons]
    by_cases q : (.inr (sstr a.2.1) : Key) = .inr (sstr k.2.1)
    · rw [decide_eq_true q]
      rcases List.mem_cons.mp hk with rfl | hk
      · rfl
      · injection q with q
        refine absurd (List.mem_map.mpr ⟨k.2, List.mem_map.mpr ⟨k, hk, rfl⟩, (sstr_inj q).symm⟩) nd.1
    · rw [decide_eq_false q]
      rcases List.mem_cons.mp hk with rfl | hk
      · exact absurd rfl q
      · exact ih nd.2 hk
theorem val_none {ks : List KEnt} {st : List Bool} (h : ¬ st ∈ (ks.map (·.2)).map (·.1)) : valV (kvsOf ks) (.inr (sstr st)) = none := by
  unfold valV kvsOf
  have : (ks.map fun k => ((.inr (sstr k.2.1) : Key), V.ref k.1)).find? (fun kv => decide (kv.1 = .inr (sstr st))) = none := by
    rw [List.find?_eq_none]
    intro kv hkv
    obtain ⟨k, hk, rfl⟩ := List.mem_map.mp hkv
    intro z
    have z' : (.inr (sstr k.2.1) : Key) = .inr (sstr st) := of_decide_eq_true z
    injection z' with z'
    exact h (List.mem_map.mpr ⟨k.2, List.mem_map.mpr ⟨k, hk, rfl⟩, sstr_inj z'⟩)
  rw [this]
  rfl
theorem kvs_len (ks : List KEnt) : (kvsOf ks).length = ks.length := List.length_map ..
theorem ascD_len {rs : List (List Int)} {i : Nat} {p : List Int} {D : Int} (A : AscD rs i p D) : ∀ (m : Nat) (x : List Int), rs[m]? = some x → x.length ≤ m := by
  intro m
  induction m using Nat.strongRecOn with
  | _ m ih =>
    intro x hx
    have key : ∀ (j : Nat) (q : List Int) (d : Int), rs[j]? = some q → x = q ++ [d] → x.length ≤ m := fun j q d hj e => by
      have el : x.length = q.length + 1 := by rw [e, List.length_append]; rfl
      obtain ⟨l1, e1⟩ := List.getElem?_eq_some_iff.mp hx
      obtain ⟨l2, e2⟩ := List.getElem?_eq_some_iff.mp hj
      rcases Nat.lt_trichotomy j m with h | h | h
      · have := ih j h q hj
        omega
      · subst h
        rw [hx] at hj
        cases hj
        omega
      · have := List.pairwise_iff_getElem.mp A.pw m j l1 l2 h
        rw [e1, e2] at this
        have := this.2
        omega
    rcases A.par x (List.mem_of_getElem? hx) with rfl | ⟨j, q, d, _, hj, e⟩ | ⟨d, _, e⟩
    · exact Nat.zero_le _
    · exact key j q d hj e
    · exact key i p d A.at' e
structure spRows (C : Addr) (vs : List V) (H : Hp) (Q : VK) (_ : XK) : Prop where
  h : ∃ (c : Addr) (bs : List Bar) (st : List Bool), vs = [.ref c, .str (sstr st)] ∧ CabOk C H c st.length bs ∧
    ∀ (a : Addr) (ks : List KEnt) (H' : Hp), H a = none → Same H H' → H' a = some (.dK (kvsOf ks)) → RowsEl H' ks → BI bs st ks.length (ks.map (·.2)) → Q (.ref a) H'
section
variable {P : Program} {w : World} {K : PySem.W.Frag} {mg : Str → Option Value} {base : Heap}
abbrev nRf : List Str := ["cabinet", "standing", "rows", "queue", "done", "place", "drawer", "beyond"]
theorem scRf : FnScope nRf ["cabinet", "standing"] (defScope s_rows_from) := ⟨rfl, rfl, rfl, by decide +kernel, rfl, by decide +kernel, by decide +kernel⟩
theorem ok_rowsFrom {f f1 f2 C : Addr} {fd fd1 fd2 : FuncData} (F : Fun K "rows_from" "rows_from" s_rows_from f fd) (T : Bt mg)
    (G1 : FnOk P w K mg base CX0 8 f1 fd1 ["cabinet", "standing"] (spFreeDrawers C)) (g1 : mg "free_drawers" = some (.ref f1)) (k1 : PySem.W.keepIn K (.ref f1) = true) (b1 : Binds K fd1 ["cabinet", "standing"] [])
    (G2 : FnOk P w K mg base CX0 1 f2 fd2 ["standing", "drawer"] spMoved) (g2 : mg "moved" = some (.ref f2)) (k2 : PySem.W.keepIn K (.ref f2) = true) (b2 : Binds K fd2 ["standing", "drawer"] []) : FnOk P w K mg base CX0 10 f fd ["cabinet", "standing"] (spRows C) := by
  refine F.ok scRf (fun vs H Q E h => ?_) (fun cdv A outer s H vs Q E hr h => ?_)
  · obtain ⟨c, bs, st, rfl, _⟩ := h.h
    rfl
  · obtain ⟨c, bs, st, rfl, B, k⟩ := h.h
    have hu := hu_of hr
    obtain ⟨_, _, n7⟩ := B.cab
    have h7 : st.length ≤ 7 := by omega
    refine ⟨_, pss_cons (ps_set (i := 2) scRf.nd rfl (Or.inl rfl) (pe_disp (pps_cons (pv 1) (pe_tup pa_nil) pps_nil) (by rfl) (by rfl) (fun z => by cases z) (by decide)))
      (pss_cons (ps_set (i := 3) scRf.nd rfl (Or.inl rfl) (pe_lst (pa_cons (pv 1) pa_nil)))
      (pss_cons (ps_set (i := 4) scRf.nd rfl (Or.inl rfl) pe_int)
      (pss_cons (ps_while PassesOwn.never (pt_cmpR op_lt (pv 4) (pe_callB call_len_seq (by rfl) T.len PySem.boot_len (pa_cons (pv 3) pa_nil)) (nomark _))
        (pss_cons (ps_set (i := 5) scRf.nd rfl (Or.inl rfl) (pe_ix ix_list (pv 3) (pv 4) (fun _ _ => rfl)))
        (pss_cons (ps_aug (i := 4) scRf.nd rfl (Or.inl rfl) pe_int in_add)
        (pss_one (ps_for PassesOwn.never rfl (pi_list (pe_call G1 (hr.mono (by decide)) rfl g1 k1 b1 .nil pass0 (pa_cons (pv 0) (pa_cons (pv 5) pa_nil)))) (pg_name (i := 6) scRf.nd rfl (Or.inl rfl))
          (pss_cons (ps_set (i := 7) scRf.nd rfl (Or.inl rfl) (pe_call G2 (hr.mono (by decide)) rfl g2 k2 b2 .nil pass0 (pa_cons (pv 5) (pa_cons (pv 6) pa_nil))))
          (pss_one (ps_if (pt_cmp (pc_dnotin hu (pv 7) (pv 2)))
            (pss_cons (ps_dput hu (pv 2) (pv 7) (pe_tup (StX.pa_star (pe_dget hu (pv 2) (pv 5) (fun _ _ => rfl)) (pa_cons (pv 6) pa_nil))) rfl)
            (pss_one (ps_expr (pe_bm PySem.F.plainAttrs_list PySem.F.slot_list_append PySem.F.type_list_append mt_append (pv 3) (pa_cons (pv 7) pa_nil))))) pss_nil))))))))
      (pss_one (ps_ret (pv 2)))))), ?_⟩
    intro a ha
    refine ⟨_, rfl, (by show 0 ≤ sizeLine; decide), fun e0 he0 => ?_⟩
    have hae : a ≠ e0 := ne_of_none upd_same he0
    refine ⟨by rw [upd_ne hae]; exact upd_same, [(.inr (sstr st), .ref e0)], rfl, by show 1 ≤ 15; decide, ?_⟩
    refine ⟨_, rfl, (by show 1 ≤ sizeLine; decide), fun q hq => ?_⟩
    have hqa : q ≠ a := fun z => by rw [z, upd_same] at hq; cases hq
    have he0' : H e0 = none := by rw [upd_ne hae.symm] at he0; exact he0
    have hq0 : q ≠ e0 := fun z => by rw [z, upd_ne hae.symm, upd_same] at hq; cases hq
    have hqH : H q = none := by rw [upd_ne hqa, upd_ne hq0, upd_ne hqa] at hq; exact hq
    have S0 : Same H (upd (upd (upd (upd H a (.dK [])) e0 (.tup [])) a (.dK (mergeK [] [(.inr (sstr st), .ref e0)]))) q (.lst [.str (sstr st)])) := fun b o eb => by
      rw [upd_ne (ne_of_none eb hqH), upd_ne (ne_of_none eb ha), upd_ne (ne_of_none eb he0'), upd_ne (ne_of_none eb ha)]
      exact eb
    refine while_by (fun σ H' => ∃ (i : Nat) (ks : List KEnt) (u5 u6 u7 : Option V), σ = [some (.ref c), some (.str (sstr st)), some (.ref a), some (.ref q), some (.int i), u5, u6, u7] ∧ i ≤ ks.length ∧ BI bs st i (ks.map (·.2)) ∧ H' a = some (.dK (kvsOf ks)) ∧ RowsEl H' ks ∧
        H' q = some (.lst (ks.map fun k => .str (sstr k.2.1))) ∧ Same H H')
      (fun (σ : L2.St) (_ : Hp) => 128 - (match σ[4]? with | some (some (V.int i)) => i.toNat | _ => 0)) ?_ ?_ ?_
    · refine ⟨0, [(e0, (st, []))], _, _, _, rfl, Nat.zero_le _, BI.begin, ?_, ⟨fun k hk => ?_⟩, upd_same, S0⟩
      · rw [upd_ne hqa.symm, upd_same]
        rfl
      · rw [List.mem_singleton.mp hk]
        show (upd (upd (upd (upd H a (.dK [])) e0 (.tup [])) a (.dK (mergeK [] [(.inr (sstr st), .ref e0)]))) q (.lst [.str (sstr st)])) e0 = some (.tup [])
        rw [upd_ne hq0.symm, upd_ne hae.symm, upd_same]
    · rintro σ H1 ⟨i, ks, u5, u6, u7, rfl, hi, I, hA, hE, hQ, s1⟩
      have hfew : ks.length ≤ 128 := by
        have := led_few I.nd I.led h7
        rw [List.length_map] at this
        exact this
      refine ⟨_, rfl, _, rfl, q, _, rfl, .inl (SqL.of hQ), _, _, rfl, rfl, _, rfl, ?_⟩
      rw [List.length_map]
      refine ite2 (fun z => ?_) (fun z => ?_)
      · have hlt : i < ks.length := by have := of_decide_eq_true z; omega
        obtain ⟨kp, hkp⟩ : ∃ kp, ks[i]? = some kp := ⟨_, List.getElem?_eq_getElem hlt⟩
        have hpe : (ks.map (·.2))[i]? = some kp.2 := by rw [List.getElem?_map, hkp]; rfl
        have hpl : kp.2.1.length = st.length := (I.led kp.2 (List.mem_of_getElem? hpe)).2.2
        refine ⟨_, rfl, _, rfl, q, _, _, .str (sstr kp.2.1), rfl, rfl, SqL.of hQ, atI_nat (by rw [List.getElem?_map, hkp]; rfl), ?_⟩
        refine ⟨_, rfl, _, _, rfl, rfl, ?_⟩
        refine ⟨_, rfl, _, rfl, ⟨⟨c, bs, kp.2.1, rfl, by rw [hpl]; exact B.same s1, fun fq H2 hfq s2 h2 => ?_⟩⟩⟩
        have hfa : fq ≠ a := fun z => by rw [z, hA] at hfq; cases hfq
        have hfqq : fq ≠ q := fun z => by rw [z, hQ] at hfq; cases hfq
        refine ⟨fq, rfl, ⟨_, SqL.of h2⟩, ?_⟩
        refine for_list (K := K) (a := fq) (xs := (freeL bs kp.2.1).map V.int) (fun t σ H' => ∃ (D : Int) (ks' : List KEnt) (u6 u7 : Option V), σ = [some (.ref c), some (.str (sstr st)), some (.ref a), some (.ref q), some (.int ((i : Int) + 1)), some (.str (sstr kp.2.1)), u6, u7] ∧ BD bs st i kp.2 t D (ks'.map (·.2)) ∧
            (∃ more, ks' = ks ++ more) ∧ H' a = some (.dK (kvsOf ks')) ∧ RowsEl H' ks' ∧ H' q = some (.lst (ks'.map fun k => .str (sstr k.2.1))) ∧ Same H H' ∧ H' fq = some (.lst ((freeL bs kp.2.1).map V.int)))
          ⟨0, ks, _, _, rfl, I.during hpe, ⟨[], by rw [List.append_nil]⟩, s2 _ _ hA, hE.same s2, s2 _ _ hQ, s1.trans s2, h2⟩ ?_ ?_ ?_
        · rintro t σ H' _ ⟨D, ks', u6, u7, _, _, _, _, _, _, _, h⟩
          exact SqL.of h
        · rintro t x σ H3 hx ⟨D, ks', u6, u7, rfl, I', ⟨more, hmore⟩, hA', hE', hQ', s3, hF⟩
          rw [List.getElem?_map] at hx
          cases hd : (freeL bs kp.2.1)[t]? with
          | none => rw [hd] at hx; cases hx
          | some d =>
            rw [hd] at hx
            cases hx
            obtain ⟨dm, dD, d0, d6⟩ := I'.free hd h7
            have d1 := (free_in dm).2
            have hfew' : ks'.length ≤ 128 := by
              have := led_few I'.nd I'.led h7
              rw [List.length_map] at this
              exact this
            refine ⟨_, rfl, _, rfl, ⟨⟨kp.2.1, d, rfl, by omega, d0, d1, fun H4 s4 => ?_⟩⟩⟩
            have hA4 := s4 _ _ hA'
            have hQ4 := s4 _ _ hQ'
            have hE4 := hE'.same s4
            have hF4 := s4 _ _ hF
            have s34 := s3.trans s4
            refine ⟨_, rfl, _, rfl, a, _, rfl, DGet.k (k := Sum.inr (sstr (flip kp.2.1 d))) hA4, _, rfl, ?_⟩
            by_cases hin : flip kp.2.1 d ∈ (ks'.map (·.2)).map (·.1)
            · obtain ⟨e, he, h1⟩ := List.mem_map.mp hin
              obtain ⟨k', hk', rfl⟩ := List.mem_map.mp he
              have hv := val_some I'.nd hk'
              rw [h1] at hv
              rw [hv]
              exact iteF ⟨_, ks', _, _, rfl, I'.old hd h7 hin, ⟨more, hmore⟩, hA4, hE4, hQ4, s34, hF4⟩
            · have hv := val_none hin
              rw [hv]
              refine iteT ?_
              have hkpm : kp ∈ ks' := by rw [hmore]; exact List.mem_append_left _ (List.mem_of_getElem? hkp)
              refine ⟨_, rfl, _, rfl, a, .ref kp.1, rfl, by rw [← val_some I'.nd hkpm]; exact DGet.k (k := Sum.inr (sstr kp.2.1)) hA4, ?_⟩
              refine ⟨kp.1, _, rfl, .inl (SqT.of' (hE4.el kp hkpm)), _, rfl, ?_, fun tn htn => ?_⟩
              · have hl := ascD_len I'.asc i kp.2.2 (by rw [List.getElem?_map, I'.at']; rfl)
                show (kp.2.2.map V.int ++ [V.int d]).length ≤ sizeLine
                rw [List.length_append, List.length_map]
                exact Nat.le_of_lt (small1000 (by show kp.2.2.length + 1 ≤ 1000; omega))
              · have hta : tn ≠ a := fun z => by rw [z, hA4] at htn; cases htn
                have htq : tn ≠ q := fun z => by rw [z, hQ4] at htn; cases htn
                have htf : tn ≠ fq := fun z => by rw [z, hF4] at htn; cases htn
                have hsm : (kvsOf ks').length < sizeLine := by rw [kvs_len]; exact small1000 (by omega)
                refine ⟨_, rfl, _, rfl, a, _, rfl, DPut.k (k := Sum.inr (sstr (flip kp.2.1 d))) (by rw [upd_ne hta.symm]; exact hA4) hsm, ?_⟩
                refine ⟨_, rfl, .inl ⟨rfl, _, SqL.of (by rw [upd_ne hqa, upd_ne htq.symm]; exact hQ4)⟩, _, rfl, q, _, _, rfl, rfl, by rw [upd_ne hqa, upd_ne htq.symm]; exact hQ4, by rw [List.length_map]; exact small1000 (by omega), ?_⟩
                have hat : tn ≠ a := hta
                refine ⟨d + 1, ks' ++ [(tn, (flip kp.2.1 d, kp.2.2 ++ [d]))], _, _, rfl, ?_, ⟨more ++ [(tn, (flip kp.2.1 d, kp.2.2 ++ [d]))], by rw [hmore, List.append_assoc]⟩, ?_, ⟨fun k' hk' => ?_⟩, ?_, fun b o eb => ?_, ?_⟩
                · rw [List.map_append]
                  exact I'.new hd h7 hin
                · rw [upd_ne hqa.symm, upd_same, putK_new _ hv]
                  unfold kvsOf
                  rw [List.map_append]
                  rfl
                · have hk1 : k'.1 ≠ a ∧ k'.1 ≠ q ∧ (upd H4 tn (.tup (kp.2.2.map V.int ++ [V.int d]))) k'.1 = some (.tup (k'.2.2.map V.int)) := by
                    rcases List.mem_append.mp hk' with hk' | hk'
                    · have := hE4.el k' hk'
                      exact ⟨ne_of this hA4 (by intro z; cases z), ne_of this hQ4 (by intro z; cases z), by rw [upd_ne (ne_of_none this htn)]; exact this⟩
                    · rw [List.mem_singleton.mp hk']
                      refine ⟨hta, htq, ?_⟩
                      show (upd H4 tn (.tup (kp.2.2.map V.int ++ [V.int d]))) tn = some (.tup ((kp.2.2 ++ [d]).map V.int))
                      rw [upd_same, List.map_append]
                      rfl
                  rw [upd_ne hk1.2.1, upd_ne hk1.1]
                  exact hk1.2.2
                · rw [upd_same, List.map_append]
                  rfl
                · rw [upd_ne (ne_of_none eb hqH), upd_ne (ne_of_none eb ha), upd_ne (ne_of_none (s34 _ _ eb) htn)]
                  exact s34 _ _ eb
                · rw [upd_ne hfqq, upd_ne hfa, upd_ne htf.symm]
                  exact hF4
        · rintro σ H3 ⟨D, ks', u6, u7, rfl, I', ⟨more, hmore⟩, hA', hE', hQ', s3, hF⟩
          rw [List.length_map] at I'
          have I2 := I'.done
          refine ⟨⟨i + 1, ks', _, _, _, rfl, by rw [hmore, List.length_append]; omega, I2, hA', hE', hQ', s3⟩, ?_⟩
          show 128 - ((i : Int) + 1).toNat < 128 - (i : Int).toNat
          omega
      · have hge : ¬ i < ks.length := fun z' => z (decide_eq_true (by omega))
        obtain rfl : i = ks.length := by omega
        exact ⟨_, rfl, k a ks H1 ha s1 hA hE I⟩
    · rintro σ H1 Q1 Q2 m ⟨x, e1, y, e2, p, ys, e3, hs, j, l, e4, e5, c', e6, hq⟩
      exact ⟨x, e1, y, e2, p, ys, e3, hs, j, l, e4, e5, c', e6, m _ _ hq⟩
structure spFirstRows (C : Addr) (vs : List V) (H : Hp) (Q : VK) (_ : XK) : Prop where
  h : ∃ (c : Addr) (bs : List Bar) (n : Nat), vs = [.ref c] ∧ CabOk C H c n bs ∧ ∀ (a : Addr) (ks : List KEnt) (H' : Hp), H a = none → Same H H' → H' a = some (.dK (kvsOf ks)) → RowsEl H' ks → BI bs (shutS n) ks.length (ks.map (·.2)) → Q (.ref a) H'
theorem scFirstRows : FnScope ["cabinet"] ["cabinet"] (defScope s_first_rows) := ⟨rfl, rfl, rfl, by decide +kernel, rfl, by decide +kernel, by decide +kernel⟩
theorem ok_firstRows {f f2 f3 C : Addr} {fd fd2 fd3 : FuncData} (F : Fun K "first_rows" "first_rows" s_first_rows f fd) (CP : CabP P w K mg base C)
    (G2 : FnOk P w K mg base CX0 10 f2 fd2 ["cabinet", "standing"] (spRows C)) (g2 : mg "rows_from" = some (.ref f2)) (k2 : PySem.W.keepIn K (.ref f2) = true) (b2 : Binds K fd2 ["cabinet", "standing"] [])
    (G3 : FnOk P w K mg base CX0 1 f3 fd3 ["drawers"] spFirst) (g3 : mg "first_standing" = some (.ref f3)) (k3 : PySem.W.keepIn K (.ref f3) = true) (b3 : Binds K fd3 ["drawers"] []) : FnOk P w K mg base CX0 12 f fd ["cabinet"] (spFirstRows C) := by
  refine F.ok scFirstRows (fun vs H Q E h => ?_) (fun cdv A outer s H vs Q E hr h => ?_)
  · obtain ⟨c, bs, n, rfl, _⟩ := h.h
    rfl
  · obtain ⟨c, bs, n, rfl, B, k⟩ := h.h
    obtain ⟨t, hc, n7⟩ := B.cab
    have n1 : 1 ≤ n := by
      obtain ⟨_, _, _, _, _, _, q, _⟩ := B.h
      omega
    obtain ⟨pD, gD, fdD, hpD, GD, bD⟩ := CP.d
    refine ⟨_, pss_one (ps_ret (pe_call G2 (hr.mono (by decide)) rfl g2 k2 b2 .nil pass0 (pa_cons (pv 0) (pa_cons (pe_call G3 (hr.mono (by decide)) rfl g3 k3 b3 .nil pass0 (pa_cons (pe_prop (pv 0) CP.cl hpD GD (hr.mono (by decide)) bD .nil pass0 rfl) pa_nil)) pa_nil)))), ?_⟩
    obtain ⟨dx, hc0⟩ := hc
    have hshut : (shutS n).length = n := List.length_replicate
    refine ⟨_, rfl, _, rfl, c, dx, _, rfl, hc0, ⟨⟨c, dx, _, t, rfl, hc0, ⟨⟨n, rfl, n1, by omega, ?_⟩⟩⟩⟩⟩
    exact ⟨⟨c, bs, shutS n, rfl, by rw [hshut]; exact B, fun a ks H1 ha s1 hA hE I => k a ks H1 ha s1 hA hE I⟩⟩
end
end DL

set_option Elab.async false
set_option maxRecDepth 100000
namespace DL
open PySem L2 HT TL
/-! ### all rows, one pull longer at each turn; the first one that leads to a standing -/
theorem nd_eq {es : List Ent} (nd : (es.map (·.1)).Nodup) : ∀ {a b : Ent}, a ∈ es → b ∈ es → a.1 = b.1 → a = b := by
  induction es with
  | nil => intro a b ha; cases ha
  | cons x es ih =>
    intro a b ha hb e
    rw [List.map_cons, List.nodup_cons] at nd
    rcases List.mem_cons.mp ha with qa | ha'
    · rcases List.mem_cons.mp hb with qb | hb'
      · rw [qa, qb]
      · have hm : x.1 ∈ es.map (·.1) := List.mem_map.mpr ⟨b, hb', by rw [← e, qa]⟩
        exact absurd hm nd.1
    · rcases List.mem_cons.mp hb with qb | hb'
      · have hm : x.1 ∈ es.map (·.1) := List.mem_map.mpr ⟨a, ha', by rw [e, qb]⟩
        exact absurd hm nd.1
      · exact ih nd.2 ha' hb' e
structure LI (bs : List Bar) (s0 : List Bool) (i : Nat) (cat fst : List Ent) : Prop where
  asc : Asc (cat.map (·.2)) i
  led : ∀ e ∈ cat, Led bs s0 e
  ex : ∀ (j : Nat) (p : Ent), j < i → cat[j]? = some p → ∀ d ∈ freeL bs p.1, (flip p.1 d, p.2 ++ [d]) ∈ cat
  root : (s0, []) ∈ cat
  fnd : (fst.map (·.1)).Nodup
  fin : ∀ e ∈ fst, e ∈ cat
  fco : ∀ x ∈ cat, ∃ e ∈ fst, e.1 = x.1 ∧ rcode e.2 ≤ rcode x.2
structure LD (bs : List Bar) (s0 : List Bool) (i : Nat) (p : Ent) (t : Nat) (D : Int) (cat fst : List Ent) : Prop where
  asc : AscD (cat.map (·.2)) i p.2 D
  led : ∀ e ∈ cat, Led bs s0 e
  at' : cat[i]? = some p
  ex : ∀ (j : Nat) (p : Ent), j < i → cat[j]? = some p → ∀ d ∈ freeL bs p.1, (flip p.1 d, p.2 ++ [d]) ∈ cat
  exd : ∀ d ∈ (freeL bs p.1).take t, (flip p.1 d, p.2 ++ [d]) ∈ cat
  dle : ∀ d ∈ (freeL bs p.1).drop t, D ≤ d
  root : (s0, []) ∈ cat
  fnd : (fst.map (·.1)).Nodup
  fin : ∀ e ∈ fst, e ∈ cat
  fco : ∀ x ∈ cat, ∃ e ∈ fst, e.1 = x.1 ∧ rcode e.2 ≤ rcode x.2
theorem LI.begin {bs : List Bar} {s0 : List Bool} : LI bs s0 0 [(s0, [])] [(s0, [])] := by
  have B := BI.begin (bs := bs) (s0 := s0)
  exact ⟨B.asc, B.led, fun j p hj => by omega, List.mem_singleton.mpr rfl, B.nd, fun e he => he, fun x hx => ⟨x, hx, rfl, Int.le_refl _⟩⟩
theorem LI.during {bs : List Bar} {s0 : List Bool} {i : Nat} {cat fst : List Ent} {p : Ent} (B : LI bs s0 i cat fst) (h : cat[i]? = some p) : LD bs s0 i p 0 0 cat fst :=
  ⟨B.asc.during (by rw [List.getElem?_map, h]; rfl), B.led, h, B.ex, fun d hd => (by cases hd), fun d hd => (free_in (List.mem_of_mem_drop hd)).1, B.root, B.fnd, B.fin, B.fco⟩
theorem LD.done {bs : List Bar} {s0 : List Bool} {i : Nat} {p : Ent} {D : Int} {cat fst : List Ent} (B : LD bs s0 i p (freeL bs p.1).length D cat fst) : LI bs s0 (i + 1) cat fst := by
  refine ⟨B.asc.done, B.led, fun j q hj hq => ?_, B.root, B.fnd, B.fin, B.fco⟩
  by_cases e : j = i
  · subst e
    rw [B.at'] at hq
    cases hq
    have := B.exd
    rw [List.take_length] at this
    exact this
  · exact B.ex j q (by omega) hq
theorem LD.free {bs : List Bar} {s0 : List Bool} {i : Nat} {p : Ent} {t : Nat} {D : Int} {cat fst : List Ent} (B : LD bs s0 i p t D cat fst) {d : Int} (hd : (freeL bs p.1)[t]? = some d) (h7 : s0.length ≤ 7) :
    d ∈ freeL bs p.1 ∧ D ≤ d ∧ 0 ≤ d ∧ d ≤ 6 := by
  have hm := List.mem_of_getElem? hd
  obtain ⟨d0, d1⟩ := free_in hm
  have := (B.led p (List.mem_of_getElem? B.at')).2.2
  obtain ⟨_, e⟩ := pw_drop (free_pw bs p.1) hd
  exact ⟨hm, B.dle d (by rw [e]; exact List.mem_cons_self), d0, by omega⟩
def addF (fst : List Ent) (e : Ent) : List Ent := if e.1 ∈ fst.map (·.1) then fst else fst ++ [e]
theorem LD.add {bs : List Bar} {s0 : List Bool} {i : Nat} {p : Ent} {t : Nat} {D : Int} {cat fst : List Ent} (B : LD bs s0 i p t D cat fst) {d : Int} (hd : (freeL bs p.1)[t]? = some d) (h7 : s0.length ≤ 7) :
    LD bs s0 i p (t + 1) (d + 1) (cat ++ [(flip p.1 d, p.2 ++ [d])]) (addF fst (flip p.1 d, p.2 ++ [d])) := by
  obtain ⟨hm, hD, d0, d6⟩ := B.free hd h7
  have mono : ∀ {e : Ent}, e ∈ cat → e ∈ cat ++ [(flip p.1 d, p.2 ++ [d])] := fun he => List.mem_append_left _ he
  have last : (flip p.1 d, p.2 ++ [d]) ∈ cat ++ [(flip p.1 d, p.2 ++ [d])] := List.mem_append_right _ (List.mem_singleton.mpr rfl)
  have fsub : ∀ {e : Ent}, e ∈ fst → e ∈ addF fst (flip p.1 d, p.2 ++ [d]) := fun he => by
    unfold addF
    by_cases z : (flip p.1 d, p.2 ++ [d]).1 ∈ fst.map (·.1)
    · rw [if_pos z]; exact he
    · rw [if_neg z]; exact List.mem_append_left _ he
  refine ⟨?_, fun e he => ?_, ?_, fun j q hj hq x hx => ?_, fun x hx => ?_, (pw_drop (free_pw bs p.1) hd).1, mono B.root, ?_, fun e he => ?_, fun x hx => ?_⟩
  · rw [List.map_append]
    exact B.asc.add hD d0 d6
  · rcases List.mem_append.mp he with he | he
    · exact B.led e he
    · rw [List.mem_singleton.mp he]
      exact (B.led p (List.mem_of_getElem? B.at')).step hm h7
  · rw [List.getElem?_append_left (List.getElem?_eq_some_iff.mp B.at').1]
    exact B.at'
  · have hq' : cat[j]? = some q := by
      have := (List.getElem?_eq_some_iff.mp B.at').1
      rw [List.getElem?_append_left (by omega)] at hq
      exact hq
    exact mono (B.ex j q hj hq' x hx)
  · rcases mem_take_succ hd hx with hx | rfl
    · exact mono (B.exd x hx)
    · exact last
  · unfold addF
    by_cases z : (flip p.1 d, p.2 ++ [d]).1 ∈ fst.map (·.1)
    · rw [if_pos z]; exact B.fnd
    · rw [if_neg z, List.map_append, List.nodup_append]
      refine ⟨B.fnd, by simp, fun x hx y hy q => ?_⟩
      have e1 : y = (flip p.1 d, p.2 ++ [d]).1 := List.mem_singleton.mp hy
      rw [← e1, ← q] at z
      exact z hx
  · unfold addF at he
    by_cases z : (flip p.1 d, p.2 ++ [d]).1 ∈ fst.map (·.1)
    · rw [if_pos z] at he; exact mono (B.fin e he)
    · rw [if_neg z] at he
      rcases List.mem_append.mp he with he | he
      · exact mono (B.fin e he)
      · rw [List.mem_singleton.mp he]; exact last
  · rcases List.mem_append.mp hx with hx | hx
    · obtain ⟨e, he, h1⟩ := B.fco x hx
      exact ⟨e, fsub he, h1⟩
    · rw [List.mem_singleton.mp hx]
      by_cases z : (flip p.1 d, p.2 ++ [d]).1 ∈ fst.map (·.1)
      · obtain ⟨e, he, h1⟩ := List.mem_map.mp z
        have := (B.asc.below hD d0 e.2 (List.mem_map.mpr ⟨e, B.fin e he, rfl⟩)).1
        exact ⟨e, fsub he, h1, Int.le_of_lt this⟩
      · refine ⟨_, ?_, rfl, Int.le_refl _⟩
        unfold addF
        rw [if_neg z]
        exact List.mem_append_right _ (List.mem_singleton.mpr rfl)
/-- those from the i-th on have k pulls, none has more -/
structure LV (k i : Nat) (cat : List Ent) : Prop where
  le : ∀ x ∈ cat, x.2.length ≤ k
  eq : ∀ x ∈ cat.drop i, x.2.length = k
theorem LI.all {bs : List Bar} {s0 : List Bool} {i k : Nat} {cat fst : List Ent} (B : LI bs s0 i cat fst) (V : LV k i cat) : ∀ (r : List Int), (∀ d ∈ r, 0 ≤ d ∧ d < s0.length) → r.length ≤ k → ∀ st, runB bs s0 r = some st → (st, r) ∈ cat := by
  intro r
  refine snoc_ind (p := fun (r : List Int) => (∀ d ∈ r, 0 ≤ d ∧ d < s0.length) → r.length ≤ k → ∀ st, runB bs s0 r = some st → (st, r) ∈ cat) (fun _ _ st h => ?_) (fun l d ih hl hk st h => ?_) r
  · cases h
    exact B.root
  · rw [List.length_append] at hk
    have hk : l.length + 1 ≤ k := hk
    rw [runB_snoc] at h
    cases hr : runB bs s0 l with
    | none => rw [hr] at h; cases h
    | some s1 =>
      rw [hr, Option.bind_some] at h
      by_cases hg : goesB bs s1 d = true
      · rw [if_pos hg] at h
        cases h
        have hm := ih (fun x hx => hl x (List.mem_append_left _ hx)) (by omega) s1 hr
        obtain ⟨j, hj⟩ := List.getElem?_of_mem hm
        have el := (B.led _ hm).2.2
        have el : s1.length = s0.length := el
        have hji : j < i := by
          rcases Nat.lt_or_ge j i with h | h
          · exact h
          · have : (s1, l) ∈ cat.drop i := by
              have e : (cat.drop i)[j - i]? = some (s1, l) := by
                rw [List.getElem?_drop, show i + (j - i) = j by omega]
                exact hj
              exact List.mem_of_getElem? e
            have := V.eq _ this
            have : l.length = k := this
            omega
        exact B.ex j _ hji hj d (free_mem.mpr ⟨by have := hl d (List.mem_append_right _ (List.mem_singleton.mpr rfl)); show 0 ≤ d ∧ d < s1.length; omega, hg⟩)
      · rw [if_neg hg] at h
        cases h
/-! ### a standing as a pattern -/
theorem catA_new {K : PySem.W.Frag} {H : Hp} {t q : Addr} {xs : List V} {x : V} {Q : VK} (h1 : H t = some (.tup xs)) (h2 : H q = some (.tup [x])) (hl : xs.length + 1 ≤ sizeLine)
    (k : ∀ (tn : Addr) (H' : Hp), Same H H' → H' tn = some (.tup (xs ++ [x])) → Q (.ref tn) H') : rCatA K (.ref t) (.ref q) H Q := by
  refine ⟨t, q, _, _, rfl, rfl, SqT.of' h1, SqT.of' h2, hl, fun ez => ?_, fun _ ez => (by cases ez), fun _ _ p hp => k p _ (same_upd hp) upd_same⟩
  exact k q H (Same.refl H) (by rw [ez]; exact h2)
end DL

set_option Elab.async false
set_option maxRecDepth 100000
namespace DL
open PySem PySem.Spec PyProof.Rows L2
section
variable {X : Cx}
/-! ### sorted of texts, any number; sorted of a dict with texts as keys -/
/-! ### min of texts -/
theorem dpAll_strs {K : PySem.W.Frag} {H : Hp} : ∀ l : List Str, DpAll K H (l.map V.str) (l.map PyData.str)
  | [] => .nil
  | x :: l => .cons (.str x) (dpAll_strs l)
/-! ### < of data -/
end
end DL

set_option Elab.async false
set_option maxRecDepth 100000
namespace DL
open PySem L2 HT TL
/-! ### two queues that came to their end hold the same -/
theorem sub_asc {es es' : List Ent} (h1 : (es.map (·.2)).Pairwise Bef) (h2 : (es'.map (·.2)).Pairwise Bef) (hs : ∀ e, e ∈ es ↔ e ∈ es') : es = es' := by
  induction es generalizing es' with
  | nil =>
    cases es' with
    | nil => rfl
    | cons b es' => exact absurd ((hs b).mpr List.mem_cons_self) (by simp)
  | cons a es ih =>
    cases es' with
    | nil => exact absurd ((hs a).mp List.mem_cons_self) (by simp)
    | cons b es' =>
      rw [List.map_cons, List.pairwise_cons] at h1 h2
      have hab : a = b := by
        rcases List.mem_cons.mp ((hs a).mp List.mem_cons_self) with q | q
        · exact q
        · rcases List.mem_cons.mp ((hs b).mpr List.mem_cons_self) with q' | q'
          · exact q'.symm
          · have z1 := (h1.1 b.2 (List.mem_map.mpr ⟨b, q', rfl⟩)).1
            have z2 := (h2.1 a.2 (List.mem_map.mpr ⟨a, q, rfl⟩)).1
            omega
      subst hab
      congr 1
      refine ih h1.2 h2.2 fun e => ⟨fun he => ?_, fun he => ?_⟩
      · rcases List.mem_cons.mp ((hs e).mp (List.mem_cons_of_mem _ he)) with q | q
        · have z1 := (h1.1 e.2 (List.mem_map.mpr ⟨e, he, rfl⟩)).1
          rw [q] at z1
          omega
        · exact q
      · rcases List.mem_cons.mp ((hs e).mpr (List.mem_cons_of_mem _ he)) with q | q
        · have z1 := (h2.1 e.2 (List.mem_map.mpr ⟨e, he, rfl⟩)).1
          rw [q] at z1
          omega
        · exact q
theorem BI.sub {bs : List Bar} {s0 : List Bool} {es es' : List Ent} (I : BI bs s0 es.length es) (I' : BI bs s0 es'.length es') (h7 : s0.length ≤ 7) {e : Ent} (he : e ∈ es) : e ∈ es' := by
  obtain ⟨m1, ⟨m2, m3⟩, m4⟩ := I.led e he
  obtain ⟨f, hf, g1, g2, _⟩ := I'.opt h7 e.2 m3 e.1 m1
  obtain ⟨n1, ⟨n2, n3⟩, n4⟩ := I'.led f hf
  obtain ⟨e', he', k1, k2, _⟩ := I.opt h7 f.2 n3 f.1 n1
  have : e' = e := nd_eq I.nd he' he (by rw [k1, g1])
  subst this
  have : f = e' := Prod.ext g1 (rcode_inj n2 m2 (by omega))
  rw [← this]
  exact hf
theorem BI.same {bs : List Bar} {s0 : List Bool} {es es' : List Ent} (I : BI bs s0 es.length es) (I' : BI bs s0 es'.length es') (h7 : s0.length ≤ 7) : es = es' :=
  sub_asc I.asc.pw I'.asc.pw fun _ => ⟨I.sub I' h7, I'.sub I h7⟩
/-! ### sorted texts -/
theorem sstr_ok (st : List Bool) : PyData.strOk (sstr st) = true := by
  unfold PyData.strOk
  rw [← Array.all_toList, sstr_tl, List.all_eq_true]
  intro c hc
  obtain ⟨b, _, rfl⟩ := List.mem_map.mp hc
  have z : ∀ b : Bool, decide (sg b < 0x110000) = true := by decide
  exact z b
/-! ### (len(a), a) < (len(b), b) -/
end DL

set_option Elab.async false
set_option maxRecDepth 100000
namespace DL
open PySem L2 HT TL
structure spLawRows (vs : List V) (H : Hp) (Q : VK) (_ : XK) : Prop where
  h : ∃ (p : Addr) (bs : List Bar) (st : List Bool), vs = [.ref p, .str (sstr st)] ∧ DrOk H p st.length bs ∧
    ∀ (a : Addr) (ks : List KEnt) (H' : Hp), H a = none → Same H H' → H' a = some (.dK (kvsOf ks)) → RowsEl H' ks → BI bs st ks.length (ks.map (·.2)) → Q (.ref a) H'
end DL

set_option Elab.async false
set_option maxRecDepth 100000
namespace DL
open PySem L2 HT TL
def lvS (ks : List KEnt) : List V := ks.map fun k => V.str (sstr k.2.1)
theorem dpAll_lvS {K : PySem.W.Frag} {H : Hp} (ks : List KEnt) : DpAll K H (lvS ks) (ks.map fun k => PyData.str (sstr k.2.1)) := by
  have := dpAll_strs (K := K) (H := H) (ks.map fun k => sstr k.2.1)
  rw [List.map_map, List.map_map] at this
  exact this
theorem dok_lvS (ks : List KEnt) : dok 2 (.list (ks.map fun k => PyData.str (sstr k.2.1))) := dok_list fun d hd => by
  obtain ⟨k, _, rfl⟩ := List.mem_map.mp hd
  exact dok_str (sstr_ok _)
theorem eqv_lvS (ks : List KEnt) : PyData.eqv (.list (ks.map fun k => PyData.str (sstr k.2.1))) (.list []) = ks.isEmpty := by
  cases ks with
  | nil => exact eqv_self (dok_list (k := 1) fun d hd => by cases hd)
  | cons x l => simp [PyData.eqv, PyData.eqvAll]
def muR (fa : Addr) (σ : L2.St) (H : Hp) : Nat := 128 - ((match H fa with | some (.dK kvs) => kvs.length | _ => 0) - (match σ[3]? with | some (some (V.ref L)) => (match H L with | some (.lst xs) => xs.length | _ => 0) | _ => 0))
section
variable {P : Program} {w : World} {K : PySem.W.Frag} {mg : Str → Option Value} {base : Heap}
abbrev nLr : List Str := ["_law_d", "_law_begin", "_law_found", "_law_level", "_law_later", "_law_here", "_law_drawer", "_law_there"]
theorem scLr : FnScope nLr ["_law_d", "_law_begin"] (defScope s__law_rows) := ⟨rfl, rfl, rfl, by decide +kernel, rfl, by decide +kernel, by decide +kernel⟩
theorem ok_lawRows {f f1 f2 : Addr} {fd fd1 fd2 : FuncData} (F : Fun K "_law_rows" "_law_rows" s__law_rows f fd)
    (G1 : FnOk P w K mg base CX0 2 f1 fd1 ["_law_d", "_law_standing"] spLawFree) (g1 : mg "_law_free" = some (.ref f1)) (k1 : PySem.W.keepIn K (.ref f1) = true) (b1 : Binds K fd1 ["_law_d", "_law_standing"] [])
    (G2 : FnOk P w K mg base CX0 1 f2 fd2 ["_law_standing", "_law_drawer"] spMoved) (g2 : mg "_law_moved" = some (.ref f2)) (k2 : PySem.W.keepIn K (.ref f2) = true) (b2 : Binds K fd2 ["_law_standing", "_law_drawer"] []) : FnOk P w K mg base CX0 3 f fd ["_law_d", "_law_begin"] spLawRows := by
  refine F.ok scLr (fun vs H Q E h => ?_) (fun cdv A outer s H vs Q E hr h => ?_)
  · obtain ⟨p, bs, st, rfl, _⟩ := h.h
    rfl
  · obtain ⟨p, bs, st, rfl, B, k⟩ := h.h
    have hu := hu_of hr
    have hu64 : _ + 64 < cLine := hr.units
    have h7 : st.length ≤ 7 := by
      obtain ⟨_, _, _, _, _, _, _, _, q, _⟩ := B.h
      omega
    refine ⟨_, pss_cons (ps_par (i := 2) (j := 3) (by rfl) scLr.nd rfl rfl (by decide) rfl rfl (pa_cons (pe_disp (pps_cons (pv 1) (pe_tup pa_nil) pps_nil) (by rfl) (by rfl) (fun z => by cases z) (by decide)) (pa_cons (pe_lst (pa_cons (pv 1) pa_nil)) pa_nil)) (by rfl))
      (pss_cons (ps_while PassesOwn.never (pt_cmpR (op_neD hu64) (pv 3) (pe_lst pa_nil) (nomark _))
        (pss_cons (ps_set (i := 4) scLr.nd rfl (Or.inl rfl) (pe_lst pa_nil))
        (pss_cons (ps_for PassesOwn.never rfl (pi_list (pv 3)) (pg_name (i := 5) scLr.nd rfl (Or.inl rfl))
          (pss_one (ps_for PassesOwn.never rfl (pi_list (pe_call G1 (hr.mono (by decide)) rfl g1 k1 b1 .nil pass0 (pa_cons (pv 0) (pa_cons (pv 5) pa_nil)))) (pg_name (i := 6) scLr.nd rfl (Or.inl rfl))
            (pss_cons (ps_set (i := 7) scLr.nd rfl (Or.inl rfl) (pe_call G2 (hr.mono (by decide)) rfl g2 k2 b2 .nil pass0 (pa_cons (pv 5) (pa_cons (pv 6) pa_nil))))
            (pss_one (ps_if (pt_cmp (pc_dnotin hu (pv 7) (pv 2)))
              (pss_cons (ps_dput hu (pv 2) (pv 7) (pe_op op_catA (pe_dget hu (pv 2) (pv 5) (fun _ _ => rfl)) (pe_tup (pa_cons (pv 6) pa_nil))) rfl)
              (pss_one (ps_expr (pe_bm PySem.F.plainAttrs_list PySem.F.slot_list_append PySem.F.type_list_append mt_append (pv 4) (pa_cons (pv 7) pa_nil))))) pss_nil))))))
        (pss_one (ps_set (i := 3) scLr.nd rfl (Or.inl rfl) (pv 4))))))
      (pss_one (ps_ret (pv 2)))), ?_⟩
    intro fa hfa
    refine ⟨_, rfl, (by show 0 ≤ sizeLine; decide), fun e0 he0 => ?_⟩
    have hae : fa ≠ e0 := ne_of_none upd_same he0
    refine ⟨by rw [upd_ne hae]; exact upd_same, [(.inr (sstr st), .ref e0)], rfl, by show 1 ≤ 15; decide, ?_⟩
    refine ⟨_, rfl, (by show 1 ≤ sizeLine; decide), fun q hq => ?_⟩
    refine ⟨_, _, rfl, ?_⟩
    have he0' : H e0 = none := by rw [upd_ne hae.symm] at he0; exact he0
    have hF4 : (upd (upd (upd H fa (.dK [])) e0 (.tup [])) fa (.dK (mergeK [] [(.inr (sstr st), .ref e0)]))) fa = some (.dK (kvsOf [(e0, (st, []))])) := upd_same
    have hE4 : (upd (upd (upd H fa (.dK [])) e0 (.tup [])) fa (.dK (mergeK [] [(.inr (sstr st), .ref e0)]))) e0 = some (.tup []) := by rw [upd_ne hae.symm, upd_same]
    have S4 : Same H (upd (upd (upd H fa (.dK [])) e0 (.tup [])) fa (.dK (mergeK [] [(.inr (sstr st), .ref e0)]))) := fun b o eb => by
      rw [upd_ne (ne_of_none eb hfa), upd_ne (ne_of_none eb he0'), upd_ne (ne_of_none eb hfa)]
      exact eb
    generalize (upd (upd (upd H fa (.dK [])) e0 (.tup [])) fa (.dK (mergeK [] [(.inr (sstr st), .ref e0)]))) = H4 at hF4 hE4 S4 hq ⊢
    have sq := same_upd (o := .lst [.str (sstr st)]) hq
    refine while_by (fun σ H' => ∃ (L : Addr) (i0 : Nat) (ks : List KEnt) (u4 u5 u6 u7 : Option V), σ = [some (.ref p), some (.str (sstr st)), some (.ref fa), some (.ref L), u4, u5, u6, u7] ∧ i0 ≤ ks.length ∧ BI bs st i0 (ks.map (·.2)) ∧ H' fa = some (.dK (kvsOf ks)) ∧ RowsEl H' ks ∧
        H' L = some (.lst (lvS (ks.drop i0))) ∧ Same H H') (muR fa) ?_ ?_ ?_
    · exact ⟨q, 0, [(e0, (st, []))], _, _, _, _, rfl, Nat.zero_le _, BI.begin, sq _ _ hF4, ⟨fun k hk => by rw [List.mem_singleton.mp hk]; exact sq _ _ hE4⟩, upd_same, S4.trans sq⟩
    · rintro σ H1 ⟨L, i0, ks, u4, u5, u6, u7, rfl, hi0, I, hF, hE, hL, s1⟩
      have hfew : ks.length ≤ 128 := by
        have := led_few I.nd I.led h7
        rw [List.length_map] at this
        exact this
      have hmu : muR fa [some (.ref p), some (.str (sstr st)), some (.ref fa), some (.ref L), u4, u5, u6, u7] H1 = 128 - i0 := by
        unfold muR
        rw [hF]
        show 128 - ((kvsOf ks).length - (match H1 L with | some (.lst xs) => xs.length | _ => 0)) = _
        rw [hL]
        show 128 - ((kvsOf ks).length - (lvS (ks.drop i0)).length) = _
        unfold lvS
        rw [kvs_len, List.length_map, List.length_drop]
        omega
      rw [hmu]
      refine ⟨_, rfl, (by show 0 ≤ sizeLine; decide), fun e he => ?_⟩
      have sE := same_upd (o := .lst []) he
      refine ⟨_, _, .lst (SqL.of (sE _ _ hL)) (dpAll_lvS _), .lst (SqL.of upd_same) .nil, dok_shaped (dok_lvS _) (by decide), dok_shaped (dok_list (k := 1) (ds := []) fun d hd => by cases hd) (by decide), _, rfl, ?_⟩
      rw [eqv_lvS]
      have hF2 := sE _ _ hF
      have hE2 := hE.same sE
      have hL2 := sE _ _ hL
      have s2 := s1.trans sE
      generalize (upd H1 e (HO.lst [])) = H2 at hF2 hE2 hL2 s2 ⊢
      cases hem : (ks.drop i0).isEmpty with
      | true =>
        rw [List.isEmpty_iff, List.drop_eq_nil_iff] at hem
        obtain rfl : i0 = ks.length := by omega
        exact iteF ⟨_, rfl, k fa ks H2 hfa s2 hF2 hE2 I⟩
      | false =>
        have hlt : i0 < ks.length := by
          rcases Nat.lt_or_ge i0 ks.length with z | z
          · exact z
          · rw [List.drop_eq_nil_of_le z] at hem
            cases hem
        refine iteT ?_
        refine ⟨(by show 0 ≤ sizeLine; decide), fun Lt hLt => ?_⟩
        have hLtF : Lt ≠ fa := fun z => by rw [z, hF2] at hLt; cases hLt
        have hLtL : Lt ≠ L := fun z => by rw [z, hL2] at hLt; cases hLt
        have sT := same_upd (o := .lst []) hLt
        have hHLt : H Lt = none := s2.free hLt
        refine ⟨_, rfl, L, rfl, ⟨_, SqL.of (sT _ _ hL2)⟩, ?_⟩
        refine for_list (K := K) (a := L) (xs := lvS (ks.drop i0)) (fun j σ H' => ∃ (more : List KEnt) (u5 u6 u7 : Option V), σ = [some (.ref p), some (.str (sstr st)), some (.ref fa), some (.ref L), some (.ref Lt), u5, u6, u7] ∧ BI bs st (i0 + j) ((ks ++ more).map (·.2)) ∧
            H' fa = some (.dK (kvsOf (ks ++ more))) ∧ RowsEl H' (ks ++ more) ∧ H' L = some (.lst (lvS (ks.drop i0))) ∧ H' Lt = some (.lst (lvS more)) ∧ Same H H')
          ⟨[], _, _, _, rfl, by rw [List.append_nil]; exact I, by rw [List.append_nil]; exact sT _ _ hF2, by rw [List.append_nil]; exact hE2.same sT, sT _ _ hL2, upd_same, s2.trans sT⟩ ?_ ?_ ?_
        · rintro j σ H' _ ⟨more, _, _, _, _, _, _, _, h, _⟩
          exact SqL.of h
        · rintro j x σ H3 hx ⟨more, w5, w6, w7, rfl, I3, hF3, hE3, hL3, hT3, s3⟩
          unfold lvS at hx
          rw [List.getElem?_map] at hx
          cases ek : (ks.drop i0)[j]? with
          | none => rw [ek] at hx; cases hx
          | some kp =>
            rw [ek] at hx
            cases hx
            have hkp : (ks ++ more)[i0 + j]? = some kp := by
              rw [List.getElem?_drop] at ek
              rw [List.getElem?_append_left (List.getElem?_eq_some_iff.mp ek).1]
              exact ek
            have hpe : ((ks ++ more).map (·.2))[i0 + j]? = some kp.2 := by rw [List.getElem?_map, hkp]; rfl
            have hpl : kp.2.1.length = st.length := (I3.led kp.2 (List.mem_of_getElem? hpe)).2.2
            refine ⟨_, rfl, _, rfl, ⟨⟨p, bs, kp.2.1, rfl, by rw [hpl]; exact B.same s3, fun fq H4 hfq s4 h4 => ?_⟩⟩⟩
            have hfF : fq ≠ fa := fun z => by rw [z, hF3] at hfq; cases hfq
            have hfL : fq ≠ L := fun z => by rw [z, hL3] at hfq; cases hfq
            have hfT : fq ≠ Lt := fun z => by rw [z, hT3] at hfq; cases hfq
            refine ⟨fq, rfl, ⟨_, SqL.of h4⟩, ?_⟩
            refine for_list (K := K) (a := fq) (xs := (freeL bs kp.2.1).map V.int) (fun t σ H' => ∃ (D : Int) (more : List KEnt) (u6 u7 : Option V), σ = [some (.ref p), some (.str (sstr st)), some (.ref fa), some (.ref L), some (.ref Lt), some (.str (sstr kp.2.1)), u6, u7] ∧ BD bs st (i0 + j) kp.2 t D ((ks ++ more).map (·.2)) ∧
                H' fa = some (.dK (kvsOf (ks ++ more))) ∧ RowsEl H' (ks ++ more) ∧ H' L = some (.lst (lvS (ks.drop i0))) ∧ H' Lt = some (.lst (lvS more)) ∧ Same H H' ∧ H' fq = some (.lst ((freeL bs kp.2.1).map V.int)))
              ⟨0, more, _, _, rfl, I3.during hpe, s4 _ _ hF3, hE3.same s4, s4 _ _ hL3, s4 _ _ hT3, s3.trans s4, h4⟩ ?_ ?_ ?_
            · rintro t σ H' _ ⟨D, more, _, _, _, _, _, _, _, _, _, h⟩
              exact SqL.of h
            · rintro t x σ H5 hx ⟨D, more2, v6, v7, rfl, I5, hF5, hE5, hL5, hT5, s5, hQ5⟩
              rw [List.getElem?_map] at hx
              cases hd : (freeL bs kp.2.1)[t]? with
              | none => rw [hd] at hx; cases hx
              | some d =>
                rw [hd] at hx
                cases hx
                obtain ⟨dm, dD, d0, d6⟩ := I5.free hd h7
                have d1 := (free_in dm).2
                have hfew' : (ks ++ more2).length ≤ 128 := by
                  have := led_few I5.nd I5.led h7
                  rw [List.length_map] at this
                  exact this
                have hmore : more2.length ≤ 128 := by rw [List.length_append] at hfew'; omega
                refine ⟨_, rfl, _, rfl, ⟨⟨kp.2.1, d, rfl, by omega, d0, d1, fun H6 s6 => ?_⟩⟩⟩
                have hF6 := s6 _ _ hF5
                have hE6 := hE5.same s6
                have hL6 := s6 _ _ hL5
                have hT6 := s6 _ _ hT5
                have hQ6 := s6 _ _ hQ5
                have s56 := s5.trans s6
                refine ⟨_, rfl, _, rfl, fa, _, rfl, DGet.k (k := Sum.inr (sstr (flip kp.2.1 d))) hF6, _, rfl, ?_⟩
                by_cases hin : flip kp.2.1 d ∈ ((ks ++ more2).map (·.2)).map (·.1)
                · obtain ⟨e', he', h1⟩ := List.mem_map.mp hin
                  obtain ⟨k', hk', rfl⟩ := List.mem_map.mp he'
                  have hv := val_some I5.nd hk'
                  rw [h1] at hv
                  rw [hv]
                  exact iteF ⟨_, more2, _, _, rfl, I5.old hd h7 hin, hF6, hE6, hL6, hT6, s56, hQ6⟩
                · have hv := val_none hin
                  rw [hv]
                  refine iteT ?_
                  have hkpm : kp ∈ ks ++ more2 := by
                    rw [List.getElem?_drop] at ek
                    exact List.mem_append_left _ (List.mem_of_getElem? ek)
                  refine ⟨_, rfl, _, rfl, fa, .ref kp.1, rfl, by rw [← val_some I5.nd hkpm]; exact DGet.k (k := Sum.inr (sstr kp.2.1)) hF6, ?_⟩
                  refine ⟨_, rfl, (by show 1 ≤ sizeLine; decide), fun b1 hb1 => ?_⟩
                  have sb := same_upd (o := .tup [.int d]) hb1
                  have hl := ascD_len I5.asc (i0 + j) kp.2.2 (by rw [List.getElem?_map, I5.at']; rfl)
                  have hij : i0 + j < 128 := by
                    have := (List.getElem?_eq_some_iff.mp hkp).1
                    have e1 := (List.getElem?_eq_some_iff.mp I5.at').1
                    rw [List.length_map] at e1
                    omega
                  refine catA_new (sb _ _ (hE6.el kp hkpm)) upd_same (by rw [List.length_map]; show kp.2.2.length + 1 ≤ sizeLine; exact Nat.le_of_lt (small1000 (by omega))) fun tn H7 s7 h7' => ?_
                  have s67 := sb.trans s7
                  have hF7 := s67 _ _ hF6
                  have hE7 := hE6.same s67
                  have hL7 := s67 _ _ hL6
                  have hT7 := s67 _ _ hT6
                  have hQ7 := s67 _ _ hQ6
                  have s57 := s56.trans s67
                  have h7' : H7 tn = some (.tup ((kp.2.2 ++ [d]).map V.int)) := by rw [h7', List.map_append]; rfl
                  have hsm : (kvsOf (ks ++ more2)).length < sizeLine := by rw [kvs_len]; exact small1000 (by omega)
                  refine ⟨_, rfl, _, rfl, fa, _, rfl, DPut.k (k := Sum.inr (sstr (flip kp.2.1 d))) hF7 hsm, ?_⟩
                  rw [putK_new _ hv]
                  have nt : ∀ xs, HO.dK (kvsOf (ks ++ more2)) ≠ .tup xs := fun xs z => by cases z
                  have hF8 : (upd H7 fa (.dK (kvsOf (ks ++ more2) ++ [(.inr (sstr (flip kp.2.1 d)), .ref tn)]))) fa = some (.dK (kvsOf (ks ++ (more2 ++ [(tn, (flip kp.2.1 d, kp.2.2 ++ [d]))])))) := by
                    rw [upd_same]
                    unfold kvsOf
                    simp only [List.map_append, List.append_assoc]
                    rfl
                  have hE8 : RowsEl (upd H7 fa (.dK (kvsOf (ks ++ more2) ++ [(.inr (sstr (flip kp.2.1 d)), .ref tn)]))) (ks ++ (more2 ++ [(tn, (flip kp.2.1 d, kp.2.2 ++ [d]))])) := ⟨fun k' hk' => by
                    rw [← List.append_assoc] at hk'
                    have h1 : H7 k'.1 = some (.tup (k'.2.2.map V.int)) := by
                      rcases List.mem_append.mp hk' with hk' | hk'
                      · exact hE7.el k' hk'
                      · rw [List.mem_singleton.mp hk']; exact h7'
                    rw [upd_ne (ne_of h1 hF7 fun z => nt _ z.symm)]
                    exact h1⟩
                  have hL8 : (upd H7 fa (.dK (kvsOf (ks ++ more2) ++ [(.inr (sstr (flip kp.2.1 d)), .ref tn)]))) L = some (.lst (lvS (ks.drop i0))) := by rw [upd_ne (ne_of hL7 hF7 (by intro z; cases z))]; exact hL7
                  have hT8 : (upd H7 fa (.dK (kvsOf (ks ++ more2) ++ [(.inr (sstr (flip kp.2.1 d)), .ref tn)]))) Lt = some (.lst (lvS more2)) := by rw [upd_ne hLtF]; exact hT7
                  have hQ8 : (upd H7 fa (.dK (kvsOf (ks ++ more2) ++ [(.inr (sstr (flip kp.2.1 d)), .ref tn)]))) fq = some (.lst ((freeL bs kp.2.1).map V.int)) := by rw [upd_ne hfF]; exact hQ7
                  have s8 : Same H (upd H7 fa (.dK (kvsOf (ks ++ more2) ++ [(.inr (sstr (flip kp.2.1 d)), .ref tn)]))) := fun b o eb => by
                    rw [upd_ne (ne_of_none eb hfa)]
                    exact s57 _ _ eb
                  generalize (upd H7 fa (.dK (kvsOf (ks ++ more2) ++ [(.inr (sstr (flip kp.2.1 d)), .ref tn)]))) = H8 at hF8 hE8 hL8 hT8 hQ8 s8 ⊢
                  refine ⟨_, rfl, .inl ⟨rfl, _, SqL.of hT8⟩, _, rfl, Lt, _, _, rfl, rfl, hT8, by unfold lvS; rw [List.length_map]; exact small1000 (by omega), ?_⟩
                  have nt2 : ∀ xs, HO.lst (lvS more2) ≠ .tup xs := fun xs z => by cases z
                  refine ⟨d + 1, more2 ++ [(tn, (flip kp.2.1 d, kp.2.2 ++ [d]))], _, _, rfl, ?_, ?_, ⟨fun k' hk' => ?_⟩, ?_, ?_, fun b o eb => ?_, ?_⟩
                  · have := I5.new hd h7 hin
                    rw [← List.append_assoc, List.map_append]
                    exact this
                  · rw [upd_ne hLtF.symm]; exact hF8
                  · have h1 := hE8.el k' hk'
                    rw [upd_ne (ne_of h1 hT8 fun z => nt2 _ z.symm)]
                    exact h1
                  · rw [upd_ne hLtL.symm]; exact hL8
                  · rw [upd_same]
                    unfold lvS
                    rw [List.map_append]
                    rfl
                  · rw [upd_ne (ne_of_none eb hHLt)]
                    exact s8 _ _ eb
                  · rw [upd_ne hfT]; exact hQ8
            · rintro σ H5 ⟨D, more2, v6, v7, rfl, I5, hF5, hE5, hL5, hT5, s5, hQ5⟩
              rw [List.length_map] at I5
              exact ⟨more2, _, _, _, rfl, I5.done, hF5, hE5, hL5, hT5, s5⟩
        · rintro σ H3 ⟨more, w5, w6, w7, rfl, I3, hF3, hE3, hL3, hT3, s3⟩
          have e1 : (lvS (ks.drop i0)).length = ks.length - i0 := by
            unfold lvS
            rw [List.length_map, List.length_drop]
          rw [e1, show i0 + (ks.length - i0) = ks.length by omega] at I3
          refine ⟨_, rfl, ?_⟩
          refine ⟨⟨Lt, ks.length, ks ++ more, _, _, _, _, rfl, by rw [List.length_append]; omega, I3, hF3, hE3, ?_, s3⟩, ?_⟩
          · rw [List.drop_append_of_le_length (Nat.le_refl _), List.drop_length, List.nil_append]
            exact hT3
          · have : muR fa (([some (V.ref p), some (.str (sstr st)), some (.ref fa), some (.ref L), some (.ref Lt), w5, w6, w7] : L2.St).set 3 (some (.ref Lt))) H3 = 128 - ks.length := by
              unfold muR
              rw [hF3]
              show 128 - ((kvsOf (ks ++ more)).length - (match H3 Lt with | some (.lst xs) => xs.length | _ => 0)) = _
              rw [hT3]
              show 128 - ((kvsOf (ks ++ more)).length - (lvS more).length) = _
              unfold lvS
              rw [kvs_len, List.length_map, List.length_append]
              omega
            rw [this]
            omega
    · rintro σ H1 Q1 Q2 m ⟨x, e1, hs, hf⟩
      refine ⟨x, e1, hs, fun e he => ?_⟩
      obtain ⟨d, d', h1, h2, h3, h4, c', ec, hq'⟩ := hf e he
      exact ⟨d, d', h1, h2, h3, h4, c', ec, m _ _ hq'⟩
end
end DL

set_option Elab.async false
set_option maxRecDepth 100000
namespace DL
open PySem L2 HT TL RZ
/-! ### patterns of sets -/
def opat (n : Nat) (ns : List Int) : List Nat := (List.range n).map fun (i : Nat) => if decide ((i : Int) ∈ ns) = true then 111 else 63
theorem opat_len (n : Nat) (ns : List Int) : (opat n ns).length = n := by unfold opat; rw [List.length_map, List.length_range]
theorem opat_at {n i : Nat} (ns : List Int) (h : i < n) : (opat n ns)[i]? = some (if decide ((i : Int) ∈ ns) = true then 111 else 63) := by
  unfold opat
  rw [List.getElem?_map, List.getElem?_range h]
  rfl
theorem fit_opat {n : Nat} {st : List Bool} {ns : List Int} (hl : st.length = n) (hn : ∀ d ∈ ns, 0 ≤ d ∧ d < n) : fitB st (opat n ns) = ns.all fun d => sat st d := by
  rw [Bool.eq_iff_iff]
  unfold fitB
  rw [List.all_map, List.all_eq_true, List.all_eq_true]
  have key : ∀ i : Nat, i < n → (fitAt st (opat n ns) i = true ↔ ((i : Int) ∈ ns → sat st i = true)) := fun i hi => by
    unfold fitAt
    rw [List.getD_eq_getElem?_getD, opat_at ns hi, Option.getD_some]
    unfold sat
    rw [Int.toNat_natCast]
    by_cases q : (i : Int) ∈ ns
    · rw [decide_eq_true q, if_pos rfl]
      have : ∀ b : Bool, (decide (111 = 63) || decide (111 = sg b)) = b := by decide
      rw [this]
      exact ⟨fun h _ => h, fun h => h q⟩
    · rw [decide_eq_false q, if_neg Bool.false_ne_true]
      exact ⟨fun _ z => absurd z q, fun _ => rfl⟩
  constructor
  · intro h d hd
    obtain ⟨d0, d1⟩ := hn d hd
    have := (key d.toNat (by omega)).mp (h d.toNat (List.mem_range.mpr (by omega)))
    rw [show ((d.toNat : Nat) : Int) = d by omega] at this
    exact this hd
  · intro h i hi
    exact (key i (by rw [← hl]; exact List.mem_range.mp hi)).mpr fun hm => h _ hm
structure spOpenPat (K : PySem.W.Frag) (C : Addr) (vs : List V) (H : Hp) (Q : VK) (_ : XK) : Prop where
  h : ∃ (c a : Addr) (n : Nat) (t : Addr) (ns : List Int), vs = [.ref c, .ref a] ∧ CabAt C H c n t ∧ n ≤ 7 ∧ SqT K H a (ns.map V.int) ∧ ∀ H', Same H H' → Q (.str (pstr (opat n ns))) H'
structure spAnyFits (K : PySem.W.Frag) (vs : List V) (H : Hp) (Q : VK) (_ : XK) : Prop where
  h : ∃ (l : Addr) (sts : List (List Bool)) (cs : List Nat), vs = [.ref l, .str (pstr cs)] ∧ SqA K H l (sts.map fun st => V.str (sstr st)) ∧ (∀ st ∈ sts, st.length = cs.length) ∧ cs.length ≤ 7 ∧ sts.length ≤ 1000 ∧ ∀ H', Same H H' → Q (.bl (sts.any fun st => fitB st cs)) H'
theorem bl_any {α : Type} (l : List α) (f : α → Bool) : (l.map f).any id = l.any f := by rw [List.any_map]; rfl
theorem SqA.same {K : PySem.W.Frag} {H H' : Hp} {a : Addr} {xs : List V} (s : Same H H') (h : SqA K H a xs) : SqA K H' a xs := by
  rcases h with h | h
  · exact .inl (s.seq h)
  · exact .inr (SqT.same s h)
section
variable {P : Program} {w : World} {K : PySem.W.Frag} {mg : Str → Option Value} {base : Heap}
abbrev nOP : List Str := ["cabinet", "some", "drawer"]
theorem scOP : FnScope nOP ["cabinet", "some"] (defScope s_open_pattern) := ⟨rfl, rfl, rfl, by decide +kernel, rfl, by decide +kernel, by decide +kernel⟩
theorem ok_openPat {f C aS : Addr} {fd : FuncData} (F : Fun K "open_pattern" "open_pattern" s_open_pattern f fd) (T : Bt mg) (TS : SgT K w mg aS) (CP : CabP P w K mg base C) : FnOk P w K mg base CX0 4 f fd ["cabinet", "some"] (spOpenPat K C) := by
  refine F.ok scOP (fun vs H Q E h => ?_) (fun cdv A outer s H vs Q E hr h => ?_)
  · obtain ⟨c, a, n, t, ns, rfl, _⟩ := h.h
    rfl
  · obtain ⟨c, a, n, t, ns, rfl, ⟨dx, hc⟩, n7, S, k⟩ := h.h
    obtain ⟨pD, gD, fdD, hpD, GD, bD⟩ := CP.d
    refine ⟨_, pss_one (ps_ret (pe_join pe_str
      (pe_lc (own := [("drawer", 2)]) (g := gName 2) (tt := tYes) (by rfl) scOP.nd (pi_range1 (by rfl) T.range (pa_cons (pe_prop (pv 0) CP.cl hpD GD (hr.mono (by decide)) bD .nil pass0 rfl) pa_nil)) (blkOk_by (N := nOP) (sc := defScope s_open_pattern) (by decide +kernel)) (fun _ _ _ _ _ => pg_name (i := 2) scOP.nd rfl (Or.inl rfl)) (fun _ _ _ _ _ => pts_nil)
        (fun _ _ _ _ _ => pe_ifExp (pt_cmpR (op_in_seqK (K := K) rfl) (pv 2) (pv 1) (by rfl)) (pe_ix (ix_kdictK (K := K) (w := w) rfl rfl) (pe_glob (v := .ref aS) rfl TS.g rfl) pe_str (fun _ _ => rfl)) pe_str)))), ?_⟩
    refine ⟨⟨_, rfl⟩, _, rfl, c, dx, _, rfl, hc, ⟨⟨c, dx, _, t, rfl, hc, _, rfl, by omega, by omega, fun D hD => ?_⟩⟩⟩
    rw [Int.toNat_natCast]
    refine lc_pick (walk_range (lo := 0) (n := n)) (opat n ns) (opat_len n ns) (by omega) (fun _ => true) (fun c => V.str ⟨#[c]⟩) hD (fun _ _ => trivial) ?_ ?_
    · rintro i x z H1 H1' Tk Nk ez s1 ⟨rfl, rfl⟩ kT kF
      have hi : i < n := by have := (List.getElem?_eq_some_iff.mp ez).1; rw [opat_len] at this; exact this
      rw [opat_at ns hi] at ez
      have ei : (0 : Int) + (i : Nat) = (i : Int) := by omega
      refine ⟨rfl, tYes_of (iteT ?_)⟩
      refine ⟨_, rfl, _, rfl, a, _, rfl, .inr (SqT.same s1 S), rfl, flat_ints _, _, rfl, ?_⟩
      rw [if_neg Bool.false_ne_true, inV_ints, ei]
      by_cases q : (i : Int) ∈ ns
      · rw [decide_eq_true q, if_pos rfl] at ez
        cases ez
        rw [decide_eq_true q]
        exact iteT ⟨aS, _, _, rfl, rfl, TS.o, kT _ rfl (Same.refl _)⟩
      · rw [decide_eq_false q, if_neg Bool.false_ne_true] at ez
        cases ez
        rw [decide_eq_false q]
        exact iteF (kT _ rfl (Same.refl _))
    · intro H1 s1 hD1
      rw [List.filter_eq_self.mpr fun _ _ => rfl] at hD1
      have em : ((opat n ns).map fun c => V.str ⟨#[c]⟩) = ((opat n ns).map fun c => (⟨#[c]⟩ : Str)).map V.str := by rw [List.map_map]; rfl
      rw [em] at hD1
      refine ⟨_, D, _, rfl, rfl, .inl (SqL.of hD1), ?_, ?_⟩
      · rw [sum_ones, List.length_map, opat_len]
        have z : ("" : Str).length = 0 := by decide +kernel
        rw [z]
        have : (14 : Nat) < sizeLine := by decide
        omega
      · rw [join_codes]
        exact k H1 s1
abbrev nAF : List Str := ["standings", "pattern", "standing"]
theorem scAF : FnScope nAF ["standings", "pattern"] (defScope s_any_fits) := ⟨rfl, rfl, rfl, by decide +kernel, rfl, by decide +kernel, by decide +kernel⟩
theorem ok_anyFits {f f1 : Addr} {fd fd1 : FuncData} (F : Fun K "any_fits" "any_fits" s_any_fits f fd) (zA : mg "any" = none) (G : FnOk P w K mg base CX0 1 f1 fd1 ["standing", "pattern"] spFits) (g1 : mg "fits" = some (.ref f1)) (k1 : PySem.W.keepIn K (.ref f1) = true) (b1 : Binds K fd1 ["standing", "pattern"] []) :
    FnOk P w K mg base CX0 4 f fd ["standings", "pattern"] (spAnyFits K) := by
  refine F.ok scAF (fun vs H Q E h => ?_) (fun cdv A outer s H vs Q E hr h => ?_)
  · obtain ⟨l, sts, cs, rfl, _⟩ := h.h
    rfl
  · obtain ⟨l, sts, cs, rfl, S, hl, h7, h1000, k⟩ := h.h
    refine ⟨_, pss_one (ps_ret (pe_callB (cr_any rfl) (by rfl) zA boot_any_ (pa_cons
      (pe_lc (own := [("standing", 2)]) (g := gName 2) (tt := tYes) (by rfl) scAF.nd (pi_seq (K := K) rfl (pv 0)) (blkOk_by (N := nAF) (sc := defScope s_any_fits) (by decide +kernel)) (fun _ _ _ _ _ => pg_name (i := 2) scAF.nd rfl (Or.inl rfl)) (fun _ _ _ _ _ => pts_nil)
        (fun _ _ _ _ _ => pe_call G (hr.mono (by decide)) rfl g1 k1 b1 .nil pass0 (pa_cons (pv 2) (pa_cons (pv 1) pa_nil)))) pa_nil))), ?_⟩
    have step : ∀ (J : It) (Gd : Hp → Prop) (Y : Nat → Hp → V → Hp → Prop), Walk J sts.length Gd Y → (∀ H', Same H H' → Gd H') → (∀ i H1 x H', Y i H1 x H' → H' = H1 ∧ ∃ z, sts[i]? = some z ∧ x = .str (sstr z)) →
        lcC J (gName 2) tYes (tCall spFits [] E0 (tCons (tVar 2) (tCons (tVar 1) tNil))) [2] (L2.start nAF [.ref l, .str (pstr cs)]) (fun v H1 => rAny K [v] H1 Q) H := by
      intro J Gd Y wk hG hY D hD
      refine lc_pick wk sts rfl (by omega) (fun _ => true) (fun st => V.bl (fitB st cs)) hD hG ?_ ?_
      · rintro i x z H1 H1' Tk Nk ez s1 y kT kF
        obtain ⟨rfl, z', ez', rfl⟩ := hY _ _ _ _ y
        rw [ez] at ez'
        cases ez'
        refine ⟨rfl, tYes_of (iteT ?_)⟩
        have hz := hl z (List.mem_of_getElem? ez)
        exact ⟨_, rfl, _, rfl, ⟨⟨z, cs, rfl, hz, by omega, fun H4 s4 => kT H4 rfl s4⟩⟩⟩
      · intro H1 s1 hD1
        rw [List.filter_eq_self.mpr fun _ _ => rfl] at hD1
        refine ⟨D, sts.map fun st => fitB st cs, rfl, SqL.of (by rw [hD1, List.map_map]; rfl), ?_⟩
        rw [bl_any]
        exact k H1 s1
    refine ⟨_, rfl, l, rfl, ?_⟩
    rcases S with S | S
    · exact .inl ⟨⟨_, S⟩, step _ _ _ (walk_lst (K := K) (a := l) (l := sts) (f := fun st => V.str (sstr st))) (fun H' s1 => s1.seq S) fun _ _ _ _ y => y⟩
    · exact .inr ⟨⟨_, S⟩, step _ _ _ (walk_bars (K := K) (a := l) (l := sts) (f := fun st => V.str (sstr st))) (fun H' s1 => SqT.same s1 S) fun _ _ _ _ y => y⟩
end
end DL

set_option Elab.async false
set_option maxRecDepth 100000
namespace DL
open PySem L2 HT TL
/-! ### walks over a dict of rows -/
theorem kvs_at {ks : List KEnt} {i : Nat} {k : Key} {v : V} (h : (kvsOf ks)[i]? = some (k, v)) : ∃ kk, ks[i]? = some kk ∧ k = .inr (sstr kk.2.1) ∧ v = .ref kk.1 := by
  unfold kvsOf at h
  rw [List.getElem?_map] at h
  cases e : ks[i]? with
  | none => rw [e] at h; cases h
  | some kk =>
    rw [e] at h
    have h : some ((.inr (sstr kk.2.1) : Key), V.ref kk.1) = some (k, v) := h
    injection h with h
    injection h with h1 h2
    exact ⟨kk, rfl, h1.symm, h2.symm⟩
theorem walk_keysE {d : Addr} {o : Obj} {ks : List KEnt} : Walk (Itk d o (kvsOf ks)) ks.length (fun H => H d = some (.frz o (.dK (kvsOf ks)))) (fun i H x H' => H' = H ∧ ∃ k, ks[i]? = some k ∧ x = .str (sstr k.2.1)) := by
  rw [← kvs_len ks]
  refine (walk_keys (d := d) (o := o) (kvs := kvsOf ks)).mono (fun H h => h) fun i H x H' _ _ y => ?_
  obtain ⟨e, k, v, h, rfl⟩ := y
  obtain ⟨kk, e1, rfl, _⟩ := kvs_at h
  exact ⟨e, kk, e1, rfl⟩
/-- a dict of rows, locked from its making on -/
structure RowsFrz (H : Hp) (a : Addr) (od : Obj) (ks : List KEnt) : Prop where
  at' : H a = some (.frz od (.dK (kvsOf ks)))
  el : RowsEl H ks
theorem RowsFrz.same {H H' : Hp} {a : Addr} {od : Obj} {ks : List KEnt} (R : RowsFrz H a od ks) (s : Same H H') : RowsFrz H' a od ks := ⟨s _ _ R.at', R.el.same s⟩
theorem RowsFrz.but {r sc : Addr} {H H' : Hp} {a : Addr} {od : Obj} {ks : List KEnt} (R : RowsFrz H a od ks) (hR : RowOk H r sc) (B : But r H H') : RowsFrz H' a od ks := by
  obtain ⟨_, _, _, h, _⟩ := hR.h
  exact ⟨B _ _ (ne_of R.at' h (by intro z; cases z)) R.at', ⟨fun k hk => B.tup h (R.el.el k hk)⟩⟩
theorem But.tupL {x : Addr} {xs ys : List V} {H H' : Hp} {b : Addr} (hx : H x = some (.lst xs)) (B : But x H H') (hb : H b = some (.tup ys)) : H' b = some (.tup ys) := B _ _ (ne_of hb hx (by intro z; cases z)) hb
theorem rows_lock {H H1 : Hp} {a : Addr} {ks : List KEnt} (od : Obj) (ha : H a = none) (s1 : Same H H1) (hA : H1 a = some (.dK (kvsOf ks))) (hE : RowsEl H1 ks) :
    Same H (upd H1 a (.frz od (.dK (kvsOf ks)))) ∧ RowsFrz (upd H1 a (.frz od (.dK (kvsOf ks)))) a od ks := by
  refine ⟨fun b o eb => ?_, upd_same, ⟨fun k hk => ?_⟩⟩
  · rw [upd_ne (ne_of_none eb ha)]
    exact s1 _ _ eb
  · have := hE.el k hk
    rw [upd_ne (ne_of this hA (by intro z; cases z))]
    exact this
end DL

set_option Elab.async false
set_option maxRecDepth 100000
namespace DL
open PySem L2 HT TL RZ
structure PairsAt (H : Hp) (qs : List (Addr × Int × Int)) : Prop where
  el : ∀ q ∈ qs, H q.1 = some (.tup [.int q.2.1, .int q.2.2])
theorem PairsAt.same {H H' : Hp} {qs : List (Addr × Int × Int)} (A : PairsAt H qs) (s : Same H H') : PairsAt H' qs := ⟨fun q hq => s _ _ (A.el q hq)⟩
def never (es : List Ent) (p : Int × Int) : Bool := !(es.any fun e => sat e.1 p.1 && sat e.1 p.2)
end DL

set_option Elab.async false
set_option maxRecDepth 100000
set_option maxHeartbeats 1000000

set_option Elab.async false
set_option maxRecDepth 100000

set_option Elab.async false
set_option maxRecDepth 100000
set_option maxHeartbeats 1000000
namespace DL
open PySem PySem.Spec PyProof.Rows L2
/-! ### own errors with a field, each by its own __init__ -/
def exIni (CB : Addr) (fld : Str) (x : V) (H : Hp) (E : XK) : Prop := ∀ (d : Addr) (H' : Hp), H d = none → Same H H' → H' d = some (.xd [(fld, x)]) → E (.ref CB) (some d) H'
end DL

set_option Elab.async false
set_option maxRecDepth 100000
set_option maxHeartbeats 1000000
namespace DL
open PySem L2 HT TL
/-! ### forms of single values: standings, tries, whatever they are -/
def sgnB (n : Int) (z : Str) : V → Bool
  | .str y => decide ((y.length : Int) = n) && y.cps.toList.all fun c => decide (c ∈ z.cps.toList)
  | _ => false
def strB : V → Bool
  | .str _ => true
  | _ => false
def blB : V → Bool
  | .bl _ => true
  | _ => false
section
variable {P : Program} {w : World} {K : PySem.W.Frag} {mg : Str → Option Value} {base : Heap}
/-- a plain value told as a try: standing, drawer, whether it went -/
def tryB (n : Int) (x0 x1 x2 : V) : Bool := sgnB n "os" x0 && (isD n x1 && blB x2)
structure spIsTry (K : PySem.W.Frag) (vs : List V) (H : Hp) (Q : VK) (_ : XK) : Prop where
  h : ∃ (n : Int) (v : V), vs = [.int n, v] ∧ ((∃ t, TyX K H v t ∧ PySem.W.kitOne K t (.type "tuple") = some false ∧ Q (.bl false) H) ∨
    (∃ a xs, v = .ref a ∧ SqT K H a xs ∧ xs.length ≠ 3 ∧ Q (.bl false) H) ∨
    ∃ a x0 x1 x2, v = .ref a ∧ SqT K H a [x0, x1, x2] ∧ scV x0 = true ∧ scV x1 = true ∧ scV x2 = true ∧ (∀ y, x0 = .str y → y.length ≤ 1000) ∧ ∀ H', Same H H' → Q (.bl (tryB n x0 x1 x2)) H')
end
end DL

set_option Elab.async false
set_option maxRecDepth 100000

set_option Elab.async false
set_option maxRecDepth 100000
set_option maxHeartbeats 1000000

set_option Elab.async false
set_option maxRecDepth 100000
set_option maxHeartbeats 1000000

set_option Elab.async false
set_option maxRecDepth 100000
set_option maxHeartbeats 1000000
namespace DL
open PySem L2 HT TL
/-! ### standings, patterns, drawers, lengths that are refused, whatever they are -/
def NoStr (K : PySem.W.Frag) (H : Hp) (v : V) : Prop := ∃ t, (∀ H', Same H H' → TyX K H' v t) ∧ PySem.W.kitOne K t (.type "str") = some false
def BadSgn (K : PySem.W.Frag) (z : Str) (H : Hp) (n : Int) (v : V) : Prop := NoStr K H v ∨ ∃ y, v = .str y ∧ y.length ≤ 1000 ∧ sgnB n z (.str y) = false
theorem BadSgn.same {K : PySem.W.Frag} {z : Str} {H H' : Hp} {n : Int} {v : V} (h : BadSgn K z H n v) (s : Same H H') : BadSgn K z H' n v := by
  rcases h with ⟨t, h1, h2⟩ | h
  · exact .inl ⟨t, fun H2 s2 => h1 H2 (s.trans s2), h2⟩
  · exact .inr h
end DL

set_option Elab.async false
set_option maxRecDepth 100000
set_option maxHeartbeats 1000000
namespace DL
open PySem L2 HT TL RZ
/-! ### a dict comprehension by a walk -/
theorem dc_it {J : It} {n : Nat} {G : Hp → Prop} {Y : Nat → Hp → V → Hp → Prop} (w : Walk J n G Y) {g : TG} {tt : TT} {tk tv : TE} {vs : List Nat} {σ : L2.St} {H1 : Hp} {D : Addr} {Qd : Hp → Prop} (Pv : Nat → Hp → Prop) (h0 : Pv 0 (upd H1 D (.dK []))) (hG : ∀ i H, i ≤ n → Pv i H → G H)
    (hs : ∀ i x H H', i < n → Pv i H → Y i H x H' → g x (wipe σ vs) H' fun σ2 H2 => wipe σ2 vs = wipe σ vs ∧ tt σ2 H2 fun b H3 =>
      if b = true then tk σ2 H3 fun y H4 => tv σ2 H4 fun z H5 => ∃ kvs k, y = kV k ∧ H5 D = some (.dK kvs) ∧ kvs.length < sizeLine ∧ Pv (i + 1) (upd H5 D (.dK (putK kvs k z))) else Pv (i + 1) H3) (hd : ∀ H, Pv n H → Qd H) :
    ∃ W : Nat → Nat → Hp → Prop, (∃ m, W 0 m (upd H1 D (.dK []))) ∧ ∀ i m H, W i m H →
      (J.stop i H ∧ Qd H) ∨ (J.go i H ∧ ∃ Nx : Hp → Prop, (∀ H', Nx H' → ∃ m', m' < m ∧ W (i + 1) m' H') ∧ ∀ x H', J.yld i H x H' → g x (wipe σ vs) H' fun σ2 H2 => wipe σ2 vs = wipe σ vs ∧ tt σ2 H2 fun b H3 =>
        if b = true then tk σ2 H3 fun y H4 => tv σ2 H4 fun z H5 => ∃ kvs k, y = kV k ∧ H5 D = some (.dK kvs) ∧ kvs.length < sizeLine ∧ Nx (upd H5 D (.dK (putK kvs k z))) else Nx H3) := by
  refine ⟨fun i m H => m = n - i ∧ i ≤ n ∧ Pv i H, ⟨n, rfl, Nat.zero_le _, h0⟩, ?_⟩
  rintro i m H ⟨em, hi, p⟩
  have q := hG i H hi p
  rcases Nat.lt_or_ge i n with hlt | hge
  · exact .inr ⟨w.goes i H hlt q, Pv (i + 1), fun H' p' => ⟨n - (i + 1), by omega, rfl, hlt, p'⟩, fun x H' y => hs i x H H' hlt p (w.yields i H x H' hlt q y)⟩
  · obtain rfl : i = n := Nat.le_antisymm hi hge
    exact .inl ⟨w.stops H q, hd H p⟩
/-! ### y = {..}, a dict comprehension by itself in a row -/
/-! ### told standings as keys -/
end DL

set_option Elab.async false
set_option maxRecDepth 100000
set_option maxHeartbeats 1000000

set_option Elab.async false
set_option maxRecDepth 100000
set_option maxHeartbeats 1000000
namespace DL
open PySem L2 HT TL RZ
/-! ### a dict with standings as keys -/
def tabV (rs : List (List Bool)) (f : List Bool → V) : List (Key × V) := rs.map fun st => (.inr (sstr st), f st)
theorem tab_len (rs : List (List Bool)) (f : List Bool → V) : (tabV rs f).length = rs.length := List.length_map ..
theorem key_ne {a b : List Bool} (h : a ≠ b) : ¬ ((.inr (sstr a) : Key) = .inr (sstr b)) := fun z => h (sstr_inj (by injection z))
theorem tab_val (rs : List (List Bool)) (f : List Bool → V) (st : List Bool) : valV (tabV rs f) (.inr (sstr st)) = if st ∈ rs then some (f st) else none := by
  induction rs with
  | nil => rfl
  | cons a rs ih =>
    by_cases e : a = st
    · subst e
      rw [if_pos List.mem_cons_self]
      exact valV_pos rfl
    · have e2 : valV (tabV (a :: rs) f) (.inr (sstr st)) = valV (tabV rs f) (.inr (sstr st)) := valV_neg (key_ne e)
      rw [e2, ih]
      have : (st ∈ a :: rs) ↔ st ∈ rs := ⟨fun h => (List.mem_cons.mp h).resolve_left fun z => e z.symm, List.mem_cons_of_mem _⟩
      simp only [this]
theorem tab_snoc {rs : List (List Bool)} {f : List Bool → V} {st : List Bool} {v : V} (h : st ∉ rs) : putK (tabV rs f) (.inr (sstr st)) v = tabV (rs ++ [st]) fun z => if z = st then v else f z := by
  rw [putK_new v (by rw [tab_val, if_neg h])]
  unfold tabV
  rw [List.map_append]
  refine congr (congrArg _ (List.map_congr_left fun z hz => ?_)) ?_
  · have e : z ≠ st := fun e => h (e ▸ hz)
    show _ = ((.inr (sstr z) : Key), if z = st then v else f z)
    rw [if_neg e]
  · show _ = [((.inr (sstr st) : Key), if st = st then v else f st)]
    rw [if_pos rfl]
/-! ### levels of standings, and how often one stands in a level -/
def nextL (bs : List Bar) (st : List Bool) : List (List Bool) := (freeL bs st).map (flip st)
def nSum (l : List Nat) : Nat := l.foldr (· + ·) 0
theorem nSum_add {α : Type} (l : List α) (f g : α → Nat) : nSum (l.map fun x => f x + g x) = nSum (l.map f) + nSum (l.map g) := by
  induction l with
  | nil => rfl
  | cons a l ih =>
    show f a + g a + nSum (l.map fun x => f x + g x) = (f a + nSum (l.map f)) + (g a + nSum (l.map g))
    omega
theorem nSum_zero {α : Type} (l : List α) (f : α → Nat) (h : ∀ x ∈ l, f x = 0) : nSum (l.map f) = 0 := by
  induction l with
  | nil => rfl
  | cons a l ih =>
    have h1 := h a List.mem_cons_self
    have h2 := ih fun x hx => h x (List.mem_cons_of_mem _ hx)
    show f a + nSum (l.map f) = 0
    omega
theorem nSum_one (rs : List (List Bool)) (nd : rs.Nodup) (x : List Bool) (hx : x ∈ rs) (c : List Bool → Nat) : nSum (rs.map fun st => (if st = x then 1 else 0) * c st) = c x := by
  induction rs with
  | nil => cases hx
  | cons a rs ih =>
    show (if a = x then 1 else 0) * c a + nSum (rs.map fun st => (if st = x then 1 else 0) * c st) = c x
    rw [List.nodup_cons] at nd
    by_cases e : a = x
    · subst e
      rw [if_pos rfl, nSum_zero _ _ fun z hz => by
        have : z ≠ a := fun e => nd.1 (e ▸ hz)
        rw [if_neg this, Nat.zero_mul]]
      omega
    · rw [if_neg e, Nat.zero_mul, ih nd.2 ((List.mem_cons.mp hx).resolve_left fun z => e z.symm)]
      omega
theorem nSum_count (rs : List (List Bool)) (nd : rs.Nodup) (c : List Bool → Nat) (L : List (List Bool)) (hL : ∀ x ∈ L, x ∈ rs) : nSum (rs.map fun st => L.count st * c st) = nSum (L.map c) := by
  induction L with
  | nil => exact nSum_zero _ _ fun x _ => by rw [List.count_nil, Nat.zero_mul]
  | cons a L ih =>
    have e : (rs.map fun st => (a :: L).count st * c st) = rs.map fun st => L.count st * c st + (if st = a then 1 else 0) * c st := List.map_congr_left fun z _ => by
      rw [List.count_cons, Nat.add_mul]
      congr 2
      by_cases q : z = a
      · subst q
        simp
      · rw [if_neg q]
        simp [Ne.symm q]
    rw [e, nSum_add, ih fun x hx => hL x (List.mem_cons_of_mem _ hx), nSum_one rs nd a (hL a List.mem_cons_self)]
    show nSum (L.map c) + c a = c a + nSum (L.map c)
    omega
end DL

set_option Elab.async false
set_option maxRecDepth 100000
set_option maxHeartbeats 2000000
namespace DL
open PySem L2 HT TL RZ
/-! ### o[i] += x of a dict -/
theorem none_back {H H' : Hp} {a : Addr} (s : Same H H') (h : H' a = none) : H a = none := by
  cases e : H a with
  | none => rfl
  | some o =>
    rw [s _ _ e] at h
    cases h
/-! ### the pulls of each reached standing -/
structure PulEl (H : Hp) (bs : List Bar) (l : Addr) (st : List Bool) : Prop where
  h : ∃ ts : List (Addr × Int), H l = some (.lst (ts.map fun t => V.ref t.1)) ∧ ts.map (·.2) = freeL bs st ∧ ∀ t ∈ ts, H t.1 = some (.tup [.int t.2, .str (sstr (flip st t.2))])
theorem PulEl.mono {H H' : Hp} {bs : List Bar} {l : Addr} {st : List Bool} (p : PulEl H bs l st) (h1 : ∀ b xs, H b = some (.lst xs) → H' b = some (.lst xs)) (h2 : ∀ b xs, H b = some (.tup xs) → H' b = some (.tup xs)) : PulEl H' bs l st := by
  obtain ⟨ts, a, b, c⟩ := p.h
  exact ⟨⟨ts, h1 _ _ a, b, fun t ht => h2 _ _ (c t ht)⟩⟩
theorem PulEl.same {H H' : Hp} {bs : List Bar} {l : Addr} {st : List Bool} (p : PulEl H bs l st) (s : Same H H') : PulEl H' bs l st := p.mono (fun _ _ => s _ _) fun _ _ => s _ _
theorem PulEl.upd {H : Hp} {bs : List Bar} {l D : Addr} {st : List Bool} {o : HO} {kvs : List (Key × V)} (p : PulEl H bs l st) (hD : H D = some (.dK kvs)) : PulEl (upd H D o) bs l st := by
  refine p.mono (fun b xs h => ?_) fun b xs h => ?_
  · rw [upd_ne (ne_of h hD (by intro z; cases z))]
    exact h
  · rw [upd_ne (ne_of h hD (by intro z; cases z))]
    exact h
structure Reach (bs : List Bar) (n : Nat) (rs : List (List Bool)) : Prop where
  nd : rs.Nodup
  root : shutS n ∈ rs
  len : ∀ st ∈ rs, st.length = n
  ex : ∀ st ∈ rs, ∀ d ∈ freeL bs st, flip st d ∈ rs
  few : rs.length ≤ 128
  hd : rs[0]? = some (shutS n)
def PulsAt (H : Hp) (bs : List Bar) (rs : List (List Bool)) (f : List Bool → V) : Prop := ∀ st ∈ rs, ∃ l, f st = .ref l ∧ PulEl H bs l st
theorem PulsAt.same {H H' : Hp} {bs : List Bar} {rs : List (List Bool)} {f : List Bool → V} (p : PulsAt H bs rs f) (s : Same H H') : PulsAt H' bs rs f := fun st h => by
  obtain ⟨l, e, q⟩ := p st h
  exact ⟨l, e, q.same s⟩
theorem PulsAt.upd {H : Hp} {bs : List Bar} {rs : List (List Bool)} {f : List Bool → V} {D : Addr} {o : HO} {kvs : List (Key × V)} (p : PulsAt H bs rs f) (hD : H D = some (.dK kvs)) : PulsAt (upd H D o) bs rs f := fun st h => by
  obtain ⟨l, e, q⟩ := p st h
  exact ⟨l, e, q.upd hD⟩
/-- what the ledger of the first rows reaches -/
theorem reach_of {bs : List Bar} {n : Nat} {es : List Ent} (I : BI bs (shutS n) es.length es) (n7 : n ≤ 7) : Reach bs n (es.map (·.1)) := by
  have hshut : (shutS n).length = n := List.length_replicate
  have hf := led_few I.nd I.led (by rw [hshut]; exact n7)
  refine ⟨I.nd, List.mem_map_of_mem (f := (·.1)) I.root, fun st h => ?_, fun st h d hd => ?_, by rw [List.length_map]; exact hf, ?_⟩
  · obtain ⟨e, he, rfl⟩ := List.mem_map.mp h
    rw [(I.led e he).2.2, hshut]
  · obtain ⟨e, he, rfl⟩ := List.mem_map.mp h
    obtain ⟨j, hj⟩ := List.getElem?_of_mem he
    obtain ⟨e', he', q, _⟩ := I.ex j e (List.getElem?_eq_some_iff.mp hj).1 hj d hd
    rw [← q]
    exact List.mem_map_of_mem (f := (·.1)) he'
  · have hr := I.root
    have hp := I.asc.pw
    have hl := I.asc.low
    cases es with
    | nil => cases hr
    | cons e es =>
      rcases List.mem_cons.mp hr with h | h
      · rw [← h]
        rfl
      · exfalso
        rw [List.map_cons, List.pairwise_cons] at hp
        have h1 := (hp.1 [] (List.mem_map.mpr ⟨_, h, rfl⟩)).1
        have h2 := rcode_nn (hl e.2 (by simp))
        rw [rcode_nil] at h1
        omega
structure spPulls (C : Addr) (vs : List V) (H : Hp) (Q : VK) (_ : XK) : Prop where
  h : ∃ (c : Addr) (bs : List Bar) (n : Nat), vs = [.ref c] ∧ CabOk C H c n bs ∧
    ∀ (a : Addr) (rs : List (List Bool)) (f : List Bool → V) (H' : Hp), H a = none → Same H H' → H' a = some (.dK (tabV rs f)) → Reach bs n rs → PulsAt H' bs rs f → Q (.ref a) H'
section
variable {P : Program} {w : World} {K : PySem.W.Frag} {mg : Str → Option Value} {base : Heap}
abbrev nRP : List Str := ["cabinet", "standing", "drawer"]
theorem scRP : FnScope nRP ["cabinet"] (defScope s_reached_pulls) := ⟨rfl, rfl, rfl, by decide +kernel, rfl, by decide +kernel, by decide +kernel⟩
theorem ok_reachedPulls {f f1 f2 f3 C : Addr} {fd fd1 fd2 fd3 : FuncData} (F : Fun K "reached_pulls" "reached_pulls" s_reached_pulls f fd)
    (G1 : FnOk P w K mg base CX0 12 f1 fd1 ["cabinet"] (spFirstRows C)) (g1 : mg "first_rows" = some (.ref f1)) (k1 : PySem.W.keepIn K (.ref f1) = true) (b1 : Binds K fd1 ["cabinet"] [])
    (G2 : FnOk P w K mg base CX0 8 f2 fd2 ["cabinet", "standing"] (spFreeDrawers C)) (g2 : mg "free_drawers" = some (.ref f2)) (k2 : PySem.W.keepIn K (.ref f2) = true) (b2 : Binds K fd2 ["cabinet", "standing"] [])
    (G3 : FnOk P w K mg base CX0 1 f3 fd3 ["standing", "drawer"] spMoved) (g3 : mg "moved" = some (.ref f3)) (k3 : PySem.W.keepIn K (.ref f3) = true) (b3 : Binds K fd3 ["standing", "drawer"] []) :
    FnOk P w K mg base CX0 14 f fd ["cabinet"] (spPulls C) := by
  refine F.ok scRP (fun vs H Q E h => ?_) (fun cdv A outer s H vs Q E hr h => ?_)
  · obtain ⟨c, bs, n, rfl, _⟩ := h.h
    rfl
  · obtain ⟨c, bs, n, rfl, B, k⟩ := h.h
    obtain ⟨t, hc, n7⟩ := B.cab
    refine ⟨_, pss_one (ps_ret (pe_dc (own := [("standing", 1)]) (g := gName 1) (tt := tYes) (by rfl) scRP.nd (pi_keys (pe_frz (pe_call G1 (hr.mono (by decide)) rfl g1 k1 b1 .nil pass0 (pa_cons (pv 0) pa_nil)))) (blkOk_by (N := nRP) (sc := defScope s_reached_pulls) (by decide +kernel))
      (fun _ _ _ _ _ => pg_name (i := 1) scRP.nd rfl (Or.inr rfl)) (fun _ _ _ _ _ => pts_nil) (fun _ _ _ _ _ => pv 1)
      (fun _ _ _ _ _ => by exact (pe_lc (own := [("drawer", 2)]) (g := gName 2) (tt := tYes) (by rfl) scRP.nd (pi_listK (K := K) rfl (pe_call G2 (hr.mono (by decide)) rfl g2 k2 b2 .nil pass0 (pa_cons (pv 0) (pa_cons (pv 1) pa_nil)))) (blkOk_by (N := nRP) (by rfl)) (fun _ _ _ _ _ => pg_name (i := 2) scRP.nd rfl (Or.inl rfl)) (fun _ _ _ _ _ => pts_nil)
        (fun _ _ _ _ _ => pe_tup (pa_cons (pv 2) (pa_cons (pe_call G3 (hr.mono (by decide)) rfl g3 k3 b3 .nil pass0 (pa_cons (pv 1) (pa_cons (pv 2) pa_nil))) pa_nil))))))), ?_⟩
    refine ⟨_, rfl, ⟨⟨c, bs, n, rfl, B, fun a ks H1 ha s1 hA hE I => ?_⟩⟩⟩
    have I' : BI bs (shutS n) (ks.map (·.2)).length (ks.map (·.2)) := by rw [List.length_map]; exact I
    have RR := reach_of I' (by omega)
    rw [List.map_map] at RR
    refine ⟨a, _, rfl, hA, trivial, fun od => ?_⟩
    obtain ⟨s2, R2⟩ := rows_lock od ha s1 hA hE
    generalize (upd H1 a (.frz od (.dK (kvsOf ks)))) = H2 at s2 R2 ⊢
    refine ⟨a, od, rfl, .inl ⟨_, R2.at', fun D hD => ?_⟩⟩
    have B2 := B.same s2
    refine dc_it walk_keysE (fun i H' => Same H2 H' ∧ ∃ f : List Bool → V, H' D = some (.dK (tabV ((ks.take i).map fun k => k.2.1) f)) ∧ PulsAt H' bs ((ks.take i).map fun k => k.2.1) f) ⟨same_upd hD, fun _ => .non, upd_same, fun st h => by cases h⟩ (fun i H' _ q => q.1 _ _ R2.at') ?_ ?_
    · rintro i x H3 H3' hi ⟨s3, f, hD3, hf⟩ ⟨rfl, kk, ek, rfl⟩
      obtain ⟨hil, ei⟩ := List.getElem?_eq_some_iff.mp ek
      have hm : kk ∈ ks := List.mem_of_getElem? ek
      have hmr : kk.2.1 ∈ ks.map ((fun e : Ent => e.1) ∘ fun k : KEnt => k.2) := List.mem_map.mpr ⟨kk, hm, rfl⟩
      have hst : kk.2.1.length = n := RR.len _ hmr
      have htk : ((ks.take (i + 1)).map fun k => k.2.1) = ((ks.take i).map fun k => k.2.1) ++ [kk.2.1] := by
        rw [List.take_succ_eq_append_getElem hil, List.map_append, ei]
        rfl
      have hni : kk.2.1 ∉ (ks.take i).map fun k => k.2.1 := by
        have nd := RR.nd
        have : ((ks.take (i + 1)).map fun k => k.2.1).Nodup := nd.sublist ((List.take_sublist _ _).map _)
        rw [htk, List.nodup_append] at this
        intro h
        exact this.2.2 _ h _ (List.mem_singleton.mpr rfl) rfl
      refine ⟨rfl, tYes_of (iteT ?_)⟩
      refine ⟨_, rfl, ?_⟩
      refine ⟨_, rfl, _, rfl, ⟨⟨c, bs, kk.2.1, rfl, by rw [hst]; exact B2.same s3, fun q H5 hq s5 h5 => ?_⟩⟩⟩
      refine ⟨q, rfl, ⟨_, SqL.of h5⟩, fun D2 hD2 => ?_⟩
      refine lc_list (K := K) (a := q) (xs := (freeL bs kk.2.1).map V.int) (fun m H' => Same H5 H' ∧ ∃ ts : List (Addr × Int), H' D2 = some (.lst (ts.map fun t => V.ref t.1)) ∧ ts.map (·.2) = (freeL bs kk.2.1).take m ∧ ∀ t ∈ ts, H' t.1 = some (.tup [.int t.2, .str (sstr (flip kk.2.1 t.2))]))
        ⟨same_upd hD2, [], upd_same, rfl, fun t ht => by cases ht⟩ (fun m H' _ q => SqL.of (q.1 _ _ h5)) ?_ ?_
      · rintro m x H6 hx ⟨s6, ts, hD6, et, ht⟩
        rw [List.getElem?_map] at hx
        cases ed : (freeL bs kk.2.1)[m]? with
        | none => rw [ed] at hx; cases hx
        | some d =>
          rw [ed] at hx
          cases hx
          have hdm := List.mem_of_getElem? ed
          obtain ⟨⟨d0, d1⟩, _⟩ := free_mem.mp hdm
          obtain ⟨hml, em⟩ := List.getElem?_eq_some_iff.mp ed
          have hfl := free_len bs kk.2.1
          have tsl : ts.length = m := by
            have := congrArg List.length et
            rw [List.length_map, List.length_take] at this
            omega
          refine ⟨rfl, tYes_of (iteT ?_)⟩
          refine ⟨_, rfl, _, rfl, _, rfl, ⟨⟨kk.2.1, d, rfl, by omega, d0, d1, fun H7 s7 => ?_⟩⟩⟩
          refine ⟨(by show 2 ≤ sizeLine; decide), fun t7 nt7 => ?_⟩
          obtain ⟨s8, f8⟩ := new_at (o := .tup [V.int d, .str (sstr (flip kk.2.1 d))]) nt7
          generalize upd H7 t7 (.tup [V.int d, .str (sstr (flip kk.2.1 d))]) = H8 at s8 f8 ⊢
          have s68 := s7.trans s8
          have hD8 := s68 _ _ hD6
          refine ⟨_, hD8, by rw [List.length_map]; exact small1000 (by omega), fun b o e => ?_, ts ++ [(t7, d)], ?_, ?_, fun t ht' => ?_⟩
          · rw [upd_ne (ne_of_none e hD2)]
            exact s68 _ _ (s6 b o e)
          · rw [upd_same, List.map_append]
            rfl
          · rw [List.map_append, et, List.take_succ_eq_append_getElem hml, em]
            rfl
          · rcases List.mem_append.mp ht' with h | h
            · have e := s68 _ _ (ht t h)
              rw [upd_ne (ne_of e hD8 (by intro z; cases z))]
              exact e
            · rw [List.mem_singleton.mp h]
              rw [upd_ne (ne_of f8 hD8 (by intro z; cases z))]
              exact f8
      · rintro H6 ⟨s6, ts, hD6, et, ht⟩
        rw [List.length_map, List.take_length] at et
        have s36 := s5.trans s6
        have hD36 := s36 _ _ hD3
        have hfew := RR.few
        rw [List.length_map] at hfew
        have el : PulEl H6 bs D2 kk.2.1 := ⟨⟨ts, hD6, et, ht⟩⟩
        refine ⟨_, .inr (sstr kk.2.1), rfl, hD36, by rw [tab_len, List.length_map, List.length_take]; exact small1000 (by omega), fun b o e => ?_, fun z => if z = kk.2.1 then .ref D2 else f z, ?_, ?_⟩
        · rw [upd_ne (ne_of_none e hD)]
          exact s36 _ _ (s3 b o e)
        · rw [upd_same, htk, tab_snoc hni]
        · rw [htk]
          intro st hst'
          rcases List.mem_append.mp hst' with h | h
          · have e : st ≠ kk.2.1 := fun e => hni (e ▸ h)
            obtain ⟨l, e1, e2⟩ := hf.same s36 st h
            exact ⟨l, by show (if st = kk.2.1 then V.ref D2 else f st) = _; rw [if_neg e]; exact e1, e2.upd hD36⟩
          · rw [List.mem_singleton.mp h]
            exact ⟨D2, if_pos rfl, el.upd hD36⟩
    · rintro H3 ⟨s3, f, hD3, hf⟩
      rw [List.take_length] at hD3 hf
      exact k D _ f H3 (none_back s2 hD) (s2.trans s3) hD3 RR hf
end
end DL

set_option Elab.async false
set_option maxRecDepth 100000
set_option maxHeartbeats 2000000
namespace DL
open PySem L2 HT TL RZ
def cnV (g : List Bool → Nat) : List Bool → V := fun st => .int (g st : Nat)
end DL

set_option Elab.async false
set_option maxRecDepth 100000
set_option maxHeartbeats 2000000
namespace DL
open PySem L2 HT TL RZ
structure spCkNum0 (vs : List V) (H : Hp) (Q : VK) (_ : XK) : Prop where
  h : ∃ i lo m : Int, vs = [.int i, .int lo, .int m] ∧ lo ≤ i ∧ i ≤ m ∧ Q .non H
section
variable {P : Program} {w : World} {K : PySem.W.Frag} {mg : Str → Option Value} {base : Heap}
theorem scCkNum0 : FnScope ["value", "least", "most"] ["value", "least", "most"] (defScope s_check_number) := ⟨rfl, rfl, rfl, by decide +kernel, rfl, by decide +kernel, by decide +kernel⟩
theorem ok_ckNum0 {f f1 : Addr} {fd fd1 : FuncData} (F : Fun K "check_number" "check_number" s_check_number f fd)
    (G : FnOk P w K mg base CX0 1 f1 fd1 ["value"] (spIsInt K)) (g1 : mg "is_integer" = some (.ref f1)) (k1 : PySem.W.keepIn K (.ref f1) = true) (b1 : Binds K fd1 ["value"] []) :
    FnOk P w K mg base CX0 2 f fd ["value", "least", "most"] spCkNum0 := by
  refine F.ok scCkNum0 (fun vs H Q E h => ?_) (fun cdv A outer s H vs Q E hr h => ?_)
  · obtain ⟨i, lo, m, rfl, _⟩ := h.h
    rfl
  · obtain ⟨i, lo, m, rfl, i0, im, k⟩ := h.h
    refine ⟨_, pss_one (ps_if (PW.pt (pw_or (pt_not (pt_val (pe_call G (hr.mono (by decide)) rfl g1 k1 b1 .nil pass0 (pa_cons (pv 0) pa_nil)))) (pw_or1 (pt_not (pt_chain op_le op_le (pv 1) (pv 0) (pv 2)))))) (pss_one ps_never) pss_nil), ?_⟩
    refine ⟨_, rfl, ⟨.int i, .type "int", true, false, rfl, .base (.int i), kit_ty (by decide +kernel), kit_ty (by decide +kernel), _, rfl, iteF ?_⟩⟩
    refine ⟨_, rfl, _, rfl, _, _, rfl, rfl, _, rfl, ?_⟩
    rw [decide_eq_true i0]
    refine iteT ⟨_, rfl, _, _, rfl, rfl, _, rfl, ?_⟩
    rw [decide_eq_true im]
    exact iteF k
end
end DL

set_option Elab.async false
set_option maxRecDepth 100000
set_option maxHeartbeats 1000000
namespace DL
open PySem L2 HT TL RZ
/-! ### a dict that counts -/
structure Acc (ks : List (List Bool)) (F : List Bool → Nat) : Prop where
  nd : ks.Nodup
  iff : ∀ b, b ∈ ks ↔ 0 < F b
theorem Acc.val {ks : List (List Bool)} {F : List Bool → Nat} (A : Acc ks F) (x : List Bool) : (valV (tabV ks (cnV F)) (.inr (sstr x))).getD (.int 0) = .int (F x : Nat) := by
  rw [tab_val]
  by_cases m : x ∈ ks
  · rw [if_pos m]
    rfl
  · rw [if_neg m]
    have e : F x = 0 := by
      have : ¬ 0 < F x := fun h => m ((A.iff x).mpr h)
      omega
    rw [e]
    rfl
theorem Acc.small {ks : List (List Bool)} {n : Nat} {F : List Bool → Nat} (A : Acc ks F) (hl : ∀ b, 0 < F b → b.length = n) (n7 : n ≤ 7) : ks.length ≤ 128 := by
  have := few n ks A.nd fun x hx => hl x ((A.iff x).mp hx)
  have h2 : 2 ^ n ≤ 2 ^ 7 := Nat.pow_le_pow_right (by decide) n7
  have h3 : (2 : Nat) ^ 7 = 128 := rfl
  omega
/-! ### counts that are refused -/
end DL

set_option Elab.async false
set_option maxRecDepth 100000
set_option maxHeartbeats 2000000
namespace DL
open PySem PySem.Spec PyProof.Rows L2
/-! ### sets of ints and texts that can be walked -/
/-- what stands in a row of the table for a key -/
structure RowFor (P : Program) (w : World) (k : Key) (e : Int × Value) : Prop where
  val : RelV (kV k) e.2
  hash : e.1 = (mixKind P w).hash k
theorem pair_perm {α β : Type} {R : α → β → Prop} {ys zs : List β} (p : ys.Perm zs) : ∀ {xs : List α}, Paired R xs ys → ∃ ws, ws.Perm xs ∧ Paired R ws zs := by
  induction p with
  | nil => exact fun h => ⟨_, List.Perm.refl _, h⟩
  | cons y _ ih =>
    intro xs h
    cases h with
    | cons r t =>
      obtain ⟨ws, q, u⟩ := ih t
      exact ⟨_, q.cons _, .cons r u⟩
  | swap y z l =>
    intro xs h
    cases h with
    | cons r t =>
      cases t with
      | cons r2 t2 => exact ⟨_, List.Perm.swap _ _ _, .cons r2 (.cons r t2)⟩
  | trans _ _ ih1 ih2 =>
    intro xs h
    obtain ⟨ws, q, u⟩ := ih1 h
    obtain ⟨vs, q2, u2⟩ := ih2 u
    exact ⟨vs, q2.trans q, u2⟩
/-- L2 holds k besides -/
structure Adds (k : Key) (L L2 : List Key) : Prop where
  old : k ∈ L → L2 = L
  new : k ∉ L → L2.Perm (k :: L)
/-- at a: a set of the keys L, in some order, each once -/
structure SetW (P : Program) (w : World) (h : Heap) (a : Addr) (L : List Key) : Prop where
  h : ∃ (o : Obj) (es : Array (Int × Value)) (ep : Nat) (t : SetTable), h.get? a = some o ∧ o.ExactSet ∧ o.data = .set es ep t ∧ Paired (RowFor P w) L es.toList ∧ L.Nodup ∧ L.length < scanBound ∧
    t.fits es.size = true ∧ Ris t.place.toList ∧ (w.params.followText "set-order" = true ∨ t.led = true)
section
variable {P : Program} {w : World} {A : Around} {E : Value → Shared → Prop} {s : Shared} {a : Addr} {L : List Key}
theorem SetW.of {h : Heap} {o : Obj} {es : Array (Int × Value)} {ep : Nat} {t : SetTable} (g : h.get? a = some o) (x : o.ExactSet) (d : o.data = .set es ep t) (p : Paired (RowFor P w) L es.toList) (nd : L.Nodup) (few : L.length < scanBound)
    (f : t.fits es.size = true) (r : Ris t.place.toList) (l : w.params.followText "set-order" = true ∨ t.led = true) : SetW P w h a L := ⟨⟨o, es, ep, t, g, x, d, p, nd, few, f, r, l⟩⟩
theorem SetW.keep {h h' : Heap} (R : SetW P w h a L) (k : ∀ o, h.get? a = some o → h'.get? a = some o) : SetW P w h' a L := by
  obtain ⟨o, es, ep, t, g, rest⟩ := R.h
  exact ⟨⟨o, es, ep, t, k o g, rest⟩⟩
end
end DL

set_option Elab.async false
set_option maxRecDepth 100000
set_option maxHeartbeats 2000000
namespace DL
open PySem PySem.Spec PyProof.Rows L2
/-! ### {e for x in xs if t} -/
/-! ### sorted of such a set -/
section
variable {X : Cx}
theorem vals_back {L : List Key} : ∀ {us ws : List Value}, Vals (L.map kV) us → us.Perm ws → ∃ L2 : List Key, L2.Perm L ∧ Vals (L2.map kV) ws := fun {us ws} h p => by
  have q : Paired (fun (k : Key) (u : Value) => RelV (kV k) u) L us := by
    clear p
    induction L generalizing us with
    | nil => cases h; exact .nil
    | cons k L ih =>
      cases h with
      | cons r t => exact .cons r (ih t)
  obtain ⟨L2, p2, q2⟩ := pair_perm p q
  refine ⟨L2, p2, ?_⟩
  clear p2 q h p
  induction q2 with
  | nil => exact .nil
  | cons r _ ih => exact .cons r ih
end
end DL

set_option Elab.async false
set_option maxRecDepth 100000
set_option maxHeartbeats 2000000
namespace DL
open PySem L2 HT TL RZ
/-! ### comprehensions whose elements are new things -/
/-! ### dicts by standings, made by a comprehension -/
/-! ### pulls by standings, any of them -/
abbrev Pl := Int × List Bool
def plO (e : Pl) : HO := .tup [.int e.1, .str (sstr e.2)]
structure PulG (H : Hp) (L : List Pl) (l : Addr) : Prop where
  h : ∃ ts : List (Addr × Pl), H l = some (.lst (ts.map fun t => V.ref t.1)) ∧ ts.map (·.2) = L ∧ ∀ t ∈ ts, H t.1 = some (plO t.2)
def LstTup : HO → Prop
  | .lst _ => True
  | .tup _ => True
  | _ => False
theorem PulG.keep {H H' : Hp} {L : List Pl} {l : Addr} (p : PulG H L l) (k : ∀ b o, LstTup o → H b = some o → H' b = some o) : PulG H' L l := by
  obtain ⟨ts, a, b, c⟩ := p.h
  exact ⟨⟨ts, k _ _ True.intro a, b, fun t ht => k _ _ True.intro (c t ht)⟩⟩
theorem PulG.same {H H' : Hp} {L : List Pl} {l : Addr} (p : PulG H L l) (s : Same H H') : PulG H' L l := p.keep fun b o _ e => s b o e
theorem lstTup_ne {H : Hp} {D b : Addr} {o u : HO} (hD : H D = some u) (hu : ¬ LstTup u) (t : LstTup o) (e : H b = some o) : b ≠ D := fun z => by
  subst z
  rw [e] at hD
  injection hD with hD
  exact hu (hD ▸ t)
theorem PulG.upd {H : Hp} {L : List Pl} {l D : Addr} {o u : HO} (p : PulG H L l) (hD : H D = some u) (hu : ¬ LstTup u) : PulG (upd H D o) L l := p.keep fun b z t e => by
  rw [upd_ne (lstTup_ne hD hu t e)]
  exact e
def PulsG (H : Hp) (rs : List (List Bool)) (F : List Bool → List Pl) (f : List Bool → V) : Prop := ∀ st ∈ rs, ∃ l, f st = .ref l ∧ PulG H (F st) l
theorem PulsG.keep {H H' : Hp} {rs : List (List Bool)} {F : List Bool → List Pl} {f : List Bool → V} (p : PulsG H rs F f) (k : ∀ b o, LstTup o → H b = some o → H' b = some o) : PulsG H' rs F f := fun st h => by
  obtain ⟨l, e, q⟩ := p st h
  exact ⟨l, e, q.keep k⟩
theorem PulsG.same {H H' : Hp} {rs : List (List Bool)} {F : List Bool → List Pl} {f : List Bool → V} (p : PulsG H rs F f) (s : Same H H') : PulsG H' rs F f := p.keep fun b o _ e => s b o e
theorem PulsG.upd {H : Hp} {rs : List (List Bool)} {F : List Bool → List Pl} {f : List Bool → V} {D : Addr} {o u : HO} (p : PulsG H rs F f) (hD : H D = some u) (hu : ¬ LstTup u) : PulsG (upd H D o) rs F f := p.keep fun b z t e => by
  rw [upd_ne (lstTup_ne hD hu t e)]
  exact e
def allP (bs : List Bar) (st : List Bool) : List Pl := (freeL bs st).map fun d => (d, flip st d)
/-- the standings are closed under the pulls F -/
structure Clo (rs : List (List Bool)) (F : List Bool → List Pl) : Prop where
  nd : rs.Nodup
  few : rs.length ≤ 128
  ex : ∀ st ∈ rs, ∀ e ∈ F st, e.2 ∈ rs
  fewP : ∀ st ∈ rs, (F st).length ≤ 7
theorem Reach.clo {bs : List Bar} {n : Nat} {rs : List (List Bool)} (R : Reach bs n rs) (n7 : n ≤ 7) : Clo rs (allP bs) := by
  refine ⟨R.nd, R.few, fun st h e he => ?_, fun st h => ?_⟩
  · obtain ⟨d, hd, rfl⟩ := List.mem_map.mp he
    exact R.ex st h d hd
  · unfold allP
    rw [List.length_map]
    have := free_len bs st
    have := R.len st h
    omega
theorem Clo.filter {rs : List (List Bool)} {F : List Bool → List Pl} (C : Clo rs F) (q : List Bool → Pl → Bool) : Clo rs fun st => (F st).filter (q st) := by
  refine ⟨C.nd, C.few, fun st h e he => C.ex st h e (List.mem_filter.mp he).1, fun st h => ?_⟩
  exact Nat.le_trans (List.length_filter_le _ _) (C.fewP st h)
end DL

set_option Elab.async false
set_option maxRecDepth 100000
set_option maxHeartbeats 2000000
namespace DL
open PySem L2 HT TL RZ
/-! ### the first row that ends in none of told standings -/
def txS (S : List (List Bool)) : List V := (S.map sstr).map V.str
theorem txS_len (S : List (List Bool)) : (txS S).length = S.length := by unfold txS; rw [List.length_map, List.length_map]
theorem txS_snoc (S : List (List Bool)) (st : List Bool) : txS (S ++ [st]) = txS S ++ [V.str (sstr st)] := by
  unfold txS
  rw [List.map_append, List.map_append]
  rfl
def tTruthS (K : PySem.W.Frag) (ta : TE) : TT := fun σ H Q => ta σ H fun x H' => ∃ k, TruV K x H' k ∧ Q k H'
theorem pt_truthS {X : Cx} {K : PySem.W.Frag} {a : Expr} {ta : TE} (hK : X.K = K) (ha : PE X a ta) (he : ∀ whole, isTrue a X.env whole = (do let v ← whole; standAt a.pos; holding [v] (truthy v)) := by intro _; rfl) : PT X a (tTruthS K ta) := by subst hK; exact pt_truth ha he
section
variable {P : Program} {w : World} {K : PySem.W.Frag} {mg : Str → Option Value} {base : Heap}
/-- at D: for each standing a list of its own of those ahead of it -/
structure AheadAt (H0 H : Hp) (D : Addr) (rs : List (List Bool)) (A : List Bool → List (List Bool)) (a : List Bool → Addr) : Prop where
  d : H D = some (.dK (tabV rs fun st => .ref (a st)))
  el : ∀ st ∈ rs, H (a st) = some (.lst (txS (A st)))
  inj : ∀ x ∈ rs, ∀ y ∈ rs, a x = a y → x = y
  new : ∀ st ∈ rs, H0 (a st) = none
theorem AheadAt.same {H0 H H' : Hp} {D : Addr} {rs : List (List Bool)} {A : List Bool → List (List Bool)} {a : List Bool → Addr} (p : AheadAt H0 H D rs A a) (s : Same H H') : AheadAt H0 H' D rs A a :=
  ⟨s _ _ p.d, fun st h => s _ _ (p.el st h), p.inj, p.new⟩
theorem tab_congr {rs : List (List Bool)} {f g : List Bool → V} (h : ∀ st ∈ rs, f st = g st) : tabV rs f = tabV rs g := List.map_congr_left fun st hs => by rw [h st hs]
theorem txS_eq (S : List (List Bool)) : txS S = S.map fun st => V.str (sstr st) := by unfold txS; rw [List.map_map]; rfl
theorem AheadAt.push {H0 H : Hp} {D : Addr} {rs : List (List Bool)} {A : List Bool → List (List Bool)} {a : List Bool → Addr} (p : AheadAt H0 H D rs A a) {x : List Bool} (hx : x ∈ rs) (s : List Bool) :
    AheadAt H0 (upd H (a x) (.lst (txS (A x) ++ [.str (sstr s)]))) D rs (fun z => if z = x then A z ++ [s] else A z) a := by
  refine ⟨?_, fun st h => ?_, p.inj, p.new⟩
  · rw [upd_ne (ne_of p.d (p.el x hx) (by intro z; cases z))]
    exact p.d
  · by_cases e : st = x
    · subst e
      rw [upd_same]
      show _ = some (HO.lst (txS (if st = st then A st ++ [s] else A st)))
      rw [if_pos rfl, txS_snoc]
    · have ne : a st ≠ a x := fun z => e (p.inj st h x hx z)
      rw [upd_ne ne, p.el st h]
      show _ = some (HO.lst (txS (if st = x then A st ++ [s] else A st)))
      rw [if_neg e]
theorem nd_le {α : Type} [DecidableEq α] : ∀ {L rs : List α}, L.Nodup → (∀ x ∈ L, x ∈ rs) → L.length ≤ rs.length
  | [], _, _, _ => Nat.zero_le _
  | a :: L, rs, nd, h => by
    rw [List.nodup_cons] at nd
    have ha := h a List.mem_cons_self
    have := nd_le (rs := rs.erase a) nd.2 fun x hx => (List.mem_erase_of_ne (fun e : x = a => nd.1 (by rw [← e]; exact hx))).mpr (h x (List.mem_cons_of_mem _ hx))
    rw [List.length_erase_of_mem ha] at this
    have : 0 < rs.length := List.length_pos_of_mem ha
    rw [List.length_cons]
    omega
def muL (d q : Addr) (H : Hp) : Nat := 2 * (128 - (match H d with | some (.dK kvs) => kvs.length | _ => 0)) + (match H q with | some (.lst xs) => xs.length | _ => 0)
theorem muL_of {d q : Addr} {H : Hp} {kvs : List (Key × V)} {xs : List V} (h1 : H d = some (.dK kvs)) (h2 : H q = some (.lst xs)) : muL d q H = 2 * (128 - kvs.length) + xs.length := by unfold muL; rw [h1, h2]
end
end DL

set_option Elab.async false
set_option maxRecDepth 100000
set_option maxHeartbeats 1000000

set_option Elab.async false
set_option maxRecDepth 100000
set_option maxHeartbeats 1000000
namespace DL
open PySem L2 HT TL RZ
/-! ### the law's tables -/
theorem iSeq_at {K : PySem.W.Frag} {α : Type} {l : List α} {f : α → V} {q : Addr} {i : Nat} {σ : L2.St} {H : Hp} {R : It → Hp → Prop} (hi : σ[i]? = some (some (.ref q))) (S : SqA K H q (l.map f))
    (h : ∀ (J : It) (Gd : Hp → Prop) (Y : Nat → Hp → V → Hp → Prop), Walk J l.length Gd Y → (∀ H', Same H H' → Gd H') → (∀ i H1 x H', Y i H1 x H' → H' = H1 ∧ ∃ z, l[i]? = some z ∧ x = f z) → R J H) : iSeq K (tVar i) σ H R := by
  refine ⟨_, hi, q, rfl, ?_⟩
  rcases S with S | S
  · exact .inl ⟨⟨_, S⟩, h _ _ _ (walk_lst (K := K) (a := q) (l := l) (f := f)) (fun H' s => s.seq S) fun _ _ _ _ y => y⟩
  · exact .inr ⟨⟨_, S⟩, h _ _ _ (walk_bars (K := K) (a := q) (l := l) (f := f)) (fun H' s => SqT.same s S) fun _ _ _ _ y => y⟩
def iJ (J : It) : TI := fun _ H R => R J H
theorem for_itJ {J : It} {n : Nat} {Gd : Hp → Prop} {Y : Nat → Hp → V → Hp → Prop} {g : TG} {tb : TS} {D : Ends} {σ : L2.St} {H : Hp} (wk : Walk J n Gd Y) (Pv : Nat → L2.St → Hp → Prop) (p0 : Pv 0 σ H) (pG : ∀ i σ' H', i ≤ n → Pv i σ' H' → Gd H')
    (ps : ∀ i x σ' H1 H2, i < n → Pv i σ' H1 → Y i H1 x H2 → g x σ' H2 fun σ3 H3 => tb { D with nx := Pv (i + 1), ct := Pv (i + 1), bk := D.nx } σ3 H3) (pd : ∀ σ' H', Pv n σ' H' → D.nx σ' H') : tFor (iJ J) g tb D σ H :=
  for_it wk Pv p0 pG ps pd
end DL

set_option Elab.async false
set_option maxRecDepth 100000
namespace DL
open PySem L2 HT TL
/-! ### comprehensions over a list or tuple alike, in whatever place they stand -/
theorem seq_lc {K : PySem.W.Frag} {α : Type} {l : List α} {f : α → V} {q : Addr} {i : Nat} {g : TG} {tt : TT} {te : TE} {vs : List Nat} {σ : L2.St} {H : Hp} {Q : VK} (hi : σ[i]? = some (some (.ref q))) (S : SqA K H q (l.map f))
    (h : ∀ (J : It) (Gd : Hp → Prop) (Y : Nat → Hp → V → Hp → Prop), Walk J l.length Gd Y → (∀ H', Same H H' → Gd H') → (∀ i H1 x H', Y i H1 x H' → H' = H1 ∧ ∃ z, l[i]? = some z ∧ x = f z) → lcC J g tt te vs σ Q H) : tLc (iSeq K (tVar i)) g tt te vs σ H Q :=
  iSeq_at hi S fun J Gd Y wk hG hY => h J Gd Y wk hG hY
theorem lcC_pick {α : Type} {J : It} {n : Nat} {G : Hp → Prop} {Y : Nat → Hp → V → Hp → Prop} (wk : Walk J n G Y) (l : List α) (hl : l.length = n) (hn : n ≤ 3000) (p : α → Bool) (v : α → V) {g : TG} {tt : TT} {te : TE} {vs : List Nat} {σ : L2.St} {H1 : Hp} {Q : VK}
    (hG : ∀ H, Same H1 H → G H)
    (hs : ∀ i x z H H' (Tk : V → Hp → Prop) (Nk : Hp → Prop), l[i]? = some z → Same H1 H → Y i H x H' → (∀ H4, p z = true → Same H H4 → Tk (v z) H4) → (∀ H4, p z = false → Same H H4 → Nk H4) →
      g x (wipe σ vs) H' fun σ2 H2 => wipe σ2 vs = wipe σ vs ∧ tt σ2 H2 fun b H3 => if b = true then te σ2 H3 Tk else Nk H3)
    (hd : ∀ D H, H1 D = none → Same H1 H → H D = some (.lst ((l.filter p).map v)) → Q (.ref D) H) : lcC J g tt te vs σ Q H1 :=
  fun D hD => lc_pick wk l hl hn p v hD hG hs fun H s h => hd D H hD s h
theorem lcC_it {J : It} {n : Nat} {G : Hp → Prop} {Y : Nat → Hp → V → Hp → Prop} (wk : Walk J n G Y) {g : TG} {tt : TT} {te : TE} {vs : List Nat} {σ : L2.St} {H1 : Hp} {Q : VK} (Pv : Addr → Nat → Hp → Prop) (h0 : ∀ D, H1 D = none → Pv D 0 (upd H1 D (.lst []))) (hG : ∀ D i H, i ≤ n → Pv D i H → G H)
    (hs : ∀ D i x H H', H1 D = none → i < n → Pv D i H → Y i H x H' → g x (wipe σ vs) H' fun σ2 H2 => wipe σ2 vs = wipe σ vs ∧ tt σ2 H2 fun b H3 => if b = true then te σ2 H3 fun y H4 => ∃ acc, H4 D = some (.lst acc) ∧ acc.length < sizeLine ∧ Pv D (i + 1) (upd H4 D (.lst (acc ++ [y]))) else Pv D (i + 1) H3)
    (hd : ∀ D H, H1 D = none → Pv D n H → Q (.ref D) H) : lcC J g tt te vs σ Q H1 :=
  fun D hD => lc_it wk (Pv D) (h0 D hD) (hG D) (fun i x H H' hi p y => hs D i x H H' hD hi p y) fun H p => hd D H hD p
theorem not_any_lc {r : List V → Hp → VK → Prop} {wi : TI} {g : TG} {tt : TT} {te : TE} {vs : List Nat} {σ : L2.St} {H : Hp} {Q : Bool → Hp → Prop} (h : tLc wi g tt te vs σ H fun x H1 => r [x] H1 fun x H1 => ∃ c, x = .bl c ∧ Q (!c) H1) : tNot (tB (tCB r (tCons (tLc wi g tt te vs) tNil))) σ H Q := h
theorem name_go {i : Nat} {v : V} {σ : L2.St} {H : Hp} {Q : L2.St → Hp → Prop} (h : Q (σ.set i (some v)) H) : gName i v σ H Q := h
end DL

set_option Elab.async false
set_option maxRecDepth 100000
set_option maxHeartbeats 2000000
set_option linter.all false
namespace DL
open PySem PySem.Spec PyProof.Rows L2
/-! ### comprehensions of as many clauses as there are: the loops -/
abbrev compE (st : Bool) (elt : Expr) (gens : List Comprehension) (scope : Scope) (pos : Pos) : Expr := match st with
  | false => .ListComp elt gens scope pos
  | true => .SetComp elt gens scope pos
def emitN (st : Bool) (elt : Expr) (acc : Value) (env : Env) : Sem Unit := match st with
  | false => do let _ ← call (.builtin "list.append") [acc, ← eval elt env]
  | true => do let v ← eval elt env; standAt elt.pos; let _ ← call (.builtin "set.add") [acc, v]
def deeper (e : Expr) (d : Nat) (g' : Comprehension) (acc : Value) (env : Env) : Sem Unit := do
  let x ← eval g'.iter env
  standAt g'.iter.pos
  let x ← foldedSetIterable g'.iter env x
  let _ ← runOwn (.compStart e d (← holding [x] (pyIter x)) acc env) env
def bodyN (st : Bool) (elt : Expr) (gens : List Comprehension) (scope : Scope) (pos : Pos) (d : Nat) (acc : Value) (env : Env) : Sem Unit := match gens[d]? with
  | some g' => deeper (compE st elt gens scope pos) d g' acc env
  | none => emitN st elt acc env
theorem turnN_eq {st : Bool} {elt t i : Expr} {ifs : List Expr} {gens : List Comprehension} {scope : Scope} {pos : Pos} {d : Nat} {it acc : Value} {env : Env} (h : gens[d]? = some ⟨t, i, ifs, 0⟩) (h0 : ∀ g', gens[d + 1]? = some g' → g'.is_async = 0) :
    compTurn (compE st elt gens scope pos) d it acc env = (do
      standAt i.pos
      match ← pyNext it with
      | none => pure (.done .next)
      | some v =>
        letOwnedTupleGo t it v
        assign t env v
        let mut ok := true
        for c in ifs do
          if ok then ok ← isTrue c env (eval c env)
        if ok then bodyN st elt gens scope pos (d + 1) acc env
        again (.compLoop (compE st elt gens scope pos) d it acc env)) := by
  cases h2 : gens[d + 1]? with
  | none =>
    have eb : bodyN st elt gens scope pos (d + 1) acc env = emitN st elt acc env := by unfold bodyN; rw [h2]
    rw [eb]
    cases st
    · unfold compTurn compE emitN
      simp only [h, h2, bind_assoc]
      rfl
    · unfold compTurn compE emitN
      simp only [h, h2, bind_assoc]
      rfl
  | some g' =>
    have eb : bodyN st elt gens scope pos (d + 1) acc env = deeper (compE st elt gens scope pos) (d + 1) g' acc env := by unfold bodyN; rw [h2]
    rw [eb]
    have h3 := h0 g' h2
    obtain ⟨t', i', ifs', a'⟩ := g'
    have h3 : a' = 0 := h3
    subst h3
    cases st
    · unfold compTurn compE deeper
      simp only [h, h2, bind_assoc]
      rfl
    · unfold compTurn compE deeper
      simp only [h, h2, bind_assoc]
      rfl
section
variable {prog : Program} {w : World} {A : Around} {R : Result → Shared → Prop} {s : Shared} {st : Bool} {elt t i : Expr} {ifs : List Expr} {gens : List Comprehension} {scope : Scope} {pos : Pos} {d : Nat} {it acc : Value} {env : Env}
theorem loopN (hg : gens[d]? = some ⟨t, i, ifs, 0⟩) (hg0 : ∀ g', gens[d + 1]? = some g' → g'.is_async = 0) (I : Nat → Shared → Prop)
    (turn : ∀ n s, I n s → wpAny (model prog w) A (pyNext it) (fun r s1 => match r with
      | none => R (.ok .next) s1
      | some v => wpAny (model prog w) A (letOwnedTupleGo t it v) (fun _ s2 => wpAny (model prog w) A (assign t env v) (fun _ s3 =>
          wpAny (model prog w) A (forIn ifs true fun c r => if r = true then do let ok ← isTrue c env (eval c env); pure (ForInStep.yield ok) else pure (ForInStep.yield r)) (fun ok s4 =>
            if ok = true then wpAny (model prog w) A (bodyN st elt gens scope pos (d + 1) acc env) (fun _ s5 => ∃ m, m < n ∧ I m s5) (fun _ _ => False) s4
            else ∃ m, m < n ∧ I m s4) (fun _ _ => False) s3) (fun _ _ => False) s2) (fun _ _ => False) s1) (fun _ _ => False) s)
    (n : Nat) (h : I n s) : codeAny (model prog w) A (.compLoop (compE st elt gens scope pos) d it acc env) R s := by
  have no : ∀ {α : Type} {m : Sem α} {Q Q' : α → Shared → Prop} {E' : Value → Shared → Prop} {s' : Shared}, wpAny (model prog w) A m Q (fun _ _ => False) s' → (∀ a z, Q a z → Q' a z) → wpAny (model prog w) A m Q' E' s' := fun q f => wpAny_mono q f fun _ _ z => z.elim
  refine codeAny_loop rfl I (fun n s hI => ?_) n h
  suffices key : wpAny (model prog w) A ((compTurn (compE st elt gens scope pos) d it acc env).onRaise (fun x => do noteFrame x env; theTreesLotGoes x)) (fun fin s' => match fin with
      | .done f => R (.ok f) s'
      | .again c' => c' = .compLoop (compE st elt gens scope pos) d it acc env ∧ ∃ m, m < n ∧ I m s') (fun e s' => R (.error e) s') s by cases st <;> exact key
  refine wpAny_noted ?_
  rw [turnN_eq hg hg0]
  refine wpAny_bind (wpAny_standAt (wpAny_bind (no (turn n s hI) fun r s1 h1 => ?_)))
  cases r with
  | none => exact wpAny_pure h1
  | some v =>
    refine wpAny_bind (no h1 fun _ s2 h2 => wpAny_bind (no h2 fun _ s3 h3 => wpAny_bind (no h3 fun ok s4 h4 => ?_)))
    cases ok with
    | false => exact wpAny_pure ⟨rfl, h4⟩
    | true =>
      rw [if_pos rfl] at h4 ⊢
      exact wpAny_bind (no h4 fun _ s5 h5 => wpAny_pure ⟨rfl, h5⟩)
theorem startN (hg : gens[d]? = some ⟨t, i, ifs, 0⟩) (h0 : codeAny (model prog w) A (.compLoop (compE st elt gens scope pos) d it acc env) R s)
    (h : wpAny (model prog w) A (pyIter it) (fun it' s' => codeAny (model prog w) A (.compLoop (compE st elt gens scope pos) d it' acc env) R s') (fun _ _ => False) s) :
    codeAny (model prog w) A (.compStart (compE st elt gens scope pos) d it acc env) R s := by
  have no : ∀ {α : Type} {m : Sem α} {Q Q' : α → Shared → Prop} {E' : Value → Shared → Prop} {s' : Shared}, wpAny (model prog w) A m Q (fun _ _ => False) s' → (∀ a z, Q a z → Q' a z) → wpAny (model prog w) A m Q' E' s' := fun q f => wpAny_mono q f fun _ _ z => z.elim
  have ec : (clausesOf (compE st elt gens scope pos))[d]? = some ⟨t, i, ifs, 0⟩ := by cases st <;> exact hg
  refine codeAny_of_tree ?_
  suffices key : wpAny (model prog w) A ((compStart (compE st elt gens scope pos) d it acc env).onRaise (fun x => do noteFrame x env; standAt theWindowsPlace)) (fun fin s' => match fin with
      | .done f => R (.ok f) s'
      | .again c' => c'.quiet = true ∧ codeAny (model prog w) A c' R s') (fun e s' => R (.error e) s') s by cases st <;> exact key
  refine wpAny_notedAt ?_
  unfold compStart
  rw [ec]
  show wpAny _ _ (ask >>= _) _ _ s
  refine wpAny_bind (wpAny_askSetting (wpAny_ite ?_))
  split
  · first
      | exact wpAny_bind (wpAny_pure (wpAny_pure (And.intro rfl h0)))
      | exact wpAny_pure (And.intro rfl h0)
  · refine wpAny_bind (wpAny_rule ?_)
    show wpAny _ _ (standAt i.pos >>= _) _ _ s
    exact wpAny_bind (wpAny_standAt (wpAny_bind (no h fun it' s' h' => wpAny_pure (And.intro rfl h'))))
/-- one clause further in -/
theorem deeperN (hg : gens[d]? = some ⟨t, i, ifs, 0⟩) (hs : ∀ x, foldedSetIterable i env x = pure x) {Q : Unit → Shared → Prop} {E : Value → Shared → Prop}
    (h : wpAny (model prog w) A (eval i env) (fun x s1 => wpAny (model prog w) A (pyIter x) (fun it1 s2 => codeAny (model prog w) A (.compStart (compE st elt gens scope pos) d it1 acc env) (fun r s' => match r with
      | .ok _ => Q () s'
      | .error _ => False) s2) (fun _ _ => False) s1) (fun _ _ => False) s) :
    wpAny (model prog w) A (bodyN st elt gens scope pos d acc env) Q E s := by
  have no : ∀ {α : Type} {m : Sem α} {Q Q' : α → Shared → Prop} {E' : Value → Shared → Prop} {s' : Shared}, wpAny (model prog w) A m Q (fun _ _ => False) s' → (∀ a z, Q a z → Q' a z) → wpAny (model prog w) A m Q' E' s' := fun q f => wpAny_mono q f fun _ _ z => z.elim
  unfold bodyN
  rw [hg]
  show wpAny _ _ (deeper _ d ⟨t, i, ifs, 0⟩ acc env) _ _ s
  unfold deeper
  refine wpAny_bind (no h fun x s1 h1 => ?_)
  refine wpAny_bind (wpAny_standAt (wpAny_bind (wpAny_of_eq (hs x) (wpAny_bind (wpAny_holding (no h1 fun it1 s2 h2 => ?_))))))
  refine wpAny_bind (wpAny_runOwn ?_)
  rw [Around.mark_none]
  refine codeAny_mono h2 fun r s' hr => ?_
  cases r with
  | ok f => exact wpAny_pure hr
  | error e => exact hr.elim
theorem emitL (hn : gens[d]? = none) {Q : Unit → Shared → Prop} {E : Value → Shared → Prop}
    (h : wpAny (model prog w) A (eval elt env) (fun x s1 => wpAny (model prog w) A (call (.builtin "list.append") [acc, x]) (fun _ s2 => Q () s2) (fun _ _ => False) s1) (fun _ _ => False) s) :
    wpAny (model prog w) A (bodyN false elt gens scope pos d acc env) Q E s := by
  have no : ∀ {α : Type} {m : Sem α} {Q Q' : α → Shared → Prop} {E' : Value → Shared → Prop} {s' : Shared}, wpAny (model prog w) A m Q (fun _ _ => False) s' → (∀ a z, Q a z → Q' a z) → wpAny (model prog w) A m Q' E' s' := fun q f => wpAny_mono q f fun _ _ z => z.elim
  unfold bodyN
  rw [hn]
  exact wpAny_bind (no h fun x s1 h1 => wpAny_bind (no h1 fun _ s2 h2 => wpAny_pure h2))
end
end DL

set_option Elab.async false
set_option maxRecDepth 100000
set_option maxHeartbeats 2000000
set_option linter.all false
namespace DL
open PySem PySem.Spec PyProof.Rows L2
/-! ### comprehensions of as many clauses as there are: how they are read -/
structure ClauseN where
  wi : TI
  g : TG
  tt : TT
  vs : List Nat
def inN (el : L2.St → Hp → (Hp → Prop) → Prop) : List ClauseN → L2.St → Hp → (Hp → Prop) → Prop
  | [], σ, H, Nx => el σ H Nx
  | c :: cs, σ, H, Nx => c.wi σ H fun J H4 => ∃ W : Nat → Nat → Hp → Prop, (∃ m, W 0 m H4) ∧ ∀ j k H, W j k H →
      (J.stop j H ∧ Nx H) ∨ (J.go j H ∧ ∃ Ny : Hp → Prop, (∀ H', Ny H' → ∃ k', k' < k ∧ W (j + 1) k' H') ∧ ∀ x H', J.yld j H x H' → c.g x (wipe σ c.vs) H' fun σ3 H5 => wipe σ3 c.vs = wipe σ c.vs ∧ c.tt σ3 H5 fun b H6 =>
        if b = true then inN el cs σ3 H6 Ny else Ny H6)
def ClOk (Y : Cx) : List Comprehension → List ClauseN → Prop
  | [], [] => True
  | g :: gs, c :: cs => g.is_async = 0 ∧ PI Y g.target g.iter c.wi ∧ PG Y g.target c.g ∧ PTs Y g.ifs c.tt ∧ (∀ x, foldedSetIterable g.iter Y.env x = pure x) ∧ ClOk Y gs cs
  | _, _ => False
def hv : List ClauseN → List Nat
  | [] => []
  | c :: _ => c.vs
def Nested : List ClauseN → Prop
  | [] => True
  | c :: cs => (∀ i ∈ hv cs, i ∈ c.vs) ∧ Nested cs
theorem ClOk.plain {Y : Cx} : ∀ {gs : List Comprehension} {cs : List ClauseN}, ClOk Y gs cs → ∀ g ∈ gs, g.is_async = 0
  | [], _, _, g, h => by cases h
  | a :: gs, [], h, g, _ => h.elim
  | a :: gs, c :: cs, h, g, hg => by
    rcases List.mem_cons.mp hg with rfl | hg
    · exact h.1
    · exact ClOk.plain h.2.2.2.2.2 g hg
section
variable {Y : Cx} {st : Bool} {elt : Expr} {gens : List Comprehension} {scope : Scope} {pos : Pos} {D : Addr} {el : L2.St → Hp → (Hp → Prop) → Prop}
theorem innerN (hc : Y.calm = true) (hx : Y.xe = fun _ _ => False) (hp : ∀ g ∈ gens, g.is_async = 0)
    (emit : ∀ (d : Nat) (pins : List (Addr × Obj)) (σ : L2.St) (s : Shared) (H : Hp) (Nx : Hp → Prop), gens[d]? = none → Inv Y pins σ H s → el σ H Nx →
      wpAny (model Y.prog Y.w) Y.A (bodyN st elt gens scope pos d (.ref D) Y.env) (fun _ s' => ∃ H', Inv Y pins σ H' s' ∧ Nx H') (fun _ _ => False) s) :
    ∀ (gs : List Comprehension) (cs : List ClauseN) (d : Nat), gens.drop d = gs → ClOk Y gs cs → Nested cs → ∀ (pins : List (Addr × Obj)) (σ : L2.St) (s : Shared) (H : Hp) (Nx : Hp → Prop), Inv Y pins σ H s → inN el cs σ H Nx →
      wpAny (model Y.prog Y.w) Y.A (bodyN st elt gens scope pos d (.ref D) Y.env) (fun _ s' => ∃ σ' H', Inv Y pins σ' H' s' ∧ σ'.length = σ.length ∧ (∀ (j : Nat) v, j ∉ hv cs → σ[j]? = some (some v) → σ'[j]? = some (some v)) ∧ Nx H') (fun _ _ => False) s
  | [], [], d, hd, _, _, pins, σ, s, H, Nx, I, h => by
    have hn : gens[d]? = none := List.getElem?_eq_none_iff.mpr (List.drop_eq_nil_iff.mp hd)
    exact thnF (emit d pins σ s H Nx hn I h) fun _ s' ⟨H', I', q⟩ => ⟨σ, H', I', rfl, fun j v _ e => e, q⟩
  | [], c :: cs, d, hd, ok, _, _, _, _, _, _, _, _ => ok.elim
  | g :: gs, [], d, hd, ok, _, _, _, _, _, _, _, _ => ok.elim
  | g :: gs, c :: cs, d, hd, ok, nest, pins, σ, s, H, Nx, I, h => by
    obtain ⟨a0, hi, hg, ht, hf, ok'⟩ := ok
    obtain ⟨t, i, ifs, a⟩ := g
    have a0 : a = 0 := a0
    subst a0
    have gd : gens[d]? = some ⟨t, i, ifs, 0⟩ := by
      have := congrArg (fun l => l[0]?) hd
      rw [List.getElem?_drop] at this
      exact this
    have hd' : gens.drop (d + 1) = gs := by
      rw [← List.drop_drop, hd]
      rfl
    have hp' : ∀ g', gens[d + 1]? = some g' → g'.is_async = 0 := fun g' h' => hp g' (List.mem_of_getElem? h')
    have thX : ∀ {α : Type} {m : Sem α} {Q Q' : α → Shared → Prop} {s' : Shared}, wpAny (model Y.prog Y.w) Y.A m Q Y.xe s' → (∀ a z, Q a z → Q' a z) → wpAny (model Y.prog Y.w) Y.A m Q' (fun _ _ => False) s' := fun q f => by
      rw [hx] at q
      exact thnF q f
    refine deeperN gd hf (thX (hi.run pins s σ H _ I h) fun xv s1 hxv => thX hxv fun itv s2 h2 => ?_)
    obtain ⟨it1, fp1, tn1, J1, H2, e1, I2, T1, st2, f2, W1, ⟨m1, w1⟩, turn1⟩ := h2
    subst e1
    have stat1 : ∀ {H' : Hp}, (∀ b ∈ fp1, H' b = none) → ∀ b ∈ fp1, FpOk Y pins H' b := fun hn b hb => ⟨hn b hb, (f2 b hb).2⟩
    have loop1 : codeAny (model Y.prog Y.w) Y.A (.compLoop (compE st elt gens scope pos) d (.ref it1) (.ref D) Y.env) (fun r s' => match r with
        | .ok _ => ∃ σ' H', Inv Y pins σ' H' s' ∧ σ'.length = σ.length ∧ (∀ (j : Nat) v, j ∉ hv (c :: cs) → σ[j]? = some (some v) → σ'[j]? = some (some v)) ∧ Nx H'
        | .error _ => False) s2 := by
      refine loopN gd hp' (fun k s' => ∃ j H', Inv Y pins (wipe σ c.vs) H' s' ∧ tn1 j s'.heap ∧ (∀ b ∈ fp1, H' b = none) ∧ W1 j k H') ?_ m1 ⟨0, H2, I2.weak (wipe_length _ _) (fun j v e => (wipe_some e).1), st2, fun b hb => (f2 b hb).1, w1⟩
      rintro k s3 ⟨j, H3, I3, st3, n3, w3⟩
      rcases turn1 j k H3 w3 with ⟨stop1, nx1⟩ | ⟨go1, Ny, hNy, step1⟩
      · refine thnF (T1.done Y rfl rfl rfl hc j _ s3 (wipe σ c.vs) H3 (fun _ _ => False) I3 (stat1 n3) st3 stop1) fun r s4 ⟨hr, I4⟩ => ?_
        subst hr
        refine ⟨wipe σ c.vs, H3, I4, wipe_length _ _, fun j v hj e => ?_, nx1⟩
        have hj : j ∉ c.vs := hj
        rw [wipe_out hj]
        exact e
      · refine thnF (T1.item Y rfl rfl rfl hc j _ s3 (wipe σ c.vs) H3 (fun _ _ => False) I3 (stat1 n3) st3 go1) fun r s4 ⟨u1, hr, h4⟩ => ?_
        subst hr
        refine thnF h4 fun _ s5 ⟨x1, H5, I5, r5, y5, st5, n5⟩ => ?_
        have I5' := I5.pinned (stat1 n5) (T1.obj _ _ st5)
        refine thX (hg.run _ s5 (wipe σ c.vs) H5 x1 u1 _ I5' r5 (step1 x1 H5 y5)) fun _ s6 ⟨σ6, H6, I6, hw6, q6⟩ => ?_
        refine thX (ht.run _ s6 σ6 H6 _ I6 q6) fun b1 s7 ⟨H7, I7, q7⟩ => ?_
        have fin1 : ∀ {s' : Shared} {H' : Hp} {σ' : L2.St}, Inv Y (pins ++ pinsAt fp1 s5.heap) σ' H' s' → σ'.length = σ6.length → (∀ (j : Nat) v, j ∉ c.vs → σ6[j]? = some (some v) → σ'[j]? = some (some v)) → Ny H' → ∃ m, m < k ∧ ∃ j H', Inv Y pins (wipe σ c.vs) H' s' ∧ tn1 j s'.heap ∧ (∀ b ∈ fp1, H' b = none) ∧ W1 j m H' := fun {s' H' σ'} I' el' ek' nx => by
          obtain ⟨m', hm, w'⟩ := hNy H' nx
          have pin' : ∀ b ∈ fp1, ∀ o, s5.heap.get? b = some o → s'.heap.get? b = some o ∧ H' b = none := fun b hb o e =>
            let z := I'.pin (b, o) (List.mem_append_right _ (List.mem_append_right _ (mem_pinsAt hb e)))
            ⟨z.1, z.2.1⟩
          refine ⟨m', hm, j + 1, H', I'.unpinned.weak (by rw [el', ← hw6, wipe_length]) (fun j v e => by
            rw [← hw6] at e
            obtain ⟨e1, e2⟩ := wipe_some e
            exact ek' j v e2 e1), T1.keep _ _ _ st5 fun b hb o e => (pin' b hb o e).1, fun b hb => ?_, w'⟩
          obtain ⟨o, e, _⟩ := T1.obj _ _ st5 b hb
          exact (pin' b hb o e).2
        cases b1 with
        | false =>
          simp only [Bool.false_eq_true, if_false] at q7 ⊢
          exact fin1 I7 rfl (fun j v _ e => e) q7
        | true =>
          simp only [if_true] at q7 ⊢
          refine thnF (innerN hc hx hp emit gs cs (d + 1) hd' ok' nest.2 _ σ6 s7 H7 Ny I7 q7) fun _ s8 ⟨σ8, H8, I8, l8, k8, nx⟩ => ?_
          exact fin1 I8 l8 (fun j v hj e => k8 j v (fun z => hj (nest.1 j z)) e) nx
    exact startN gd loop1 (T1.self Y.A 0 _ _ _ st2 loop1)
end
end DL

set_option Elab.async false
set_option maxRecDepth 100000
set_option maxHeartbeats 4000000
set_option linter.all false
namespace DL
open PySem PySem.Spec PyProof.Rows L2
/-- the first clause's walk, D the new list or set, that stands in Hn -/
def ReadN (J : It) (Hn : Hp) (g : TG) (tt : TT) (el : L2.St → Hp → (Hp → Prop) → Prop) (cs : List ClauseN) (vs : List Nat) (σ : L2.St) (Qd : Hp → Prop) : Prop :=
  ∃ W : Nat → Nat → Hp → Prop, (∃ m, W 0 m Hn) ∧ ∀ i m H, W i m H → (J.stop i H ∧ Qd H) ∨ (J.go i H ∧ ∃ Nx : Hp → Prop, (∀ H', Nx H' → ∃ m', m' < m ∧ W (i + 1) m' H') ∧ ∀ x H', J.yld i H x H' → g x (wipe σ vs) H' fun σ2 H2 => wipe σ2 vs = wipe σ vs ∧ tt σ2 H2 fun b H3 =>
    if b = true then inN el cs σ2 H3 Nx else Nx H3)
section
variable {X : Cx}
theorem coreN {st : Bool} {elt tg iter : Expr} {ifs : List Expr} {gs : List Comprehension} {scope : Scope} {own : List (PySem.Str × Nat)} {pos : Pos} {g : TG} {tt : TT} {cs : List ClauseN} {el : L2.St → Hp → (Hp → Prop) → Prop} {pins : List (Addr × Obj)} {σ : L2.St} {Hn : Hp} {sN : Shared} {D it : Addr} {fp : List Addr} {tn : Nat → Heap → Prop} {J : It} {Q : VK}
    (calm : X.calm = true) (nd : X.N.Nodup) (blk : BlkOk X.N X.env.scope scope own)
    (hg : ∀ (s : Shared) (H : Hp) (C : Addr) (cl : List (PySem.Str × Addr)) (fp : List Addr), PG (X.blk s H scope (compEnvC scope cl C X.env) fp) tg g)
    (ht : ∀ (s : Shared) (H : Hp) (C : Addr) (cl : List (PySem.Str × Addr)) (fp : List Addr), PTs (X.blk s H scope (compEnvC scope cl C X.env) fp) ifs tt)
    (hcs : ∀ (s : Shared) (H : Hp) (C : Addr) (cl : List (PySem.Str × Addr)) (fp : List Addr), ClOk (X.blk s H scope (compEnvC scope cl C X.env) fp) gs cs) (nest : Nested cs) (hvs : ∀ i ∈ hv cs, i ∈ own.map (·.2))
    (emit : ∀ (s : Shared) (H : Hp) (C : Addr) (cl : List (PySem.Str × Addr)) (fp : List Addr) (d : Nat) (pins : List (Addr × Obj)) (σ : L2.St) (s' : Shared) (H' : Hp) (Nx : Hp → Prop), ((⟨tg, iter, ifs, 0⟩ : Comprehension) :: gs)[d]? = none → Inv (X.blk s H scope (compEnvC scope cl C X.env) fp) pins σ H' s' → el σ H' Nx →
      wpAny (model X.prog X.w) X.A (bodyN st elt (⟨tg, iter, ifs, 0⟩ :: gs) scope pos d (.ref D) (compEnvC scope cl C X.env)) (fun _ s2 => ∃ H2, Inv (X.blk s H scope (compEnvC scope cl C X.env) fp) pins σ H2 s2 ∧ Nx H2) (fun _ _ => False) s')
    (IN : Inv X pins σ Hn sN) (T : Turn X.prog X.w X.K tg J fp it tn) (stN : tn 0 sN.heap) (fpN : ∀ b ∈ fp, FpOk X pins Hn b ∧ b < sN.heap.objs.size) (rd : ReadN J Hn g tt el cs (own.map (·.2)) σ fun H => Q (.ref D) H) :
    codeAny (model X.prog X.w) X.A (.compStart (compE st elt (⟨tg, iter, ifs, 0⟩ :: gs) scope pos) 0 (.ref it) (.ref D) (compEnvC scope (cellsFrom (sN.heap.objs.size + 1) scope.names (cloFrom X.env.cells scope.names [])) sN.heap.objs.size X.env))
      (compPost (model X.prog X.w) X.A X.xe none (EP X pins σ Q) (.ref D) sN.heap.objs.size) { sN with heap := pushCells (sN.heap.push { cls := .type "dict", data := .dict #[] }) scope.names } := by
  obtain ⟨W, ⟨m0, begin0⟩, turn⟩ := rd
  have IB := block_start IN blk nd fpN
  have G := hg sN Hn sN.heap.objs.size (cellsFrom (sN.heap.objs.size + 1) scope.names (cloFrom X.env.cells scope.names [])) fp
  have Te := ht sN Hn sN.heap.objs.size (cellsFrom (sN.heap.objs.size + 1) scope.names (cloFrom X.env.cells scope.names [])) fp
  have Ok := hcs sN Hn sN.heap.objs.size (cellsFrom (sN.heap.objs.size + 1) scope.names (cloFrom X.env.cells scope.names [])) fp
  have Em := emit sN Hn sN.heap.objs.size (cellsFrom (sN.heap.objs.size + 1) scope.names (cloFrom X.env.cells scope.names [])) fp
  have locals : (compEnvC scope (cellsFrom (sN.heap.objs.size + 1) scope.names (cloFrom X.env.cells scope.names [])) sN.heap.objs.size X.env).locals = sN.heap.objs.size := rfl
  generalize compEnvC scope (cellsFrom (sN.heap.objs.size + 1) scope.names (cloFrom X.env.cells scope.names [])) sN.heap.objs.size X.env = ce at IB G Te Ok Em locals ⊢
  have noFp : ∀ b ∈ fp, Hn b = none := fun b hb => (fpN b hb).1.1
  have stB : tn 0 (pushCells (sN.heap.push { cls := .type "dict", data := .dict #[] }) scope.names) := T.keep _ _ _ stN fun b _ z e => pushCells_keeps _ _ _ _ (Heap.get?_push_of_some _ e)
  generalize eB : ({ sN with heap := pushCells (sN.heap.push { cls := .type "dict", data := .dict #[] }) scope.names } : Shared) = sB at IB ⊢
  have stB : tn 0 sB.heap := by rw [← eB]; exact stB
  have inside : ∀ {σ' : L2.St} {H' : Hp} {s' : Shared}, Inv (X.blk sN Hn scope ce fp) [] σ' H' s' → (∀ b ∈ fp, H' b = none) → ∀ b ∈ fp, FpOk (X.blk sN Hn scope ce fp) [] H' b := fun I' no b hb =>
    ⟨no b hb, (I'.ok.exf b hb).1, I'.ok.exfs b hb, .inl hb, fun x c e => (I'.ok.exf b hb).2 x c e, fun p hp => absurd (show p ∈ ([] : List (Addr × Obj)) ++ [] from hp) (by simp)⟩
  have plain : ∀ g' ∈ ((⟨tg, iter, ifs, 0⟩ : Comprehension) :: gs), g'.is_async = 0 := fun g' hg' => by
    rcases List.mem_cons.mp hg' with rfl | hg'
    · rfl
    · exact Ok.plain g' hg'
  have main : codeAny (model X.prog X.w) X.A (.compLoop (compE st elt (⟨tg, iter, ifs, 0⟩ :: gs) scope pos) 0 (.ref it) (.ref D) ce) (compPost (model X.prog X.w) X.A X.xe none (EP X pins σ Q) (.ref D) sN.heap.objs.size) sB := by
    refine loopN (gens := ⟨tg, iter, ifs, 0⟩ :: gs) (d := 0) rfl (fun g' h' => plain g' (List.mem_of_getElem? h')) (fun n s' => ∃ i H', Inv (X.blk sN Hn scope ce fp) [] (wipe σ (own.map (·.2))) H' s' ∧ tn i s'.heap ∧ (∀ b ∈ fp, H' b = none) ∧ W i n H') ?_ m0 ⟨0, Hn, IB, stB, noFp, begin0⟩
    rintro n sT ⟨i, HT, IT, stT, noT, wT⟩
    rcases turn i n HT wT with ⟨stop, qq⟩ | ⟨go, Nx, next, step⟩
    · refine thnF (T.done (X.blk sN Hn scope ce fp) rfl rfl rfl calm i [] sT _ HT (fun _ _ => False) IT (inside IT noT) stT stop) fun _ sF ⟨er, IF⟩ => ?_
      subst er
      have IO : Inv X pins σ HT sF := IN.call' (ch := fp) IF.os IF.base IF.hok IF.bare fun b hb => ⟨(fpN b hb).1.2.2.2.1, (fpN b hb).1.2.1, (fpN b hb).1.2.2.2.2.1, (fpN b hb).1.2.2.2.2.2⟩
      have noC : HT sN.heap.objs.size = none := by rw [← locals]; exact IF.free
      obtain ⟨m, ns, _⟩ := IF.loc
      have ns : sF.heap.Ns ce.locals m := ns
      rw [locals] at ns
      obtain ⟨f0, f1, f2, f3, f4, f5⟩ := IN.fpOk (Nat.le_refl _) noC
      exact ⟨m, ns, fun h'' sb => ⟨.ref D, HT, IO.turned (t' := sF.toks) (fun b z hb e => (sb.2 b hb).trans e) f0 f1 f3 f4 f5, rfl, qq⟩⟩
    · refine thnF (T.item (X.blk sN Hn scope ce fp) rfl rfl rfl calm i [] sT _ HT (fun _ _ => False) IT (inside IT noT) stT go) fun _ s5 ⟨u, er, got⟩ => ?_
      subst er
      refine thnF got fun _ s6 ⟨x, H6, I6, r6, y6, st6, no6⟩ => ?_
      have I6' := I6.pinned (inside I6 no6) (T.obj _ _ st6)
      refine thnF (G.run _ s6 _ H6 x u _ I6' r6 (step x H6 y6)) fun _ s7 ⟨σ7, H7, I7, w7, q7⟩ => ?_
      refine thnF (Te.run _ s7 σ7 H7 _ I7 q7) fun b s8 ⟨H8, I8, q8⟩ => ?_
      have close : ∀ {s' : Shared} {H' : Hp} {σ' : L2.St}, Inv (X.blk sN Hn scope ce fp) ([] ++ pinsAt fp s6.heap) σ' H' s' → σ'.length = σ7.length → (∀ (j : Nat) v, j ∉ own.map (·.2) → σ7[j]? = some (some v) → σ'[j]? = some (some v)) → Nx H' →
          ∃ m, m < n ∧ ∃ i H', Inv (X.blk sN Hn scope ce fp) [] (wipe σ (own.map (·.2))) H' s' ∧ tn i s'.heap ∧ (∀ b ∈ fp, H' b = none) ∧ W i m H' := fun {s' H' σ'} I' el' ek' nx => by
        obtain ⟨m', lt, w'⟩ := next H' nx
        have pins' : ∀ b ∈ fp, ∀ z, s6.heap.get? b = some z → s'.heap.get? b = some z ∧ H' b = none := fun b hb z e => by
          have p := I'.pin (b, z) (List.mem_append_right _ (List.mem_append_right _ (mem_pinsAt hb e)))
          exact ⟨p.1, p.2.1⟩
        have len : (wipe σ (own.map (·.2))).length = σ'.length := by rw [el', ← w7, wipe_length]
        refine ⟨m', lt, i + 1, H', (I'.unpinned (pins := [])).weak len (fun j v e => ?_), T.keep _ _ _ st6 fun b hb z e => (pins' b hb z e).1, fun b hb => ?_, w'⟩
        · rw [← w7] at e
          obtain ⟨e1, e2⟩ := wipe_some e
          exact ek' j v e2 e1
        · obtain ⟨z, e, _⟩ := T.obj _ _ st6 b hb
          exact (pins' b hb z e).2
      cases b with
      | false =>
        simp only [Bool.false_eq_true, if_false] at q8 ⊢
        exact close I8 rfl (fun j v _ e => e) q8
      | true =>
        simp only [if_true] at q8 ⊢
        refine thnF (innerN (Y := X.blk sN Hn scope ce fp) (st := st) (elt := elt) (gens := ⟨tg, iter, ifs, 0⟩ :: gs) (scope := scope) (pos := pos) (D := D) (el := el) calm rfl plain Em gs cs 1 rfl Ok nest _ σ7 s8 H8 Nx I8 q8) fun _ s9 ⟨σ9, H9, I9, l9, k9, nx⟩ => ?_
        exact close I9 l9 (fun j v hj e => k9 j v (fun z => hj (hvs j z)) e) nx
  exact startN (gens := ⟨tg, iter, ifs, 0⟩ :: gs) (d := 0) rfl main (T.self X.A 0 _ _ _ stB main)
end
end DL

set_option Elab.async false
set_option maxRecDepth 100000
set_option maxHeartbeats 4000000
namespace DL
open PySem PySem.Spec PyProof.Rows L2
/-! ### [e for .. in .. for .. in ..] -/
def elL (D : Addr) (te : TE) : L2.St → Hp → (Hp → Prop) → Prop := fun σ H Nx => te σ H fun y H7 => ∃ acc, H7 D = some (.lst acc) ∧ acc.length < sizeLine ∧ Nx (upd H7 D (.lst (acc ++ [y])))
def tLcN (wi : TI) (g : TG) (tt : TT) (cs : List ClauseN) (te : TE) (vs : List Nat) : TE := fun σ H Q => wi σ H fun J H1 => ∀ D, H1 D = none → ReadN J (upd H1 D (.lst [])) g tt (elL D te) cs vs σ fun H => Q (.ref D) H
section
variable {X : Cx}
theorem pe_lcN {elt tg iter : Expr} {ifs : List Expr} {gs : List Comprehension} {scope : Scope} {own : List (PySem.Str × Nat)} {pos : Pos} {wi : TI} {g : TG} {tt : TT} {cs : List ClauseN} {te : TE} (calm : X.calm = true) (nd : X.N.Nodup) (hi : PI X tg iter wi) (blk : BlkOk X.N X.env.scope scope own)
    (hg : ∀ (s : Shared) (H : Hp) (C : Addr) (cl : List (PySem.Str × Addr)) (fp : List Addr), PG (X.blk s H scope (compEnvC scope cl C X.env) fp) tg g)
    (ht : ∀ (s : Shared) (H : Hp) (C : Addr) (cl : List (PySem.Str × Addr)) (fp : List Addr), PTs (X.blk s H scope (compEnvC scope cl C X.env) fp) ifs tt)
    (hcs : ∀ (s : Shared) (H : Hp) (C : Addr) (cl : List (PySem.Str × Addr)) (fp : List Addr), ClOk (X.blk s H scope (compEnvC scope cl C X.env) fp) gs cs) (nest : Nested cs) (hvs : ∀ i ∈ hv cs, i ∈ own.map (·.2))
    (he : ∀ (s : Shared) (H : Hp) (C : Addr) (cl : List (PySem.Str × Addr)) (fp : List Addr), PE (X.blk s H scope (compEnvC scope cl C X.env) fp) elt te) (fold : ∀ x, foldedSetIterable iter X.env x = pure x := by intro _; rfl) :
    PE X (.ListComp elt (⟨tg, iter, ifs, 0⟩ :: gs) scope pos) (tLcN wi g tt cs te (own.map (·.2))) := by
  refine ⟨fun pins s σ H Q I0 want => ?_⟩
  rw [eval_ListComp]
  have cells : ∀ y ∈ scope.names, y.2 = .free → ∃ c, X.env.cells.lookup y.1 = some c := fun y hy e => (blk.free y hy e).elim (fun k => I0.ok.has _ (.inl k)) fun k => I0.ok.has _ (.inr k)
  refine wpAny_comprehension_free rfl fold (closure_ok cells) blk.kind (fun y hy e => by rw [blk.uniq y hy, e]) (thn (hi.run pins s σ H _ I0 want) fun _ s1 made => thn made fun _ s2 walk => ?_)
  obtain ⟨it, fp, tn, J, Hw, rfl, Iw, T, st, fpok, q⟩ := walk
  refine wpAny_newObj_type (newEnv_comp ?_) (by show 0 ≤ sizeLine; decide)
  have noD : Hw s2.heap.objs.size = none := Iw.hok.fresh (Nat.le_refl _)
  have rd := q _ noD
  have IN : Inv X pins σ (upd Hw s2.heap.objs.size (.lst [])) { s2 with heap := s2.heap.push { cls := .type "list", data := .seq ([] : List Value).toArray }, toks := s2.toks } :=
    Iw.laid (t' := s2.toks) (fun b o e => Heap.get?_push_of_some _ e) (Nat.le_refl _) ⟨Nat.zero_le _, [], 0, .nil, Heap.get?_push_size _ rfl⟩
  have old : ∀ b ∈ fp, b < s2.heap.objs.size := fun b hb => by
    obtain ⟨z, e, _⟩ := T.obj _ _ st b hb
    exact Heap.lt_size e
  have stN : tn 0 (s2.heap.push { cls := .type "list", data := .seq ([] : List Value).toArray }) := T.keep _ _ _ st fun b _ z e => Heap.get?_push_of_some _ e
  have fpN : ∀ b ∈ fp, FpOk X pins (upd Hw s2.heap.objs.size (.lst [])) b ∧ b < (s2.heap.push { cls := .type "list", data := .seq ([] : List Value).toArray }).objs.size := fun b hb => by
    have lt := old b hb
    exact ⟨⟨by rw [upd_ne (Nat.ne_of_lt lt)]; exact (fpok b hb).1, (fpok b hb).2⟩, by rw [Heap.size_push]; exact Nat.lt_succ_of_lt lt⟩
  refine coreN (st := false) (sN := { s2 with heap := s2.heap.push { cls := .type "list", data := .seq ([] : List Value).toArray } }) calm nd blk hg ht hcs nest hvs (el := elL s2.heap.objs.size te) ?_ IN T stN fpN rd
  intro s3 H3 C cl fp3 d pins3 σ3 s4 H4 Nx hn I4 h4
  refine emitL hn (thnF ((he s3 H3 C cl fp3).run _ s4 σ3 H4 _ I4 h4) fun z s5 ⟨y, H5, I5, r5, acc, hD5, room, nx⟩ => ?_)
  exact app_ok (X := X.blk s3 H3 scope (compEnvC scope cl C X.env) fp3) I5 hD5 room r5 fun s6 I6 => ⟨_, I6, nx⟩
end
end DL

set_option Elab.async false
set_option maxRecDepth 100000
namespace DL
open PySem PySem.Spec PyProof.Rows L2
/-! ### walks of the clauses -/
theorem tt_yes {c : ClauseN} (hc : c.tt = tYes) {σ : L2.St} {H : Hp} {Q : Bool → Hp → Prop} (h : Q true H) : c.tt σ H Q := by
  rw [hc]
  exact h
theorem inW_by {J : It} {n : Nat} {G : Hp → Prop} {Y : Nat → Hp → V → Hp → Prop} (wk : Walk J n G Y) {el : L2.St → Hp → (Hp → Prop) → Prop} {c : ClauseN} {cs : List ClauseN} {σ : L2.St} {H : Hp} {Nx : Hp → Prop} (Pv : Nat → Hp → Prop) (h0 : Pv 0 H) (hG : ∀ i H, i ≤ n → Pv i H → G H)
    (hs : ∀ i x H H', i < n → Pv i H → Y i H x H' → c.g x (wipe σ c.vs) H' fun σ3 H5 => wipe σ3 c.vs = wipe σ c.vs ∧ c.tt σ3 H5 fun b H6 => if b = true then inN el cs σ3 H6 (Pv (i + 1)) else Pv (i + 1) H6) (hd : ∀ H, Pv n H → Nx H) :
    ∃ W : Nat → Nat → Hp → Prop, (∃ m, W 0 m H) ∧ ∀ j k H, W j k H → (J.stop j H ∧ Nx H) ∨ (J.go j H ∧ ∃ Ny : Hp → Prop, (∀ H', Ny H' → ∃ k', k' < k ∧ W (j + 1) k' H') ∧ ∀ x H', J.yld j H x H' → c.g x (wipe σ c.vs) H' fun σ3 H5 => wipe σ3 c.vs = wipe σ c.vs ∧ c.tt σ3 H5 fun b H6 =>
        if b = true then inN el cs σ3 H6 Ny else Ny H6) := by
  refine ⟨fun i m H => m = n - i ∧ i ≤ n ∧ Pv i H, ⟨n, rfl, Nat.zero_le _, h0⟩, ?_⟩
  rintro i m H ⟨rfl, hi, p⟩
  rcases Nat.lt_or_ge i n with lt | ge
  · exact .inr ⟨wk.goes i H lt (hG i H hi p), Pv (i + 1), fun H' p' => ⟨n - (i + 1), by omega, rfl, lt, p'⟩, fun x H' y => hs i x H H' lt p (wk.yields i H x H' lt (hG i H hi p) y)⟩
  · obtain rfl : i = n := by omega
    exact .inl ⟨wk.stops H (hG i H hi p), hd H p⟩
theorem readN_by {J : It} {n : Nat} {G : Hp → Prop} {Y : Nat → Hp → V → Hp → Prop} (wk : Walk J n G Y) {el : L2.St → Hp → (Hp → Prop) → Prop} {g : TG} {tt : TT} {cs : List ClauseN} {vs : List Nat} {σ : L2.St} {Hn : Hp} {Qd : Hp → Prop} (Pv : Nat → Hp → Prop) (h0 : Pv 0 Hn) (hG : ∀ i H, i ≤ n → Pv i H → G H)
    (hs : ∀ i x H H', i < n → Pv i H → Y i H x H' → g x (wipe σ vs) H' fun σ3 H5 => wipe σ3 vs = wipe σ vs ∧ tt σ3 H5 fun b H6 => if b = true then inN el cs σ3 H6 (Pv (i + 1)) else Pv (i + 1) H6) (hd : ∀ H, Pv n H → Qd H) : ReadN J Hn g tt el cs vs σ Qd := by
  refine ⟨fun i m H => m = n - i ∧ i ≤ n ∧ Pv i H, ⟨n, rfl, Nat.zero_le _, h0⟩, ?_⟩
  rintro i m H ⟨rfl, hi, p⟩
  rcases Nat.lt_or_ge i n with lt | ge
  · exact .inr ⟨wk.goes i H lt (hG i H hi p), Pv (i + 1), fun H' p' => ⟨n - (i + 1), by omega, rfl, lt, p'⟩, fun x H' y => hs i x H H' lt p (wk.yields i H x H' lt (hG i H hi p) y)⟩
  · obtain rfl : i = n := by omega
    exact .inl ⟨wk.stops H (hG i H hi p), hd H p⟩
end DL

set_option Elab.async false
set_option maxRecDepth 100000
set_option maxHeartbeats 2000000
set_option linter.all false
namespace DL
open PySem PySem.Spec PyProof.Rows L2
open Sem (wp)
/-! ### itertools.combinations(xs, r): the class -/
theorem mro_com : mroOf (.type "itertools.combinations") = pure [.type "itertools.combinations", .type "object"] := by rw [mroOf_type]; kernel_rfl
theorem look_com_new : typeLookup (.type "itertools.combinations") "__new__" = pure (some (.builtin "itertools.combinations.__new__")) := by rw [typeLookup_type, builtinLookup_eq_fast]; kernel_rfl
theorem slot_com_init : Slot "itertools.combinations" "__init__" "object.__init__" :=
  .of (owner := "object") (n := "__init__") (by rw [typeLookup_type, builtinLookup_eq_fast]; kernel_rfl) (by decide +kernel) (by decide +kernel) (by decide +kernel)
    (by first | exact .inl (by decide +kernel) | exact .inr (by decide +kernel)) (by rw [isSubtype_type]; kernel_rfl)
theorem sub_com : isSubtype (.type "itertools.combinations") (.type "itertools.combinations") = pure true := by rw [isSubtype_type]; kernel_rfl
theorem called_com : TypeCalled "itertools.combinations" "itertools.combinations.__new__" "object.__init__" :=
  ⟨by decide +kernel, by decide +kernel, ⟨_, _, mro_com⟩, madeBy_type mro_com look_com_new (by decide +kernel), by decide +kernel, sub_com, slot_com_init⟩
theorem typeCall_com (a b : Value) : checkTypeCall "itertools.combinations" ⟨[a, b], []⟩ = pure () := by kernel_rfl
theorem newCall_com (a b : Value) : checkBuiltinCall "itertools.combinations.__new__" ⟨[.type "itertools.combinations", a, b], []⟩ = pure () := by kernel_rfl
theorem entry_com_new : entryFor table "itertools.combinations.__new__" = some Builtin.«itertools.combinations.__new__» := entryFor_of_tree (by kernel_rfl)
theorem slot_com_iter : Slot "itertools.combinations" "__iter__" "itertools.combinations.__iter__" :=
  .of (owner := "itertools.combinations") (n := "__iter__") (by rw [typeLookup_type, builtinLookup_eq_fast]; kernel_rfl) (by decide +kernel) (by decide +kernel) (by decide +kernel)
    (by first | exact .inl (by decide +kernel) | exact .inr (by decide +kernel)) sub_com
theorem slot_com_next : Slot "itertools.combinations" "__next__" "itertools.combinations.__next__" :=
  .of (owner := "itertools.combinations") (n := "__next__") (by rw [typeLookup_type, builtinLookup_eq_fast]; kernel_rfl) (by decide +kernel) (by decide +kernel) (by decide +kernel)
    (by first | exact .inl (by decide +kernel) | exact .inr (by decide +kernel)) sub_com
theorem entry_com_iter : entryFor table "itertools.combinations.__iter__" = some Builtin.«dict_keyiterator.__iter__» :=
  entryFor_alias (id' := "dict_keyiterator.__iter__") (by kernel_rfl) (by first | rfl | decide +kernel | (unfold String.splitOn; simp +decide [String.splitOnAux])) (by decide +kernel) (by kernel_rfl)
theorem entry_com_next : entryFor table "itertools.combinations.__next__" = some Builtin.«itertools.combinations.__next__» := entryFor_of_tree (by kernel_rfl)
theorem owner_com : Manifest.owners.lookup (String.ofList ['s', 'n', 'o', 'i', 't', 'a', 'n', 'i', 'b', 'm', 'o', 'c', '.', 's', 'l', 'o', 'o', 't', 'r', 'e', 't', 'i'].reverse) = some Manifest.sig_itertools_combinations := by kernel_rfl
theorem args_com_iter (a : Value) : argsOk "itertools.combinations.__iter__" ⟨[a], []⟩ := by
  unfold argsOk; rw [signature?_of (id := "itertools.combinations.__iter__") (n := ['_', '_', 'r', 'e', 't', 'i', '_', '_']) (o := ['s', 'n', 'o', 'i', 't', 'a', 'n', 'i', 'b', 'm', 'o', 'c', '.', 's', 'l', 'o', 'o', 't', 'r', 'e', 't', 'i']) (by kernel_rfl) owner_com]; kernel_rfl
theorem args_com_next (a : Value) : argsOk "itertools.combinations.__next__" ⟨[a], []⟩ := by
  unfold argsOk; rw [signature?_of (id := "itertools.combinations.__next__") (n := ['_', '_', 't', 'x', 'e', 'n', '_', '_']) (o := ['s', 'n', 'o', 'i', 't', 'a', 'n', 'i', 'b', 'm', 'o', 'c', '.', 's', 'l', 'o', 'o', 't', 'r', 'e', 't', 'i']) (by kernel_rfl) owner_com]; kernel_rfl
theorem noDict_com : typeHasDict (.type "itertools.combinations") = false := by decide +kernel
/-- the pool's tuple, what is out (0 fresh, 1 begun, 2 ended), the tuple told last, the places -/
abbrev IsCom (h : Heap) (it : Addr) (pool : Addr) (st : Int) (last : Value) (ix : List Nat) : Prop :=
  h.get? it = some { cls := .type "itertools.combinations", dict := none, data := .fields ([.ref pool, .int st 0, last] ++ ix.map fun (i : Nat) => rawInt i).toArray, slots := #[] }
end DL

set_option Elab.async false
set_option maxRecDepth 100000
set_option maxHeartbeats 2000000
set_option linter.all false
namespace DL
open PySem PySem.Spec PyProof.Rows L2
open Sem (wp)
theorem com_new {prog : Program} {w : World} (v : Value) (r : Nat) (t : Tok) (hr : r ≤ 1000) :
    MeetsIn prog w (Builtin.«itertools.combinations.__new__» ⟨[.type "itertools.combinations", v, .int r t], []⟩) (fun A R s => wpAny (model prog w) A.in1 (collect v) (fun items s1 => items.length ≤ sizeLine ∧
      R (.ok (.ret (.ref (s1.heap.objs.size + 1)))) { s1 with heap := (s1.heap.push { cls := .type "tuple", data := .seq items.toArray }).push { cls := .type "itertools.combinations", data := .fields ([.ref s1.heap.objs.size, rawInt (if r > items.length then 2 else 0), .none] ++ (List.range r).map fun (i : Nat) => rawInt i).toArray } }) (fun e s1 => R (.error e) s1) s) :=
  .of_wp fun A R s h => by
    have hsub := sub_com
    have hd := noDict_com
    have h0 : ¬ ((r : Int) < 0) := by omega
    have hn : ¬ ((decide ((r : Int) < -(2 ^ 63 : Int)) || decide ((r : Int) ≥ (2 ^ 63 : Int))) = true) := by
      have a : decide ((r : Int) < -(2 ^ 63 : Int)) = false := decide_eq_false (by omega)
      have b : decide ((r : Int) ≥ (2 ^ 63 : Int)) = false := decide_eq_false (by omega)
      rw [a, b]
      decide
    show wpAny (model prog w) A.in1 ((Builtin.Itertools.itClassAndRest "combinations" ⟨[.type "itertools.combinations", v, .int r t], []⟩ >>= _) >>= _) _ _ s
    refine wpAny_bind (wpAny_bind ?_)
    unfold Builtin.Itertools.itClassAndRest
    repeat (first | wp_step | simp only [List.length_cons, List.length_nil, List.forIn_nil])
    refine wpAny_of_eq (a := true) hsub ?_
    rw [if_neg (by decide)]
    refine wpAny_pure ?_
    refine wpAny_bind ?_
    unfold Builtin.Itertools.itBindNamed
    simp only [List.zipIdx_cons, List.zipIdx_nil, List.forIn_cons, List.forIn_nil]
    repeat (first | wp_step | simp only [List.length_cons, List.length_nil, List.forIn_nil])
    rw [if_neg hn]
    refine wpAny_pure (wpAny_bind (wpAny_mono h (fun items s1 q => ?_) fun _ _ x => x))
    obtain ⟨hl, q⟩ := q
    rw [if_neg h0]
    have h5 : ¬ (Builtin.Itertools.itTooMany (r : Int) = true) := by
      unfold Builtin.Itertools.itTooMany
      rw [decide_eq_true_iff]
      omega
    rw [if_neg h5]
    refine wpAny_bind (wpAny_newTuple ?_ hl)
    refine wpAny_pure ?_
    refine wpAny_bind ?_
    unfold Builtin.Itertools.itNewRecord
    dsimp only
    rw [hd]
    have e2 : ((r : Int)).toNat = r := by omega
    rw [e2]
    rw [if_pos (by decide)]
    refine wpAny_newObj_type ?_ ?_
    · refine wpAny_pure ⟨_, rfl, ?_⟩
      rw [Heap.size_push]
      exact q
    · first | exact trivial | (show _ ≤ _; simp [sizeLine_eq]; omega) | size_fits
end DL

set_option Elab.async false
set_option linter.all false
namespace DL
/-! ### ascending choices of places, one after another -/
def nextK (n : Nat) (indices : List Nat) : Option (List Nat) :=
  let r := indices.length
  match (List.range r).reverse.find? fun i => indices.getD i 0 != i + n - r with
  | none => none
  | some i => some (indices.take i ++ (List.range (r - i)).map (indices.getD i 0 + 1 + ·))
def nextC (n : Nat) : List Nat → Option (List Nat)
  | [] => none
  | x :: c => match nextC n c with
    | some d => some (x :: d)
    | none => if x = n - (c.length + 1) then none else some (List.range' (x + 1) (c.length + 1))
theorem range_from (x k : Nat) : (List.range k).map (x + 1 + ·) = List.range' (x + 1) k := by
  rw [List.range'_eq_map_range]
theorem next_eq (n : Nat) (c : List Nat) : nextK n c = nextC n c := by
  induction c with
  | nil => rfl
  | cons x c ih =>
    unfold nextC
    rw [← ih]
    unfold nextK
    simp only [List.length_cons]
    rw [List.range_succ_eq_map, List.reverse_cons, List.find?_append, ← List.map_reverse, List.find?_map]
    have e : ((fun i => (x :: c).getD i 0 != i + n - (c.length + 1)) ∘ Nat.succ) = fun i => c.getD i 0 != i + n - c.length := by
      funext i
      show ((x :: c).getD (i + 1) 0 != i + 1 + n - (c.length + 1)) = _
      rw [show i + 1 + n - (c.length + 1) = i + n - c.length by omega]
      rfl
    rw [e]
    cases h : (List.range c.length).reverse.find? fun i => c.getD i 0 != i + n - c.length with
    | some i =>
      show some ((x :: c).take (i + 1) ++ (List.range (c.length + 1 - (i + 1))).map ((x :: c).getD (i + 1) 0 + 1 + ·)) = some (x :: (c.take i ++ (List.range (c.length - i)).map (c.getD i 0 + 1 + ·)))
      rw [show c.length + 1 - (i + 1) = c.length - i by omega]
      rfl
    | none =>
      show (match [0].find? (fun i => (x :: c).getD i 0 != i + n - (c.length + 1)) with | none => none | some i => some ((x :: c).take i ++ (List.range (c.length + 1 - i)).map ((x :: c).getD i 0 + 1 + ·))) = _
      by_cases q : x = n - (c.length + 1)
      · have e0 : [0].find? (fun i => (x :: c).getD i 0 != i + n - (c.length + 1)) = none := by
          rw [List.find?_cons]
          have : ((x :: c).getD 0 0 != 0 + n - (c.length + 1)) = false := by
            show (x != 0 + n - (c.length + 1)) = false
            rw [Nat.zero_add, ← q]
            simp
          rw [this]
          rfl
        rw [e0, if_pos q]
      · have e0 : [0].find? (fun i => (x :: c).getD i 0 != i + n - (c.length + 1)) = some 0 := by
          rw [List.find?_cons]
          have : ((x :: c).getD 0 0 != 0 + n - (c.length + 1)) = true := by
            show (x != 0 + n - (c.length + 1)) = true
            rw [Nat.zero_add]
            simpa using q
          rw [this]
        rw [e0, if_neg q]
        show some ([] ++ (List.range (c.length + 1 - 0)).map (x + 1 + ·)) = _
        rw [Nat.sub_zero, range_from]
        rfl
/-- all ascending choices of r places from lo up to n - 1, in their order -/
def combsL (n : Nat) : Nat → Nat → List (List Nat)
  | 0, _ => [[]]
  | r + 1, lo => (List.range' lo (n - lo)).flatMap fun x => (combsL n r (x + 1)).map (x :: ·)
theorem combs_cons {n r lo : Nat} (h : lo < n) : combsL n (r + 1) lo = (combsL n r (lo + 1)).map (lo :: ·) ++ combsL n (r + 1) (lo + 1) := by
  show (List.range' lo (n - lo)).flatMap _ = _ ++ (List.range' (lo + 1) (n - (lo + 1))).flatMap _
  rw [show n - lo = (n - (lo + 1)) + 1 by omega, List.range'_succ, List.flatMap_cons]
theorem combs_none {n : Nat} : ∀ {r lo : Nat}, n < lo + r → 0 < r → combsL n r lo = []
  | 0, lo, _, h => by omega
  | r + 1, lo, h, _ => by
    show (List.range' lo (n - lo)).flatMap _ = []
    rw [List.flatMap_eq_nil_iff]
    intro x hx
    have hx := List.mem_range'_1.mp hx
    rw [List.map_eq_nil_iff]
    cases r with
    | zero => omega
    | succ r => exact combs_none (by omega) (by omega)
theorem combs_len {n : Nat} : ∀ {r lo : Nat} {c : List Nat}, c ∈ combsL n r lo → c.length = r
  | 0, lo, c, h => by
    rw [List.mem_singleton.mp h]
    rfl
  | r + 1, lo, c, h => by
    obtain ⟨x, _, hx⟩ := List.mem_flatMap.mp h
    obtain ⟨d, hd, rfl⟩ := List.mem_map.mp hx
    rw [List.length_cons, combs_len hd]
theorem combs_head {n : Nat} : ∀ {r lo : Nat}, lo + r ≤ n → (combsL n r lo)[0]? = some (List.range' lo r)
  | 0, lo, _ => rfl
  | r + 1, lo, h => by
    rw [combs_cons (by omega)]
    have := combs_head (n := n) (r := r) (lo := lo + 1) (by omega)
    rw [List.getElem?_append_left (by
      rw [List.length_map]
      exact (List.getElem?_eq_some_iff.mp this).1), List.getElem?_map, this, List.range'_succ]
    rfl
def NextOk (n r lo : Nat) : Prop := ∀ i c, (combsL n r lo)[i]? = some c → nextC n c = (combsL n r lo)[i + 1]?
theorem combs_step {n r : Nat} (ih : ∀ lo, lo + r ≤ n → NextOk n r lo) : ∀ m lo, n - lo ≤ m → lo + (r + 1) ≤ n → NextOk n (r + 1) lo
  | 0, lo, hm, hl => by omega
  | m + 1, lo, hm, hl => by
    intro i c h
    rw [combs_cons (by omega)] at h ⊢
    have L1 := ih (lo + 1) (by omega)
    rcases Nat.lt_or_ge i (combsL n r (lo + 1)).length with hi | hi
    · rw [List.getElem?_append_left (by rw [List.length_map]; exact hi), List.getElem?_map] at h
      cases hd : (combsL n r (lo + 1))[i]? with
      | none => rw [hd] at h; cases h
      | some d =>
        rw [hd] at h
        have h : some (lo :: d) = some c := h
        injection h with h
        subst h
        have hdl := combs_len (List.mem_of_getElem? hd)
        unfold nextC
        rw [L1 i d hd]
        cases hn : (combsL n r (lo + 1))[i + 1]? with
        | some e =>
          have := (List.getElem?_eq_some_iff.mp hn).1
          rw [List.getElem?_append_left (by rw [List.length_map]; exact this), List.getElem?_map, hn]
          rfl
        | none =>
          have h2 : (combsL n r (lo + 1)).length ≤ i + 1 := List.getElem?_eq_none_iff.mp hn
          rw [List.getElem?_append_right (by rw [List.length_map]; exact h2), List.length_map, show i + 1 - (combsL n r (lo + 1)).length = 0 by omega, hdl]
          show (if lo = n - (r + 1) then none else some (List.range' (lo + 1) (r + 1))) = _
          by_cases q : lo = n - (r + 1)
          · rw [if_pos q, combs_none (by omega) (by omega)]
            rfl
          · rw [if_neg q, combs_head (by omega)]
    · rw [List.getElem?_append_right (by rw [List.length_map]; exact hi), List.length_map] at h
      rw [List.getElem?_append_right (by rw [List.length_map]; omega), List.length_map, show i + 1 - (combsL n r (lo + 1)).length = (i - (combsL n r (lo + 1)).length) + 1 by omega]
      rcases Nat.lt_or_ge n (lo + 1 + (r + 1)) with z | z
      · rw [combs_none z (by omega)] at h
        cases h
      · exact combs_step ih m (lo + 1) (by omega) (by omega) _ _ h
theorem combs_next {n : Nat} : ∀ {r lo : Nat}, lo + r ≤ n → NextOk n r lo
  | 0, lo, _, i, c, h => by
    cases i with
    | zero => cases h; rfl
    | succ i => cases h
  | r + 1, lo, hl, i, c, h => combs_step (fun lo h => combs_next h) _ lo (Nat.le_refl _) hl i c h
end DL

set_option Elab.async false
set_option maxRecDepth 100000
set_option maxHeartbeats 2000000
set_option linter.all false
namespace DL
open PySem PySem.Spec PyProof.Rows L2
open Sem (wp)
/-! ### itertools.combinations: the next one -/
def pickA (us : List Value) (c : List Nat) : List Value := c.map fun i => us.toArray.getD i .none
section
variable {prog : Program} {w : World} {A : Around} {E : Value → Shared → Prop} {s : Shared}
theorem nums_of (f : Value → Nat) (hf : ∀ i : Nat, f (rawInt i) = i) (a b c : Value) (ix : List Nat) : (List.drop 3 ([a, b, c] ++ ix.map fun (i : Nat) => rawInt i).toArray.toList).map f = ix := by
  show (ix.map fun (i : Nat) => rawInt i).map f = ix
  rw [List.map_map]
  have : (f ∘ fun (i : Nat) => rawInt i) = id := by
    funext i
    exact hf i
  rw [this, List.map_id]
theorem com_hand {it pool : Addr} {us : List Value} {last : Value} {ix : List Nat} {n : Nat} {Q : Value → Shared → Prop} (hit : IsCom s.heap it pool 1 last ix) (hp : ∃ o, s.heap.get? pool = some o ∧ o.data = .seq us.toArray n) (hz : ix.length ≤ 1000)
    (hQ : ∀ h', IsCom h' it pool 1 (.ref s.heap.objs.size) ix → (∀ c o, c ≠ it → s.heap.get? c = some o → h'.get? c = some o) → h'.get? s.heap.objs.size = some { cls := .type "tuple", data := .seq (pickA us ix).toArray } → Q (.ref s.heap.objs.size) { s with heap := h' }) :
    wpAny (model prog w) A ((do
      let result ← (Builtin.Itertools.itPoolItems (.ref pool) >>= fun items => newTuple (ix.map fun i => items.getD i .none))
      let before ← field (Value.ref it) 2
      setField (Value.ref it) 2 result
      letGo [before] [result]
      ret result) : Sem PySem.Fin) (fun fin s' => ∃ v, fin = .done (.ret v) ∧ Q v s') E s := by
  obtain ⟨o, ho, hd⟩ := hp
  refine wpAny_bind (wpAny_bind ?_)
  unfold Builtin.Itertools.itPoolItems
  refine wpAny_bind (wpAny_seqItems ho hd ?_)
  refine wpAny_pure ?_
  refine wpAny_newTuple ?_ (by rw [List.length_map]; exact Nat.le_trans hz (by rw [sizeLine_eq]; decide))
  have lt : it < s.heap.objs.size := Heap.lt_size hit
  have h1 : IsCom (s.heap.push { cls := .type "tuple", data := .seq (pickA us ix).toArray }) it pool 1 last ix := Heap.get?_push_of_some _ hit
  refine wpAny_bind (wpAny_field h1 rfl (x := last) rfl ?_)
  refine wpAny_bind (wpAny_setField_rec h1 (by simp) fun g2 z2 b2 => ?_)
  replace z2 : IsCom g2 it pool 1 (.ref s.heap.objs.size) ix := z2
  refine wpAny_bind (wpAny_letGo ?_)
  refine wpAny_pure ⟨_, rfl, ?_⟩
  refine hQ g2 z2 (fun c o c1 q => b2.extBut _ _ c1 (Heap.get?_push_of_some _ q)) (b2.extBut _ _ (Nat.ne_of_gt lt) (Heap.get?_push_size _ rfl))
theorem com_first {it pool : Addr} {us : List Value} {last : Value} {ix : List Nat} {n : Nat} {Q : Value → Shared → Prop} (hit : IsCom s.heap it pool 0 last ix) (hp : ∃ o, s.heap.get? pool = some o ∧ o.data = .seq us.toArray n) (hne : pool ≠ it) (hz : ix.length ≤ 1000)
    (hQ : ∀ h', IsCom h' it pool 1 (.ref s.heap.objs.size) ix → (∀ c o, c ≠ it → s.heap.get? c = some o → h'.get? c = some o) → h'.get? s.heap.objs.size = some { cls := .type "tuple", data := .seq (pickA us ix).toArray } → Q (.ref s.heap.objs.size) { s with heap := h' }) :
    wpAny (model prog w) A (Builtin.«itertools.combinations.__next__» ⟨[.ref it], []⟩) (fun fin s' => ∃ v, fin = .done (.ret v) ∧ Q v s') E s := by
  unfold Builtin.«itertools.combinations.__next__»
  show wpAny _ _ (slotArgs "__next__" 0 ⟨[.ref it], []⟩ >>= _) _ _ s
  refine wpAny_bind (wpAny_pure ?_)
  show wpAny _ _ (field (.ref it) 0 >>= _) _ _ s
  refine wpAny_bind (wpAny_field hit rfl (x := .ref pool) rfl ?_)
  show wpAny _ _ (Builtin.Itertools.itNumbersFrom (.ref it) 3 >>= _) _ _ s
  refine wpAny_bind ?_
  unfold Builtin.Itertools.itNumbersFrom
  refine wpAny_bind (wpAny_load hit ?_)
  refine wpAny_pure ?_
  rw [nums_of _ (fun i => rfl)]
  refine wpAny_bind ?_
  unfold Builtin.Itertools.itIntField
  refine wpAny_bind (wpAny_field hit rfl (x := .int 0 0) rfl ?_)
  refine wpAny_pure ?_
  refine wpAny_bind (wpAny_setField_rec hit (by simp) fun g2 z2 b2 => ?_)
  replace z2 : IsCom g2 it pool 1 last ix := z2
  obtain ⟨o, ho, hd⟩ := hp
  have sz : g2.objs.size = s.heap.objs.size := b2.1
  refine com_hand (s := { s with heap := g2 }) z2 ⟨o, b2.extBut _ _ hne ho, hd⟩ hz fun h' z3 k3 f3 => ?_
  show Q (.ref g2.objs.size) _
  rw [show g2.objs.size = s.heap.objs.size from sz]
  rw [show ({ s with heap := g2 } : Shared).heap.objs.size = s.heap.objs.size from sz] at z3 f3
  exact hQ h' z3 (fun c o c1 q => k3 c o c1 (b2.extBut _ _ c1 q)) f3
theorem com_more {it pool : Addr} {us : List Value} {last : Value} {ix jx : List Nat} {n : Nat} {Q : Value → Shared → Prop} (hit : IsCom s.heap it pool 1 last ix) (hp : ∃ o, s.heap.get? pool = some o ∧ o.data = .seq us.toArray n) (hne : pool ≠ it) (hj : nextC us.length ix = some jx) (hz : jx.length ≤ 1000)
    (hQ : ∀ h', IsCom h' it pool 1 (.ref s.heap.objs.size) jx → (∀ c o, c ≠ it → s.heap.get? c = some o → h'.get? c = some o) → h'.get? s.heap.objs.size = some { cls := .type "tuple", data := .seq (pickA us jx).toArray } → Q (.ref s.heap.objs.size) { s with heap := h' }) :
    wpAny (model prog w) A (Builtin.«itertools.combinations.__next__» ⟨[.ref it], []⟩) (fun fin s' => ∃ v, fin = .done (.ret v) ∧ Q v s') E s := by
  unfold Builtin.«itertools.combinations.__next__»
  show wpAny _ _ (slotArgs "__next__" 0 ⟨[.ref it], []⟩ >>= _) _ _ s
  refine wpAny_bind (wpAny_pure ?_)
  show wpAny _ _ (field (.ref it) 0 >>= _) _ _ s
  refine wpAny_bind (wpAny_field hit rfl (x := .ref pool) rfl ?_)
  show wpAny _ _ (Builtin.Itertools.itNumbersFrom (.ref it) 3 >>= _) _ _ s
  refine wpAny_bind ?_
  unfold Builtin.Itertools.itNumbersFrom
  refine wpAny_bind (wpAny_load hit ?_)
  refine wpAny_pure ?_
  rw [nums_of _ (fun i => rfl)]
  refine wpAny_bind ?_
  unfold Builtin.Itertools.itIntField
  refine wpAny_bind (wpAny_field hit rfl (x := .int 1 0) rfl ?_)
  refine wpAny_pure ?_
  obtain ⟨o, ho, hd⟩ := hp
  show wpAny _ _ (Builtin.Itertools.itPoolItems (.ref pool) >>= _) _ _ s
  refine wpAny_bind ?_
  unfold Builtin.Itertools.itPoolItems
  refine wpAny_bind (wpAny_seqItems ho hd ?_)
  refine wpAny_pure ?_
  have e0 : nextK us.toArray.size ix = some jx := by
    rw [next_eq]
    exact hj
  split
  · rename_i next heq
    have heq : nextK us.toArray.size ix = some next := heq
    rw [e0] at heq
    injection heq with heq
    subst heq
    unfold Builtin.Itertools.itSetNumbersFrom
    have e4 : ([Value.ref pool, .int 1 0, last] ++ ix.map fun (i : Nat) => rawInt i).toArray.extract 0 3 ++ (jx.map fun (i : Nat) => rawInt i).toArray = ([Value.ref pool, .int 1 0, last] ++ jx.map fun (i : Nat) => rawInt i).toArray := by
      rw [List.extract_toArray]
      simp
    refine wpAny_bind ?_
    refine wpAny_updateFields hit rfl ?_ (hz := by
      rw [e4]
      simp [sizeLine_eq]
      omega)
    have z2 : (s.heap.update it (Obj.mapFields fun fs => fs.extract 0 3 ++ (jx.map fun (i : Nat) => rawInt i).toArray)).get? it = some { cls := .type "itertools.combinations", dict := none, data := .fields (([Value.ref pool, .int 1 0, last] ++ ix.map fun (i : Nat) => rawInt i).toArray.extract 0 3 ++ (jx.map fun (i : Nat) => rawInt i).toArray), slots := #[] } := Heap.get?_update_self _ hit rfl
    rw [e4] at z2
    have b2 : Heap.SameBut it s.heap (s.heap.update it (Obj.mapFields fun fs => fs.extract 0 3 ++ (jx.map fun (i : Nat) => rawInt i).toArray)) := Heap.SameBut.update ..
    generalize s.heap.update it (Obj.mapFields fun fs => fs.extract 0 3 ++ (jx.map fun (i : Nat) => rawInt i).toArray) = g2 at z2 b2 ⊢
    have sz : g2.objs.size = s.heap.objs.size := b2.1
    refine com_hand (s := { s with heap := g2 }) z2 ⟨o, b2.extBut _ _ hne ho, hd⟩ hz fun h' z3 k3 f3 => ?_
    show Q (.ref g2.objs.size) _
    rw [show g2.objs.size = s.heap.objs.size from sz]
    rw [show ({ s with heap := g2 } : Shared).heap.objs.size = s.heap.objs.size from sz] at z3 f3
    exact hQ h' z3 (fun c o c1 q => k3 c o c1 (b2.extBut _ _ c1 q)) f3
  · rename_i heq
    have heq : nextK us.toArray.size ix = none := heq
    rw [e0] at heq
    cases heq
theorem stop_it {Q : PySem.Fin → Shared → Prop} (hh : A.handled = none) (hQ : ∀ e h', CpRep.StopE e h' → (∀ c o, s.heap.get? c = some o → h'.get? c = some o) → E e { s with heap := h' }) : wpAny (model prog w) A (Builtin.Itertools.itStop) Q E s := by
  unfold Builtin.Itertools.itStop
  refine wpAny_bind ?_
  simp only [newExc, newTuple]
  refine wpAny_bind (wpAny_newObj_type ?_ (by size_fits))
  refine wpAny_bind (m := firstArgMember _ _) (wpAny_of_eq (a := Value.none) (by first | rfl | (simp only [firstArgMember]; rfl)) ?_)
  refine wpAny_newObj_type ?_ (by size_fits)
  simp only [raiseNew]
  refine wpAny_bind (wpAny_handled ?_)
  rw [hh]
  refine wpAny_bind (wpAny_pure (wpAny_throw ?_))
  exact hQ _ _ ⟨_, _, _, rfl, Heap.get?_push_size _ rfl, rfl, rfl, rfl⟩ fun c o q => Heap.get?_push_of_some _ (Heap.get?_push_of_some _ q)
theorem com_done {it pool : Addr} {us : List Value} {st : Int} {last : Value} {ix : List Nat} {n : Nat} {Q : PySem.Fin → Shared → Prop} (hh : A.handled = none) (hit : IsCom s.heap it pool st last ix) (hp : ∃ o, s.heap.get? pool = some o ∧ o.data = .seq us.toArray n) (hst : st = 2 ∨ (st = 1 ∧ nextC us.length ix = none))
    (hQ : ∀ e h', CpRep.StopE e h' → (∀ c o, c ≠ it → s.heap.get? c = some o → h'.get? c = some o) → E e { s with heap := h' }) :
    wpAny (model prog w) A (Builtin.«itertools.combinations.__next__» ⟨[.ref it], []⟩) Q E s := by
  unfold Builtin.«itertools.combinations.__next__»
  show wpAny _ _ (slotArgs "__next__" 0 ⟨[.ref it], []⟩ >>= _) _ _ s
  refine wpAny_bind (wpAny_pure ?_)
  show wpAny _ _ (field (.ref it) 0 >>= _) _ _ s
  refine wpAny_bind (wpAny_field hit rfl (x := .ref pool) rfl ?_)
  show wpAny _ _ (Builtin.Itertools.itNumbersFrom (.ref it) 3 >>= _) _ _ s
  refine wpAny_bind ?_
  unfold Builtin.Itertools.itNumbersFrom
  refine wpAny_bind (wpAny_load hit ?_)
  refine wpAny_pure ?_
  rw [nums_of _ (fun i => rfl)]
  refine wpAny_bind ?_
  unfold Builtin.Itertools.itIntField
  rcases hst with rfl | ⟨rfl, hj⟩
  · refine wpAny_bind (wpAny_field hit rfl (x := .int 2 0) rfl ?_)
    refine wpAny_pure ?_
    show wpAny _ _ (rule "itertools.combinations.ended" >>= fun _ => Builtin.Itertools.itStop) _ _ s
    exact wpAny_bind (wpAny_rule (stop_it hh fun e h' q1 q2 => hQ e h' q1 fun c o _ q => q2 c o q))
  · refine wpAny_bind (wpAny_field hit rfl (x := .int 1 0) rfl ?_)
    refine wpAny_pure ?_
    obtain ⟨o, ho, hd⟩ := hp
    show wpAny _ _ (Builtin.Itertools.itPoolItems (.ref pool) >>= _) _ _ s
    refine wpAny_bind ?_
    unfold Builtin.Itertools.itPoolItems
    refine wpAny_bind (wpAny_seqItems ho hd ?_)
    refine wpAny_pure ?_
    have e0 : nextK us.toArray.size ix = none := by
      rw [next_eq]
      exact hj
    split
    · rename_i next heq
      have heq : nextK us.toArray.size ix = some next := heq
      rw [e0] at heq
      cases heq
    · refine wpAny_bind (wpAny_setField_rec hit (by simp) fun g2 z2 b2 => ?_)
      exact stop_it (s := { s with heap := g2 }) hh fun e h' q1 q2 => hQ e h' q1 fun c o c1 q => q2 c o (b2.extBut _ _ c1 q)
end
end DL

set_option Elab.async false
set_option maxRecDepth 100000
set_option maxHeartbeats 2000000
set_option linter.all false
namespace DL
open PySem PySem.Spec PyProof.Rows L2
open Sem (wp)
theorem combs_lt {n : Nat} : ∀ {r lo : Nat} {c : List Nat}, c ∈ combsL n r lo → ∀ i ∈ c, lo ≤ i ∧ i < n
  | 0, lo, c, h, i, hi => by
    rw [List.mem_singleton.mp h] at hi
    cases hi
  | r + 1, lo, c, h, i, hi => by
    obtain ⟨x, hx, h2⟩ := List.mem_flatMap.mp h
    have hx := List.mem_range'_1.mp hx
    obtain ⟨d, hd, rfl⟩ := List.mem_map.mp h2
    rcases List.mem_cons.mp hi with rfl | hi
    · omega
    · have := combs_lt hd i hi
      omega
def pickV (xs : List V) (c : List Nat) : List V := c.map fun i => xs.getD i .non
theorem pick_vals {xs : List V} {us : List Value} (h : Vals xs us) : ∀ {c : List Nat}, (∀ i ∈ c, i < xs.length) → Vals (pickV xs c) (pickA us c)
  | [], _ => .nil
  | i :: c, hc => by
    have hi := hc i List.mem_cons_self
    have e1 : xs[i]? = some xs[i] := List.getElem?_eq_getElem hi
    obtain ⟨u, hu, ru⟩ := h.get e1
    refine .cons ?_ (pick_vals h fun j hj => hc j (List.mem_cons_of_mem _ hj))
    have a1 : xs.getD i .non = xs[i] := by rw [List.getD_eq_getElem?_getD, e1]; rfl
    have a2 : us.toArray.getD i .none = u := by
      rw [Array.getD_eq_getD_getElem?]
      simp [hu]
    show L2.RelV (xs.getD i .non) (us.toArray.getD i .none)
    rw [a1, a2]
    exact ru
/-- the choices L of xs, each a new tuple -/
def Ico (xs : List V) (L : List (List Nat)) : It :=
  ⟨fun i _ => i < L.length, fun i H v H' => ∃ T c, v = .ref T ∧ H T = none ∧ H' = upd H T (.tup (pickV xs c)) ∧ L[i]? = some c, fun i _ => L.length ≤ i⟩
def tnCom (us : List Value) (L : List (List Nat)) (it pool : Addr) (i : Nat) (h : Heap) : Prop :=
  (∃ n, h.get? pool = some { cls := .type "tuple", data := .seq us.toArray n }) ∧ ∃ st last ix, IsCom h it pool st last ix ∧ ((i = 0 ∧ st = 0 ∧ L[0]? = some ix) ∨ (0 < i ∧ st = 1 ∧ L[i - 1]? = some ix) ∨ (L.length ≤ i ∧ st = 2))
theorem turn_com {P : Program} {w : World} {K : PySem.W.Frag} {tg : Expr} {it pool : Addr} {xs : List V} {us : List Value} {r : Nat} (hv : Vals xs us) (hne : pool ≠ it) (hr : r ≤ 1000) (hx : xs.length ≤ 1000) :
    Turn P w K tg (Ico xs (combsL xs.length r 0)) [it, pool] it (tnCom us (combsL xs.length r 0) it pool) where
  mem := by simp
  obj := fun i h st b hb => by
    obtain ⟨⟨n, hp⟩, st, last, ix, hi, _⟩ := st
    have e' : b = it ∨ b = pool := by simpa using hb
    rcases e' with z | z <;> rw [z]
    · exact ⟨_, hi, fun v q => nomatch q⟩
    · exact ⟨_, hp, fun v q => nomatch q⟩
  keep := fun i h h' st k => by
    obtain ⟨⟨n, hp⟩, st, last, ix, hi, q⟩ := st
    exact ⟨⟨n, k pool (by simp) _ hp⟩, st, last, ix, k it (by simp) _ hi, q⟩
  item := by
    intro X hP hw hK hc i pins s σ H E I hf st hg
    subst hP hw hK
    have hg : i < (combsL xs.length r 0).length := hg
    obtain ⟨⟨n, hp⟩, st, last, ix, hit, q⟩ := st
    have hT : s.TypeIs (.ref it) "itertools.combinations" := ⟨_, hit, rfl⟩
    have hl := hv.length
    obtain ⟨c, hcc⟩ : ∃ c, (combsL xs.length r 0)[i]? = some c := ⟨_, List.getElem?_eq_getElem hg⟩
    have hcm := List.mem_of_getElem? hcc
    have hcl := combs_len hcm
    have fin : ∀ h', IsCom h' it pool 1 (.ref s.heap.objs.size) c → (∀ c o, c ≠ it → s.heap.get? c = some o → h'.get? c = some o) → h'.get? s.heap.objs.size = some { cls := .type "tuple", data := .seq (pickA us c).toArray } →
        ∃ u, some (Value.ref s.heap.objs.size) = some u ∧ wpAny (model X.prog X.w) X.A (letOwnedTupleGo tg (.ref it) u) (fun _ s2 => ∃ x H', Inv X pins σ H' s2 ∧ RelV x u ∧ (Ico xs (combsL xs.length r 0)).yld i H x H' ∧ tnCom us (combsL xs.length r 0) it pool (i + 1) s2.heap ∧ ∀ b ∈ [it, pool], H' b = none) E { s with heap := h' } := fun h' z k f => by
      refine ⟨_, rfl, go_of z rfl rfl (by decide) ?_⟩
      have new : ObjOk X.prog X.w (upd H s.heap.objs.size (.tup (pickV xs c))) h' s.heap.objs.size (.tup (pickV xs c)) :=
        ⟨by show (pickV xs c).length ≤ sizeLine; unfold pickV; rw [List.length_map, hcl, sizeLine_eq]; omega, pickA us c, pick_vals hv fun j hj => (combs_lt hcm j hj).2, ⟨_, f, rfl, _, rfl⟩⟩
      have I1 : Inv X pins σ (upd H s.heap.objs.size (.tup (pickV xs c))) { s with heap := h', toks := s.toks } :=
        I.turnedNew (ch := [it, pool]) (fun b ob hb q => k b ob (fun z => hb (by simp [z])) q) hf (Nat.le_refl _) new
      refine ⟨.ref s.heap.objs.size, _, I1, rfl, ⟨_, c, rfl, I.hok.fresh (Nat.le_refl _), rfl, hcc⟩, ⟨⟨n, k _ _ hne hp⟩, _, _, _, z, .inr (.inl ⟨Nat.succ_pos _, rfl, hcc⟩)⟩, fun b hb => ?_⟩
      have hb' : b < s.heap.objs.size := by
        have e' : b = it ∨ b = pool := by simpa using hb
        rcases e' with z | z <;> rw [z]
        · exact Heap.lt_size hit
        · exact Heap.lt_size hp
      rw [upd_ne (Nat.ne_of_lt hb')]
      exact (hf b hb).1
    unfold pyNext
    refine wpAny_bind (wpAny_attempt (wpAny_callSpecial?_slot (name := Str.ofString "__next__") hT slot_com_next (wpAny_call_entry slot_com_next hT entry_com_next ?_ (args_com_next _))))
    rcases q with ⟨rfl, rfl, q⟩ | ⟨h0, rfl, q⟩ | ⟨z, _⟩
    · rw [hcc] at q
      cases q
      exact com_first hit ⟨_, hp, rfl⟩ hne (by omega) fun h' z k f => wpAny_pure (fin h' z k f)
    · have hn : nextC us.length ix = some c := by
        have := combs_next (n := xs.length) (r := r) (lo := 0)
        rcases Nat.lt_or_ge xs.length r with z | z
        · rw [combs_none (by omega) (by omega)] at hg
          cases hg
        · rw [← hl, this (by omega) _ _ q, show i - 1 + 1 = i by omega, hcc]
      exact com_more hit ⟨_, hp, rfl⟩ hne hn (by omega) fun h' z k f => wpAny_pure (fin h' z k f)
    · omega
  done := by
    intro X hP hw hK hc i pins s σ H E I hf st hg
    subst hP hw hK
    have hg : (combsL xs.length r 0).length ≤ i := hg
    obtain ⟨⟨n, hp⟩, st, last, ix, hit, q⟩ := st
    have hT : s.TypeIs (.ref it) "itertools.combinations" := ⟨_, hit, rfl⟩
    have hl := hv.length
    unfold pyNext
    refine wpAny_bind (wpAny_attempt (wpAny_callSpecial?_slot (name := Str.ofString "__next__") hT slot_com_next (wpAny_call_entry slot_com_next hT entry_com_next ?_ (args_com_next _))))
    refine com_done (by simp [I.ok.hd hc]) hit ⟨_, hp, rfl⟩ ?_ fun e h' q1 k => ?_
    · rcases q with ⟨rfl, rfl, q⟩ | ⟨h0, rfl, q⟩ | ⟨_, rfl⟩
      · have := (List.getElem?_eq_some_iff.mp q).1
        omega
      · refine .inr ⟨rfl, ?_⟩
        rcases Nat.lt_or_ge xs.length r with z | z
        · rw [combs_none (by omega) (by omega)] at q
          cases q
        · rw [← hl, combs_next (n := xs.length) (r := r) (lo := 0) (by omega) _ _ q, show i - 1 + 1 = i by omega, List.getElem?_eq_none_iff.mpr hg]
      · exact .inl rfl
    · obtain ⟨a, o, vs, rfl, ho, hcl, _⟩ := q1
      obtain ⟨f0, f1, f2, f3, f4, f5⟩ := hf it (by simp)
      refine wpAny_bind (wpAny_isInstance (T := "StopIteration") (b := true) ⟨o, ho, hcl⟩ isSubtype_stop (wpAny_pure ⟨rfl, ?_⟩))
      exact I.turned (t' := s.toks) (fun b o hb q => k b o hb q) f0 f1 f3 f4 f5
  self := fun A i s Q E st h => by
    obtain ⟨_, st, last, ix, hit, _⟩ := st
    have hT : s.TypeIs (.ref it) "itertools.combinations" := ⟨_, hit, rfl⟩
    refine wpAny_pyIter_slot hT slot_com_iter (wpAny_call_entry slot_com_iter hT entry_com_iter ?_ (args_com_iter _))
    show wpAny _ _ (ret (.ref it)) _ _ s
    exact wpAny_pure ⟨_, rfl, "itertools.combinations", _, hT, slot_com_next.lookup, h⟩
theorem walk_com {xs : List V} {L : List (List Nat)} : Walk (Ico xs L) L.length (fun _ => True) (fun i H v H' => ∃ T c, v = .ref T ∧ H T = none ∧ H' = upd H T (.tup (pickV xs c)) ∧ L[i]? = some c) :=
  ⟨fun i _ hi _ => hi, fun _ _ => Nat.le_refl _, fun i H v H' _ _ y => y⟩
theorem push_two (h : Heap) (o1 o2 : Obj) (z : o2.isFreed = false) : ((h.push o1).push o2).get? (h.objs.size + 1) = some o2 := by
  have := Heap.get?_push_size (h := h.push o1) (o := o2) z
  rw [Heap.size_push] at this
  exact this
section
variable {X : Cx}
/-- what stands once the object is made -/
theorem com_made {tg : Expr} {pins : List (Addr × Obj)} {σ : L2.St} {H : Hp} {s1 : Shared} {R : It → Hp → Prop} {xs : List V} {us : List Value} {r : Nat} (I : Inv X pins σ H s1) (hv : Vals xs us) (hr : r ≤ 1000) (hx : xs.length ≤ 1000) (q : R (Ico xs (combsL xs.length r 0)) H) :
    wpAny (model X.prog X.w) X.A (pyIter (.ref (s1.heap.objs.size + 1))) (PIE X pins σ tg R) X.xe { s1 with heap := (s1.heap.push { cls := .type "tuple", data := .seq us.toArray }).push { cls := .type "itertools.combinations", data := .fields ([.ref s1.heap.objs.size, rawInt (if r > us.length then 2 else 0), .none] ++ (List.range r).map fun (i : Nat) => rawInt i).toArray } } := by
  have hl := hv.length
  have hp : ((s1.heap.push { cls := .type "tuple", data := .seq us.toArray }).push { cls := .type "itertools.combinations", data := .fields ([.ref s1.heap.objs.size, rawInt (if r > us.length then 2 else 0), .none] ++ (List.range r).map fun (i : Nat) => rawInt i).toArray }).get? s1.heap.objs.size = some { cls := .type "tuple", data := .seq us.toArray } :=
    Heap.get?_push_of_some _ (Heap.get?_push_size _ rfl)
  have hi : IsCom ((s1.heap.push { cls := .type "tuple", data := .seq us.toArray }).push { cls := .type "itertools.combinations", data := .fields ([.ref s1.heap.objs.size, rawInt (if r > us.length then 2 else 0), .none] ++ (List.range r).map fun (i : Nat) => rawInt i).toArray }) (s1.heap.objs.size + 1) s1.heap.objs.size (if r > us.length then 2 else 0) .none (List.range r) := by
    have := Heap.get?_push_size (h := s1.heap.push { cls := .type "tuple", data := .seq us.toArray }) (o := { cls := .type "itertools.combinations", data := .fields ([.ref s1.heap.objs.size, rawInt (if r > us.length then 2 else 0), .none] ++ (List.range r).map fun (i : Nat) => rawInt i).toArray }) rfl
    rw [Heap.size_push] at this
    exact this
  have T := turn_com (P := X.prog) (w := X.w) (K := X.K) (tg := tg) (it := s1.heap.objs.size + 1) (pool := s1.heap.objs.size) (r := r) hv (Nat.ne_of_lt (Nat.lt_succ_self _)) hr hx
  have st : tnCom us (combsL xs.length r 0) (s1.heap.objs.size + 1) s1.heap.objs.size 0 ((s1.heap.push { cls := .type "tuple", data := .seq us.toArray }).push { cls := .type "itertools.combinations", data := .fields ([.ref s1.heap.objs.size, rawInt (if r > us.length then 2 else 0), .none] ++ (List.range r).map fun (i : Nat) => rawInt i).toArray }) := by
    refine ⟨⟨_, hp⟩, _, _, _, hi, ?_⟩
    rcases Nat.lt_or_ge us.length r with z | z
    · rw [if_pos z]
      refine .inr (.inr ⟨?_, rfl⟩)
      rw [combs_none (by omega) (by omega)]
      exact Nat.zero_le _
    · rw [if_neg (by omega)]
      refine .inl ⟨rfl, rfl, ?_⟩
      rw [combs_head (by omega), List.range_eq_range']
  have I2 : Inv X pins σ H { s1 with heap := (s1.heap.push { cls := .type "tuple", data := .seq us.toArray }).push { cls := .type "itertools.combinations", data := .fields ([.ref s1.heap.objs.size, rawInt (if r > us.length then 2 else 0), .none] ++ (List.range r).map fun (i : Nat) => rawInt i).toArray }, toks := s1.toks } :=
    I.kept fun b o e => Heap.get?_push_of_some _ (Heap.get?_push_of_some _ e)
  refine T.self _ 0 _ _ _ st ?_
  refine ⟨_, [s1.heap.objs.size + 1, s1.heap.objs.size], _, _, H, rfl, I2, T, st, fun c hcm => ?_, q⟩
  have hle : s1.heap.objs.size ≤ c := by
    have e' : c = s1.heap.objs.size + 1 ∨ c = s1.heap.objs.size := by simpa using hcm
    rcases e' with z | z <;> rw [z]
    · exact Nat.le_add_right _ _
    · exact Nat.le_refl _
  exact I.fpOk hle (I.hok.fresh hle)
def iComL (K : PySem.W.Frag) (ta tb : TE) : TI := fun σ H R => ta σ H fun x H1 => tb σ H1 fun y H2 => ∃ (l : Addr) (xs : List V) (r : Nat), x = .ref l ∧ y = .int r ∧ SqL K H2 l xs ∧ xs.length ≤ 1000 ∧ r ≤ 1000 ∧ R (Ico xs (combsL xs.length r 0)) H2
/-- for c in combinations(xs, b), xs a list -/
theorem pi_comL {a b tg : Expr} {ta tb : TE} {p pos : Pos} (hg : Gl X "combinations") (hm : X.mg "combinations" = some (.type "itertools.combinations")) (ha : PE X a ta) (hb : PE X b tb)
    (na : starEach [a, b] X.env = (false, eval a X.env) :: starEach [b] X.env := by rfl) (nb : starEach [b] X.env = (false, eval b X.env) :: starEach [] X.env := by rfl)
    (hp : (backTo pos (starEach [b] X.env)).any (·.1) = false := by rfl) :
    PI X tg (.Call (.Name "combinations" p) [a, b] [] pos) (iComL X.K ta tb) := by
  refine ⟨fun pins s σ H R I h => ?_⟩
  refine Call_ (ld_glob I hg hm (PyProof.Rows.callWith_type1 (args_cons (thn (ha.run pins s σ H _ I h) fun v s1 ⟨x, H1, I1, r1, q1⟩ => one_arg hb I1 q1 (fun w s5 y H5 I5 r q5 => ?_) nb) na) na hp))
  obtain ⟨l, xs, r0, rfl, rfl, hl, hx, hr, q5⟩ := q5
  obtain rfl : v = .ref l := r1
  obtain ⟨t5, rfl⟩ := r
  obtain ⟨its, hv, pl, hz⟩ := I5.list hl
  have hln := hv.length
  refine callType_newIn called_com (by decide) (typeCall_com _ _) (newCall_com _ _) (fun obj => F.args_object_init_3 obj _ _) entry_com_new (com_new (.ref l) r0 t5 hr) ?_
  refine collect_list (vs := its) pl.isList ?_ (by rw [sizeLine_eq]; omega)
  refine ⟨by rw [sizeLine_eq]; omega, ?_⟩
  have I7 : Inv X pins σ H5 { s5 with heap := (s5.heap.push (seqObj "list" #[] 0)).update s5.heap.objs.size (Obj.mapSeq (· ++ its.toArray)), toks := s5.toks } := I5.kept (t' := s5.toks) fun c u e => by
    have z : c ≠ s5.heap.objs.size := Nat.ne_of_lt (Heap.lt_size e)
    have := (Heap.SameBut.update (h := s5.heap.push (seqObj "list" #[] 0)) s5.heap.objs.size (Obj.mapSeq (· ++ its.toArray))).extBut c u z (Heap.get?_push_of_some _ e)
    exact this
  refine ⟨⟨_, push_two _ _ _ rfl, rfl⟩, ?_⟩
  exact com_made (s1 := { s5 with heap := (s5.heap.push (seqObj "list" #[] 0)).update s5.heap.objs.size (Obj.mapSeq (· ++ its.toArray)) }) I7 hv hr hx q5
end
end DL

set_option Elab.async false
set_option maxRecDepth 100000
set_option linter.all false
namespace DL
/-! ### the order of lists of the same length -/
def lexLe : List Int → List Int → Prop
  | [], _ => True
  | _ :: _, [] => False
  | x :: a, y :: b => x < y ∨ (x = y ∧ lexLe a b)
theorem lexLe.refl : ∀ a : List Int, lexLe a a
  | [] => trivial
  | _ :: a => .inr ⟨rfl, lexLe.refl a⟩
theorem lexLe.anti : ∀ {a b : List Int}, a.length = b.length → lexLe a b → lexLe b a → a = b
  | [], [], _, _, _ => rfl
  | [], _ :: _, h, _, _ => by cases h
  | _ :: _, [], h, _, _ => by cases h
  | x :: a, y :: b, h, h1, h2 => by
    rcases h1 with h1 | ⟨rfl, h1⟩
    · rcases h2 with h2 | ⟨rfl, _⟩
      · omega
      · omega
    · rcases h2 with h2 | ⟨_, h2⟩
      · omega
      · rw [lexLe.anti (by simpa using h) h1 h2]
theorem lexLe.append : ∀ {a b c d : List Int}, a.length = b.length → lexLe a b → lexLe c d → lexLe (a ++ c) (b ++ d)
  | [], [], _, _, _, _, h => h
  | [], _ :: _, _, _, h, _, _ => by cases h
  | _ :: _, [], _, _, h, _, _ => by cases h
  | x :: a, y :: b, _, _, h, h1, h2 => by
    rcases h1 with h1 | ⟨rfl, h1⟩
    · exact .inl h1
    · exact .inr ⟨rfl, lexLe.append (by simpa using h) h1 h2⟩
/-! ### choices of places, all of them, in their order -/
def nInts (c : List Nat) : List Int := c.map fun (i : Nat) => (i : Int)
theorem combs_asc {n : Nat} : ∀ {r lo : Nat} {c : List Nat}, c ∈ combsL n r lo → c.Pairwise (· < ·)
  | 0, lo, c, h => by
    rw [List.mem_singleton.mp h]
    exact List.Pairwise.nil
  | r + 1, lo, c, h => by
    obtain ⟨x, hx, h2⟩ := List.mem_flatMap.mp h
    obtain ⟨d, hd, rfl⟩ := List.mem_map.mp h2
    rw [List.pairwise_cons]
    exact ⟨fun y hy => by have := (combs_lt hd y hy).1; omega, combs_asc hd⟩
theorem combs_mem {n : Nat} : ∀ {r lo : Nat} {c : List Nat}, c.length = r → c.Pairwise (· < ·) → (∀ i ∈ c, lo ≤ i ∧ i < n) → c ∈ combsL n r lo
  | 0, lo, c, h, _, _ => by
    rw [List.length_eq_zero_iff.mp h]
    exact List.mem_singleton.mpr rfl
  | r + 1, lo, [], h, _, _ => by cases h
  | r + 1, lo, x :: c, h, hp, hm => by
    rw [List.pairwise_cons] at hp
    obtain ⟨h1, h2⟩ := hm x List.mem_cons_self
    refine List.mem_flatMap.mpr ⟨x, List.mem_range'_1.mpr ⟨h1, by omega⟩, List.mem_map.mpr ⟨c, combs_mem (by simpa using h) hp.2 fun i hi => ?_, rfl⟩⟩
    have := hp.1 i hi
    have := hm i (List.mem_cons_of_mem _ hi)
    omega
/-! ### picking from an ascending list -/
section
variable {α : Type} [DecidableEq α] [Inhabited α] {κ : α → Int}
def pickB (U : List α) (c : List Nat) : List α := c.map fun i => U.getD i default
theorem pick_mem {U : List α} {c : List Nat} (h : ∀ i ∈ c, i < U.length) : ∀ b ∈ pickB U c, b ∈ U := fun b hb => by
  obtain ⟨i, hi, rfl⟩ := List.mem_map.mp hb
  show U.getD i default ∈ U
  rw [List.getD_eq_getElem?_getD, List.getElem?_eq_getElem (h i hi)]
  exact List.getElem_mem _
theorem getD_lt {U : List α} (hU : U.Pairwise fun a b => κ a < κ b) {i j : Nat} (hij : i < j) (hj : j < U.length) : κ (U.getD i default) < κ (U.getD j default) := by
  rw [List.getD_eq_getElem?_getD, List.getD_eq_getElem?_getD, List.getElem?_eq_getElem (by omega : i < U.length), List.getElem?_eq_getElem hj]
  exact List.pairwise_iff_getElem.mp hU i j (by omega) hj hij
theorem pick_asc {U : List α} (hU : U.Pairwise fun a b => κ a < κ b) : ∀ {c : List Nat}, c.Pairwise (· < ·) → (∀ i ∈ c, i < U.length) → (pickB U c).Pairwise fun a b => κ a < κ b
  | [], _, _ => List.Pairwise.nil
  | i :: c, hp, h => by
    rw [List.pairwise_cons] at hp
    show (U.getD i default :: pickB U c).Pairwise _
    rw [List.pairwise_cons]
    refine ⟨fun b hb => ?_, pick_asc hU hp.2 fun j hj => h j (List.mem_cons_of_mem _ hj)⟩
    obtain ⟨j, hj, rfl⟩ := List.mem_map.mp hb
    exact getD_lt hU (hp.1 j hj) (h j (List.mem_cons_of_mem _ hj))
theorem idx_lt {U : List α} (hU : U.Pairwise fun a b => κ a < κ b) {a b : α} (ha : a ∈ U) (hb : b ∈ U) (h : κ a < κ b) : U.idxOf a < U.idxOf b := by
  have la := List.idxOf_lt_length_iff.mpr ha
  have lb := List.idxOf_lt_length_iff.mpr hb
  rcases Nat.lt_trichotomy (U.idxOf a) (U.idxOf b) with z | z | z
  · exact z
  · have : U[U.idxOf a] = U[U.idxOf b] := by congr 1
    rw [List.getElem_idxOf, List.getElem_idxOf] at this
    rw [this] at h
    omega
  · have := List.pairwise_iff_getElem.mp hU _ _ lb la z
    rw [List.getElem_idxOf, List.getElem_idxOf] at this
    omega
/-- any ascending choice of U is picked by its places -/
theorem pick_idx {U : List α} (hU : U.Pairwise fun a b => κ a < κ b) : ∀ {S : List α}, S.Pairwise (fun a b => κ a < κ b) → (∀ b ∈ S, b ∈ U) → (S.map U.idxOf).Pairwise (· < ·) ∧ (∀ i ∈ S.map U.idxOf, i < U.length) ∧ pickB U (S.map U.idxOf) = S
  | [], _, _ => ⟨List.Pairwise.nil, fun i hi => (by cases hi), rfl⟩
  | a :: S, hp, h => by
    rw [List.pairwise_cons] at hp
    obtain ⟨q1, q2, q3⟩ := pick_idx hU hp.2 fun b hb => h b (List.mem_cons_of_mem _ hb)
    have ha := h a List.mem_cons_self
    have la := List.idxOf_lt_length_iff.mpr ha
    rw [List.map_cons, List.pairwise_cons]
    refine ⟨⟨fun j hj => ?_, q1⟩, fun i hi => ?_, ?_⟩
    · obtain ⟨b, hb, rfl⟩ := List.mem_map.mp hj
      exact idx_lt hU ha (h b (List.mem_cons_of_mem _ hb)) (hp.1 b hb)
    · rcases List.mem_cons.mp hi with rfl | hi
      · exact la
      · exact q2 i hi
    · show U.getD (U.idxOf a) default :: pickB U (S.map U.idxOf) = a :: S
      rw [q3, List.getD_eq_getElem?_getD, List.getElem?_eq_getElem la, List.getElem_idxOf]
      rfl
end
end DL

set_option Elab.async false
set_option maxRecDepth 100000
set_option linter.all false
namespace DL
section
variable {α : Type} [DecidableEq α] [Inhabited α] {κ γ : α → Int}
/-- the least of the smallest ascending lists that hold one of each need -/
structure Least (κ : α → Int) (needs : List (List α)) (S : List α) : Prop where
  asc : S.Pairwise fun a b => κ a < κ b
  meets : ∀ n ∈ needs, ∃ b ∈ n, b ∈ S
  sub : ∀ b ∈ S, ∃ n ∈ needs, b ∈ n
  least : ∀ T : List α, T.Pairwise (fun a b => κ a < κ b) → (∀ n ∈ needs, ∃ b ∈ n, b ∈ T) → S.length < T.length ∨ (S.length = T.length ∧ lexLe (S.map κ) (T.map κ))
theorem Least.nd {N : List (List α)} {S : List α} (h : Least κ N S) : S.Nodup := by
  refine List.Pairwise.imp (fun {a b} h z => ?_) h.asc
  have h : κ a < κ b := h
  rw [z] at h
  omega
theorem Least.nil : Least κ ([] : List (List α)) [] := ⟨List.Pairwise.nil, fun n h => (by cases h), fun b h => (by cases h), fun T _ _ => by
  cases T with
  | nil => exact .inr ⟨rfl, trivial⟩
  | cons a T => exact .inl (Nat.zero_lt_succ _)⟩
/-! ### needs of unlike groups -/
theorem Least.uniq {N : List (List α)} {S T : List α} (inj : ∀ a ∈ S, ∀ b ∈ T, κ a = κ b → a = b) (h1 : Least κ N S) (h2 : Least κ N T) : S = T := by
  have a := h1.least T h2.asc h2.meets
  have b := h2.least S h1.asc h1.meets
  have e : S.length = T.length := by omega
  have l1 : lexLe (S.map κ) (T.map κ) := by
    rcases a with z | z
    · omega
    · exact z.2
  have l2 : lexLe (T.map κ) (S.map κ) := by
    rcases b with z | z
    · omega
    · exact z.2
  have em := lexLe.anti (by rw [List.length_map, List.length_map]; exact e) l1 l2
  refine List.ext_getElem e fun i i1 i2 => ?_
  have := congrArg (fun l => l[i]?) em
  simp only [List.getElem?_map, List.getElem?_eq_getElem i1, List.getElem?_eq_getElem i2, Option.map_some, Option.some.injEq] at this
  exact inj _ (List.getElem_mem _) _ (List.getElem_mem _) this
end
/-! ### bits -/
end DL

set_option Elab.async false
set_option maxRecDepth 100000
set_option maxHeartbeats 2000000
namespace DL
open PySem PySem.Spec PyProof.Rows L2
/-! ### sets whose members are tuples of ints and texts -/
abbrev IsM (P : Program) (w : World) (h : Heap) (k : List Key) (b : Addr) : Prop := IsTupleKey (mixKind P w) h k b
abbrev hM (P : Program) (w : World) (k : List Key) : Int := tupleKeyHash (mixKind P w) k
abbrev MEnt := Addr × List Key
def rowM (P : Program) (w : World) (e : MEnt) : Int × Value := (hM P w e.2, .ref e.1)
section
variable {P : Program} {w : World} {A : Around} {E : Value → Shared → Prop} {s : Shared}
/-! ### the set itself -/
structure SetM (P : Program) (w : World) (h : Heap) (a : Addr) (L : List MEnt) (es : Array (Int × Value)) (ep : Nat) (t : SetTable) : Prop where
  obj : ∃ o, h.get? a = some o ∧ o.ExactSet ∧ o.data = .set es ep t
  rows : es.toList = L.map (rowM P w)
  tab : TabOk t (L.map fun e => hM P w e.2)
  nd : (L.map (·.2)).Nodup
  mem : ∀ e ∈ L, IsM P w h e.2 e.1
  led : w.params.followText "set-order" = true ∨ t.led = true
  room : L.length * 5 < t.mask * 3
  few : L.length < 64
variable {a : Addr} {L : List MEnt} {es : Array (Int × Value)} {ep : Nat} {t : SetTable}
end
end DL

set_option Elab.async false
set_option maxRecDepth 100000
set_option maxHeartbeats 2000000

set_option Elab.async false
set_option maxRecDepth 100000
set_option maxHeartbeats 3200000
namespace DL
open PySem PySem.Spec PyProof.Rows L2
/-! ### set(xs), xs a list of ints or texts -/
/-- L: what the first i of ks are, each once -/
structure MetW (ks : List Key) (i : Nat) (L : List Key) : Prop where
  nd : L.Nodup
  len : L.length ≤ i
  mem : ∀ k, k ∈ L ↔ k ∈ ks.take i
theorem MetW.zero (ks : List Key) : MetW ks 0 [] := ⟨List.nodup_nil, Nat.le_refl _, fun k => by rw [List.take_zero]⟩
theorem MetW.more {ks : List Key} {i : Nat} {L L2 : List Key} {k : Key} (m : MetW ks i L) (e : ks[i]? = some k) (a : Adds k L L2) : MetW ks (i + 1) L2 := by
  have etk : ks.take (i + 1) = ks.take i ++ [k] := by
    obtain ⟨h1, h2⟩ := List.getElem?_eq_some_iff.mp e
    rw [List.take_succ_eq_append_getElem h1, h2]
  by_cases q : k ∈ L
  · rw [a.old q]
    refine ⟨m.nd, Nat.le_succ_of_le m.len, fun j => ?_⟩
    rw [etk, List.mem_append, List.mem_singleton, m.mem j]
    exact ⟨.inl, fun h => h.elim id fun z => by rw [z]; exact (m.mem k).mp q⟩
  · have p := a.new q
    refine ⟨p.nodup_iff.mpr (List.nodup_cons.mpr ⟨q, m.nd⟩), by rw [p.length_eq, List.length_cons]; exact Nat.succ_le_succ m.len, fun j => ?_⟩
    rw [etk, List.mem_append, List.mem_singleton, p.mem_iff, List.mem_cons, m.mem j]
    exact Or.comm
end DL

set_option Elab.async false
set_option maxRecDepth 100000
set_option maxHeartbeats 3200000
namespace DL
open PySem PySem.Spec PyProof.Rows L2
/-! ### set(xs), xs tuples of ints and texts -/
/-- L: what the first i of ks are, each tuple once -/
structure MetM (ks : List MEnt) (i : Nat) (L : List MEnt) : Prop where
  len : L.length ≤ i
  sub : ∀ e ∈ L, e ∈ ks.take i
  all : ∀ e ∈ ks.take i, e.2 ∈ L.map (·.2)
theorem MetM.zero (ks : List MEnt) : MetM ks 0 [] := ⟨Nat.le_refl _, fun e h => (by cases h), fun e h => (by rw [List.take_zero] at h; cases h)⟩
theorem MetM.more {ks L L2 : List MEnt} {i : Nat} {e : MEnt} (m : MetM ks i L) (at' : ks[i]? = some e) (old : e.2 ∈ L.map (·.2) → L2 = L) (new : e.2 ∉ L.map (·.2) → L2.Perm (e :: L)) : MetM ks (i + 1) L2 := by
  have tk : ks.take (i + 1) = ks.take i ++ [e] := by
    obtain ⟨h1, h2⟩ := List.getElem?_eq_some_iff.mp at'
    rw [List.take_succ_eq_append_getElem h1, h2]
  by_cases q : e.2 ∈ L.map (·.2)
  · rw [old q]
    refine ⟨Nat.le_succ_of_le m.len, fun d hd => by rw [tk]; exact List.mem_append_left _ (m.sub d hd), fun d hd => ?_⟩
    rw [tk] at hd
    rcases List.mem_append.mp hd with h | h
    · exact m.all d h
    · rw [List.mem_singleton.mp h]
      exact q
  · have p := new q
    refine ⟨by rw [p.length_eq]; exact Nat.succ_le_succ m.len, fun d hd => ?_, fun d hd => ?_⟩
    · rw [tk]
      rcases List.mem_cons.mp (p.mem_iff.mp hd) with rfl | h
      · exact List.mem_append_right _ (List.mem_singleton.mpr rfl)
      · exact List.mem_append_left _ (m.sub d h)
    · rw [tk] at hd
      refine (p.map (·.2)).mem_iff.mpr ?_
      rcases List.mem_append.mp hd with h | h
      · exact List.mem_cons_of_mem _ (m.all d h)
      · rw [List.mem_singleton.mp h]
        exact List.mem_cons_self
section
variable {P : Program} {w : World} {A : Around} {E : Value → Shared → Prop} {s : Shared}
theorem IsM.keep {h h' : Heap} {k : List Key} {b : Addr} (x : IsM P w h k b) (kp : ∀ c o, h.get? c = some o → h'.get? c = some o) : IsM P w h' k b := by
  obtain ⟨o, its, m, g, r⟩ := x
  exact ⟨o, its, m, kp b o g, r⟩
theorem SetM.keep {h h' : Heap} {a : Addr} {L : List MEnt} {es : Array (Int × Value)} {ep : Nat} {t : SetTable} (R : SetM P w h a L es ep t) (g : ∀ o, h.get? a = some o → h'.get? a = some o) (m : ∀ e ∈ L, IsM P w h' e.2 e.1) : SetM P w h' a L es ep t := by
  obtain ⟨o, go, r⟩ := R.obj
  exact ⟨⟨o, g o go, r⟩, R.rows, R.tab, R.nd, m, R.led, R.room, R.few⟩
end
end DL

set_option Elab.async false
set_option maxRecDepth 100000
set_option maxHeartbeats 3200000

set_option Elab.async false
set_option maxRecDepth 100000
set_option maxHeartbeats 3200000

set_option Elab.async false
set_option maxRecDepth 100000
set_option maxHeartbeats 3200000
namespace DL
open PySem PySem.Spec PyProof.Rows L2
/-! ### sets of bars: set(..) and sorted(..) -/
structure SetM0 (P : Program) (w : World) (h : Heap) (a : Addr) (L : List MEnt) : Prop where
  h : ∃ (es : Array (Int × Value)) (ep : Nat) (t : SetTable), (∃ o, h.get? a = some o ∧ o.ExactSet ∧ o.data = .set es ep t) ∧ es.toList = L.map (rowM P w) ∧ TabOk t (L.map fun e => hM P w e.2) ∧ (L.map (·.2)).Nodup ∧
    (w.params.followText "set-order" = true ∨ t.led = true) ∧ L.length * 5 < t.mask * 3 ∧ L.length < 64
theorem SetM.bare {P : Program} {w : World} {h : Heap} {a : Addr} {L : List MEnt} {es : Array (Int × Value)} {ep : Nat} {t : SetTable} (R : SetM P w h a L es ep t) : SetM0 P w h a L := ⟨⟨es, ep, t, R.obj, R.rows, R.tab, R.nd, R.led, R.room, R.few⟩⟩
theorem SetM0.whole {P : Program} {w : World} {h : Heap} {a : Addr} {L : List MEnt} (R : SetM0 P w h a L) (m : ∀ e ∈ L, IsM P w h e.2 e.1) : ∃ es ep t, SetM P w h a L es ep t := by
  obtain ⟨es, ep, t, h1, h2, h3, h4, h5, h6, h7⟩ := R.h
  exact ⟨es, ep, t, h1, h2, h3, h4, m, h5, h6, h7⟩
section
variable {X : Cx}
def adB (H : Hp) (v : Value) : Addr × Bar := ((match v with | .ref a => a | _ => 0 : Addr), barAt H (backV v))
theorem adB_of {H : Hp} {b : Addr × Bar} (h : H b.1 = some (.tup b.2.vs)) : adB H (.ref b.1) = b := by
  show (b.1, barAt H (.ref b.1)) = b
  rw [barAt_of h]
theorem isBar_of {pins : List (Addr × Obj)} {σ : L2.St} {H : Hp} {s : Shared} {a : Addr} {b : Bar} (I : Inv X pins σ H s) (h : H a = some (.tup b.vs)) : IsBarV s.heap (.ref a) b := by
  obtain ⟨_, its, rv, oo, h1, h2, n, h3⟩ := (show ObjOk X.prog X.w H s.heap a (.tup b.vs) from I.hok a _ h)
  cases rv with
  | cons r1 rv =>
    cases rv with
    | cons r2 rv =>
      cases rv with
      | cons r3 rv =>
        cases rv with
        | cons r4 rv =>
          cases rv
          obtain ⟨t1, rfl⟩ := r1
          obtain ⟨t2, rfl⟩ := r2
          obtain ⟨t3, rfl⟩ := r3
          obtain ⟨t4, rfl⟩ := r4
          exact ⟨a, oo, t1, t2, t3, t4, n, rfl, h1, h2, h3⟩
end
end DL

set_option Elab.async false
set_option maxRecDepth 100000
set_option maxHeartbeats 4000000

set_option Elab.async false
set_option maxRecDepth 100000
set_option maxHeartbeats 2000000

set_option Elab.async false
set_option maxRecDepth 100000
namespace DL
open PySem L2 HT TL RZ
/-! ### the first row that parts two cabinets -/
def diffD (b1 b2 : List Bar) (st : List Bool) : Option Int := (drs st.length).find? fun d => goesB b1 st d != goesB b2 st d
def apartE (b1 b2 : List Bar) : List Ent → Option (List Int)
  | [] => none
  | e :: es => match diffD b1 b2 e.1 with
    | some d => some (e.2 ++ [d])
    | none => apartE b1 b2 es
def InR (n : Nat) (r : List Int) : Prop := ∀ d ∈ r, 0 ≤ d ∧ d < n
theorem drs_mem {n : Nat} {d : Int} : d ∈ drs n ↔ 0 ≤ d ∧ d < n := by
  unfold drs
  constructor
  · intro h
    obtain ⟨i, hi, rfl⟩ := List.mem_map.mp h
    have := List.mem_range.mp hi
    omega
  · intro h
    exact List.mem_map.mpr ⟨d.toNat, List.mem_range.mpr (by omega), by omega⟩
theorem diff_none {b1 b2 : List Bar} {st : List Bool} (h : diffD b1 b2 st = none) {d : Int} (h0 : 0 ≤ d) (h1 : d < st.length) : goesB b1 st d = goesB b2 st d := by
  unfold diffD at h
  rw [List.find?_eq_none] at h
  have := h d (drs_mem.mpr ⟨h0, h1⟩)
  simpa using this
theorem apart_none' {b1 b2 : List Bar} : ∀ {es : List Ent}, apartE b1 b2 es = none → ∀ e ∈ es, diffD b1 b2 e.1 = none
  | [], _, e, he => by cases he
  | a :: es, h, e, he => by
    unfold apartE at h
    cases q : diffD b1 b2 a.1 with
    | some d => rw [q] at h; cases h
    | none =>
      rw [q] at h
      rcases List.mem_cons.mp he with rfl | he
      · exact q
      · exact apart_none' h e he
section
variable {b1 b2 : List Bar} {s0 : List Bool} {es : List Ent}
theorem InR.init {n : Nat} {r : List Int} {d : Int} (h : InR n (r ++ [d])) : InR n r ∧ 0 ≤ d ∧ d < n := ⟨fun x hx => h x (List.mem_append_left _ hx), h d (List.mem_append_right _ (List.mem_singleton.mpr rfl))⟩
theorem InR.low {n : Nat} {r : List Int} (h : InR n r) (h7 : n ≤ 7) : Low7 r := fun d hd => by
  have := h d hd
  omega
theorem run_step {r : List Int} {d : Int} (e : runB b1 s0 r = runB b2 s0 r) (h : ∀ st, runB b1 s0 r = some st → goesB b1 st d = goesB b2 st d) : runB b1 s0 (r ++ [d]) = runB b2 s0 (r ++ [d]) := by
  rw [runB_snoc, runB_snoc, ← e]
  cases q : runB b1 s0 r with
  | none => rfl
  | some st => rw [Option.bind_some, Option.bind_some, h st q]
theorem apart_none (I : BI b1 s0 es.length es) (h7 : s0.length ≤ 7) (h : apartE b1 b2 es = none) : ∀ r, InR s0.length r → runB b1 s0 r = runB b2 s0 r := by
  intro r
  refine snoc_ind (p := fun (r : List Int) => InR s0.length r → runB b1 s0 r = runB b2 s0 r) (fun _ => rfl) (fun l d ih hr => ?_) r
  obtain ⟨h1, h2, h3⟩ := hr.init
  refine run_step (ih h1) fun st hst => ?_
  obtain ⟨e, he, e1, _⟩ := I.opt h7 l h1 st hst
  have := apart_none' h e he
  rw [e1] at this
  refine diff_none this h2 ?_
  rw [← e1, (I.led e he).2.2]
  exact h3
end
end DL

set_option Elab.async false
set_option maxRecDepth 100000

set_option Elab.async false
set_option maxRecDepth 100000
namespace DL
open PySem L2 HT TL RZ
/-! ### == of bars as data -/
theorem eqv_bar (a b : Bar) : PyData.eqv (barD a) (barD b) = decide (a = b) := by
  have e : PyData.eqv (barD a) (barD b) = ((a.d == b.d) && (decide (a.w = b.w) && ((a.o == b.o) && decide (a.t = b.t)))) := by
    unfold barD
    simp [PyData.eqv, PyData.eqvAll, wd_beq]
  rw [e, Bool.eq_iff_iff]
  cases a
  cases b
  simp
/-! ### the bars against each pull that does not go -/
structure NeedsAt (H : Hp) (x : Addr) (ks : List (Addr × Bar)) (gs : List (Addr × List (Addr × Bar))) : Prop where
  el : ∀ g ∈ gs, H g.1 = some (.lst (g.2.map fun k => V.ref k.1)) ∧ g.1 ≠ x ∧ ∀ k ∈ g.2, k ∈ ks
theorem NeedsAt.same {H H' : Hp} {x : Addr} {ks : List (Addr × Bar)} {gs : List (Addr × List (Addr × Bar))} (N : NeedsAt H x ks gs) (s : Same H H') : NeedsAt H' x ks gs := ⟨fun g hg => ⟨s _ _ (N.el g hg).1, (N.el g hg).2⟩⟩
end DL

set_option Elab.async false
set_option maxRecDepth 100000
set_option maxHeartbeats 2000000
namespace DL
open PySem L2 HT TL
instance : Inhabited Bar := ⟨⟨0, false, 0, false⟩⟩
/-- the code of a bar, its other drawer brought within 0 to 7 -/
def Bar.cc (b : Bar) : Int := ((b.d * 2 + b2n b.w) * 8 + max 0 (min b.o 7)) * 2 + b2n b.t
abbrev NEnt := Addr × List (Addr × Bar)
/-- at l a list of needs: lists of bars -/
structure NdsAt (H : Hp) (l : Addr) (ns : List NEnt) : Prop where
  at' : H l = some (.lst (ns.map fun n => V.ref n.1))
  el : ∀ n ∈ ns, H n.1 = some (.lst (n.2.map fun b => V.ref b.1))
  bar : ∀ n ∈ ns, ∀ b ∈ n.2, H b.1 = some (.tup b.2.vs)
theorem NdsAt.same {H H' : Hp} {l : Addr} {ns : List NEnt} (N : NdsAt H l ns) (s : Same H H') : NdsAt H' l ns := ⟨s _ _ N.at', fun n hn => s _ _ (N.el n hn), fun n hn b hb => s _ _ (N.bar n hn b hb)⟩
def nsB (ns : List NEnt) : List (List Bar) := ns.map fun n => n.2.map (·.2)
/-- bars that ascend, one at least, of small numbers -/
structure NeedOk (n : List Bar) : Prop where
  ne : n ≠ []
  asc : n.Pairwise fun a b => a.code < b.code
  low : ∀ b ∈ n, b.low
theorem NeedOk.nd {n : List Bar} (h : NeedOk n) : n.Nodup := h.asc.imp fun {a b} h z => by
  rw [z] at h
  omega
end DL

set_option Elab.async false
set_option maxRecDepth 100000
set_option maxHeartbeats 3200000
namespace DL
open PySem PySem.Spec PyProof.Rows L2
/-! ### sorted(list of tuples of a kind), the kinds: bars, pairs of a drawer and a way -/
def IsTupV (h : Heap) (v : Value) (xs : List V) : Prop := ∃ (a : Addr) (o : Obj) (its : List Value) (n : Nat), v = .ref a ∧ h.get? a = some o ∧ o.cls = .type "tuple" ∧ o.data = .seq its.toArray n ∧ Vals xs its
theorem IsTupV.keeps {h h' : Heap} {v : Value} {xs : List V} (p : IsTupV h v xs) (k : ∀ c o, h.get? c = some o → o.cls = .type "tuple" → h'.get? c = some o) : IsTupV h' v xs := by
  obtain ⟨a, o, its, n, e, ho, hc, hd, hv⟩ := p
  exact ⟨a, o, its, n, e, k _ _ ho hc, hc, hd, hv⟩
/-- pairs of a drawer and a way -/
abbrev Pr := Int × Bool
def IsPrV (h : Heap) (v : Value) (p : Pr) : Prop := ∃ a o t1 t2 n, v = .ref a ∧ h.get? a = some o ∧ o.cls = .type "tuple" ∧ o.data = .seq #[.int p.1 t1, .str (wd p.2) t2] n
theorem IsPrV.keeps {h h' : Heap} {v : Value} {b : Pr} (p : IsPrV h v b) (k : ∀ c o, h.get? c = some o → o.cls = .type "tuple" → h'.get? c = some o) : IsPrV h' v b := by
  obtain ⟨a, o, t1, t2, n, e, ho, hc, hd⟩ := p
  exact ⟨a, o, t1, t2, n, e, k _ _ ho hc, hc, hd⟩
/-! ### d.setdefault(t, x), t a tuple -/
end DL

set_option Elab.async false
set_option maxRecDepth 100000
set_option maxHeartbeats 2000000
namespace DL
open PySem L2 HT TL
/-- a need's drawer and way -/
def pk (n : NEnt) : Pr := match n.2 with
  | [] => (0, false)
  | b :: _ => (b.2.d, b.2.w)
def prKey (p : Pr) : List Key := [.inl p.1, .inr (wd p.2)]
def gT (gs : List (Pr × Addr)) : List (List Key × V) := gs.map fun g => (prKey g.1, .ref g.2)
end DL

set_option Elab.async false
set_option maxRecDepth 100000
set_option maxHeartbeats 2000000
namespace DL
open PySem L2 HT TL
/-! ### all bars -/
def ob3 (d : Int) (w : Bool) (o : Int) : List Bar := if o = d then [] else [⟨d, w, o, false⟩, ⟨d, w, o, true⟩]
def ob2 (n : Nat) (d : Int) (w : Bool) : List Bar := (drs n).flatMap (ob3 d w)
def ob1 (n : Nat) (d : Int) : List Bar := [false, true].flatMap (ob2 n d)
def allB (n : Nat) : List Bar := (drs n).flatMap (ob1 n)
theorem allB_mem {n : Nat} {b : Bar} : b ∈ allB n ↔ b.ok n := by
  unfold allB ob1 ob2 ob3 Bar.ok
  simp only [List.mem_flatMap]
  constructor
  · rintro ⟨d, hd, w, hw, o, ho, hb⟩
    obtain ⟨d0, d1⟩ := drs_mem.mp hd
    obtain ⟨o0, o1⟩ := drs_mem.mp ho
    by_cases q : o = d
    · rw [if_pos q] at hb
      cases hb
    · rw [if_neg q] at hb
      simp only [List.mem_cons, List.not_mem_nil, or_false] at hb
      rcases hb with rfl | rfl
      · exact ⟨d0, d1, o0, o1, fun z => q z.symm⟩
      · exact ⟨d0, d1, o0, o1, fun z => q z.symm⟩
  · rintro ⟨d0, d1, o0, o1, ne⟩
    refine ⟨b.d, drs_mem.mpr ⟨d0, d1⟩, b.w, by cases b.w <;> simp, b.o, drs_mem.mpr ⟨o0, o1⟩, ?_⟩
    rw [if_neg (fun z => ne z.symm)]
    cases b with
    | mk d w o t => cases t <;> simp
theorem flat_take {α β : Type} {l : List α} {i : Nat} {x : α} (f : α → List β) (h : l[i]? = some x) : (l.take (i + 1)).flatMap f = (l.take i).flatMap f ++ f x := by
  obtain ⟨hil, e⟩ := List.getElem?_eq_some_iff.mp h
  rw [List.take_succ_eq_append_getElem hil, e, List.flatMap_append, List.flatMap_cons, List.flatMap_nil, List.append_nil]
/-- at D the bars that came so far -/
structure AccB (H0 H : Hp) (D : Addr) (pre : List Bar) : Prop where
  s : Same H0 H
  h : ∃ bs : List (Addr × Bar), H D = some (.lst (bs.map fun b => V.ref b.1)) ∧ bs.map (·.2) = pre ∧ ∀ b ∈ bs, H b.1 = some (.tup b.2.vs)
theorem AccB.len {H0 H : Hp} {D : Addr} {pre : List Bar} (A : AccB H0 H D pre) {bs : List (Addr × Bar)} (e : bs.map (·.2) = pre) : bs.length = pre.length := by rw [← e, List.length_map]
theorem AccB.push {H H4 H5 : Hp} {D q : Addr} {pre : List Bar} {b : Bar} (hD : H D = none) (A : AccB H H4 D pre) (s5 : Same H4 H5) (f5 : H5 q = some (.tup b.vs)) (l : pre.length < 1000) : ∃ xs, H5 D = some (.lst xs) ∧ xs.length = pre.length ∧ AccB H (upd H5 D (.lst (xs ++ [.ref q]))) D (pre ++ [b]) := by
  obtain ⟨bs, h1, h2, h3⟩ := A.h
  have hD5 := s5 _ _ h1
  refine ⟨_, hD5, by rw [← h2, List.length_map, List.length_map], fun b o eb => by rw [upd_ne (ne_of_none eb hD)]; exact s5 _ _ (A.s _ _ eb), bs ++ [(q, b)], ?_, ?_, fun x hb => ?_⟩
  · rw [upd_same, List.map_append]
    rfl
  · rw [List.map_append, h2]
    rfl
  · rcases List.mem_append.mp hb with h | h
    · have z := s5 _ _ (h3 x h)
      rw [upd_ne (ne_of z hD5 (by intro y; cases y))]
      exact z
    · rw [List.mem_singleton.mp h, upd_ne (ne_of f5 hD5 (by intro y; cases y))]
      exact f5
theorem ob_len (n : Nat) : (allB n).length ≤ n * (2 * (n * 2)) := by
  have h3 : ∀ d w o, (ob3 d w o).length ≤ 2 := fun d w o => by
    unfold ob3
    split <;> simp
  have fl : ∀ {α : Type} (l : List α) (f : α → List Bar) (k : Nat), (∀ x, (f x).length ≤ k) → (l.flatMap f).length ≤ l.length * k := fun l f k h => by
    induction l with
    | nil => simp
    | cons x l ih =>
      rw [List.flatMap_cons, List.length_append, List.length_cons, Nat.succ_mul]
      have := h x
      omega
  have h2 : ∀ d w, (ob2 n d w).length ≤ n * 2 := fun d w => by
    have := fl (drs n) (ob3 d w) 2 (h3 d w)
    rwa [drs_len] at this
  have h1 : ∀ d, (ob1 n d).length ≤ 2 * (n * 2) := fun d => fl [false, true] (ob2 n d) _ (h2 d)
  have := fl (drs n) (ob1 n) _ h1
  rwa [drs_len] at this
structure spAllBars (vs : List V) (H : Hp) (Q : VK) (_ : XK) : Prop where
  h : ∃ n : Nat, vs = [.int n] ∧ n ≤ 7 ∧ ∀ (p : Addr) (bs : List (Addr × Bar)) (H' : Hp), H p = none → Same H H' → H' p = some (.lst (bs.map fun b => V.ref b.1)) → bs.map (·.2) = allB n → (∀ b ∈ bs, H' b.1 = some (.tup b.2.vs)) → Q (.ref p) H'
theorem bar_few {n : Nat} (h7 : n ≤ 7) (l : List Bar) (h : ∃ r, l ++ r = allB n) : l.length < 1000 := by
  obtain ⟨r, e⟩ := h
  have e2 := ob_len n
  have e3 : n * (2 * (n * 2)) ≤ 7 * (2 * (7 * 2)) := Nat.mul_le_mul h7 (Nat.mul_le_mul (Nat.le_refl _) (Nat.mul_le_mul h7 (Nat.le_refl _)))
  rw [← e, List.length_append] at e2
  omega
theorem pre_few {n i j m r : Nat} {wy : Bool} (n7 : n ≤ 7) (hi : i < n) (ew : [false, true][j]? = some wy) (hm : m < n) (q : m ≠ i) : (((drs n).take i).flatMap (ob1 n) ++ ([false, true].take j).flatMap (ob2 n i) ++ ((drs n).take m).flatMap (ob3 i wy) ++ ([false, true].take r).map fun t => (⟨i, wy, m, t⟩ : Bar)).length < 1000 := by
  have e3 : ob3 (i : Int) wy (m : Int) = [false, true].map fun t => (⟨i, wy, m, t⟩ : Bar) := by
    unfold ob3
    rw [if_neg (by omega)]
    rfl
  have t1 : ∀ {α β : Type} (l : List α) (k : Nat) (x : α) (f : α → List β), l[k]? = some x → (l.take k).flatMap f ++ (f x ++ (l.drop (k + 1)).flatMap f) = l.flatMap f := fun l k x f hx => by
    obtain ⟨hk, e⟩ := List.getElem?_eq_some_iff.mp hx
    have : l = l.take k ++ x :: l.drop (k + 1) := by rw [← e, ← List.drop_eq_getElem_cons hk, List.take_append_drop]
    conv => rhs; rw [this]
    rw [List.flatMap_append, List.flatMap_cons]
  refine bar_few n7 _ ⟨(([false, true].drop r).map fun t => (⟨i, wy, m, t⟩ : Bar)) ++ ((drs n).drop (m + 1)).flatMap (ob3 i wy) ++ ([false, true].drop (j + 1)).flatMap (ob2 n i) ++ ((drs n).drop (i + 1)).flatMap (ob1 n), ?_⟩
  have a3 := t1 (drs n) m m (ob3 i wy) (drs_get hm)
  have a2 := t1 [false, true] j wy (ob2 n i) ew
  have a1 := t1 (drs n) i i (ob1 n) (drs_get hi)
  have hsp : ([false, true].map fun t => (⟨i, wy, m, t⟩ : Bar)) = (([false, true].take r).map fun t => (⟨i, wy, m, t⟩ : Bar)) ++ ([false, true].drop r).map fun t => (⟨i, wy, m, t⟩ : Bar) := by rw [← List.map_append, List.take_append_drop]
  rw [e3, hsp] at a3
  unfold allB
  rw [← a1]
  have : ob1 n (i : Int) = [false, true].flatMap (ob2 n i) := rfl
  rw [this, ← a2]
  have : ob2 n (i : Int) wy = (drs n).flatMap (ob3 i wy) := rfl
  rw [this, ← a3]
  simp only [List.append_assoc]
section
variable {P : Program} {w : World} {K : PySem.W.Frag} {mg : Str → Option Value} {base : Heap}
abbrev nAB : List Str := ["drawers", "drawer", "way", "other", "stand"]
theorem scAB : FnScope nAB ["drawers"] (defScope s_all_bars) := ⟨rfl, rfl, rfl, by decide +kernel, rfl, by decide +kernel, by decide +kernel⟩
theorem ok_allBars {f : Addr} {fd : FuncData} (F : Fun K "all_bars" "all_bars" s_all_bars f fd) (T : Bt mg) (gW : ∃ aW, mg "WORDS" = some (.ref aW) ∧ ∀ H, SqT K H aW [.str "open", .str "shut"]) : FnOk P w K mg base CX0 1 f fd ["drawers"] spAllBars := by
  refine F.ok scAB (fun vs H Q E h => ?_) (fun cdv A outer s H vs Q E hr h => ?_)
  · obtain ⟨n, rfl, _⟩ := h.h
    rfl
  · obtain ⟨n, rfl, n7, k⟩ := h.h
    obtain ⟨aW, gW, hW⟩ := gW
    refine ⟨_, pss_one (ps_ret (pe_lcN (own := [("drawer", 1), ("way", 2), ("other", 3), ("stand", 4)]) (g := gName 1) (tt := tYes)
      (cs := [⟨iTup K (tC (.ref aW)), gName 2, tYes, [2, 3, 4]⟩, ⟨iRng1 (tCons (tVar 0) tNil), gName 3, tTest (tOp rNe (tVar 3) (tVar 1)), [3, 4]⟩, ⟨iTup K (tC (.ref aW)), gName 4, tYes, [4]⟩])
      (by rfl) scAB.nd (pi_range1 (by rfl) T.range (pa_cons (pv 0) pa_nil)) (blkOk_by (N := nAB) (sc := defScope s_all_bars) (by decide +kernel))
      (fun _ _ _ _ _ => pg_name (i := 1) scAB.nd rfl (Or.inl rfl)) (fun _ _ _ _ _ => pts_nil)
      (fun _ _ _ _ _ => ⟨rfl, pi_tupK (K := K) rfl (pe_glob (v := .ref aW) (by rfl) gW rfl), pg_name (i := 2) scAB.nd rfl (Or.inl rfl), pts_nil, fun _ => rfl,
        rfl, pi_range1 (by rfl) T.range (pa_cons (pv 0) pa_nil), pg_name (i := 3) scAB.nd rfl (Or.inl rfl), pts_one (pt_cmpR op_ne (pv 3) (pv 1) (nomark _)), fun _ => rfl,
        rfl, pi_tupK (K := K) rfl (pe_glob (v := .ref aW) (by rfl) gW rfl), pg_name (i := 4) scAB.nd rfl (Or.inl rfl), pts_nil, fun _ => rfl, trivial⟩)
      ⟨fun i (hi : i ∈ [3, 4]) => (by show i ∈ [2, 3, 4]; simp at hi ⊢; omega), fun i (hi : i ∈ [4]) => (by show i ∈ [3, 4]; simp at hi ⊢; omega), fun i hi => (by cases hi), trivial⟩ (fun i (hi : i ∈ [2, 3, 4]) => (by show i ∈ [1, 2, 3, 4]; simp at hi ⊢; omega))
      (fun _ _ _ _ _ => pe_tup (pa_cons (pv 1) (pa_cons (pv 2) (pa_cons (pv 3) (pa_cons (pv 4) pa_nil))))))), ?_⟩
    refine ⟨_, rfl, _, rfl, by omega, by omega, fun D hD => ?_⟩
    rw [Int.toNat_natCast]
    refine readN_by (walk_range (lo := 0) (n := n)) (fun i H' => AccB H H' D (((drs n).take i).flatMap (ob1 n))) ⟨same_upd hD, [], upd_same, rfl, fun b hb => (by cases hb)⟩ (fun _ _ _ _ => trivial) ?_ ?_
    · rintro i x H1 H1' hi A1 ⟨rfl, rfl⟩
      have ei : (0 : Int) + (i : Nat) = (i : Int) := by omega
      refine ⟨rfl, tYes_of (iteT ?_)⟩
      have hi7 : i < 7 := by omega
      refine ⟨aW, rfl, ⟨_, hW _⟩, ?_⟩
      refine inW_by (walk_bars (K := K) (a := aW) (l := [false, true]) (f := fun w => V.str (wd w))) (fun j H' => AccB H H' D (((drs n).take i).flatMap (ob1 n) ++ ([false, true].take j).flatMap (ob2 n i))) ?_ (fun _ _ _ _ => hW _) ?_ ?_
      · rw [List.take_zero, List.flatMap_nil, List.append_nil]
        exact A1
      · rintro j x H2 H2' hj A2 ⟨rfl, wy, ew, rfl⟩
        refine ⟨rfl, tt_yes rfl (iteT ?_)⟩
        refine ⟨_, rfl, _, rfl, by omega, by omega, ?_⟩
        rw [Int.toNat_natCast]
        refine inW_by (walk_range (lo := 0) (n := n)) (fun m H' => AccB H H' D (((drs n).take i).flatMap (ob1 n) ++ ([false, true].take j).flatMap (ob2 n i) ++ ((drs n).take m).flatMap (ob3 i wy))) ?_ (fun _ _ _ _ => trivial) ?_ ?_
        · rw [List.take_zero, List.flatMap_nil, List.append_nil]
          exact A2
        · rintro m x H3 H3' hm A3 ⟨rfl, rfl⟩
          have em : (0 : Int) + (m : Nat) = (m : Int) := by omega
          refine ⟨rfl, ?_⟩
          rw [flat_take (ob3 i wy) (drs_get hm)]
          refine ⟨_, rfl, _, rfl, rfl, _, rfl, ?_⟩
          have e0 : decide ((V.int ((0 : Int) + (m : Nat))) = V.int ((0 : Int) + (i : Nat))) = decide (m = i) := decide_eq_decide.mpr ⟨fun z => by injection z with z; omega, fun z => by rw [z]⟩
          show if (!decide ((V.int ((0 : Int) + (m : Nat))) = V.int ((0 : Int) + (i : Nat)))) = true then _ else _
          rw [e0]
          by_cases q : m = i
          · have e3 : ob3 (i : Int) wy (m : Int) = [] := by
              unfold ob3
              rw [if_pos (by rw [q])]
            rw [decide_eq_true q, e3, List.append_nil]
            exact iteF A3
          · have e3 : ob3 (i : Int) wy (m : Int) = [false, true].map fun t => (⟨i, wy, m, t⟩ : Bar) := by
              unfold ob3
              rw [if_neg (by omega)]
              rfl
            rw [decide_eq_false q, e3]
            refine iteT ?_
            refine ⟨aW, rfl, ⟨_, hW _⟩, ?_⟩
            have hl := fun r => pre_few (r := r) n7 hi ew hm q
            rw [← List.append_assoc]
            generalize ((drs n).take i).flatMap (ob1 n) ++ ([false, true].take j).flatMap (ob2 n i) ++ ((drs n).take m).flatMap (ob3 i wy) = pre at A3 hl ⊢
            refine inW_by (walk_bars (K := K) (a := aW) (l := [false, true]) (f := fun w => V.str (wd w))) (fun r H' => AccB H H' D (pre ++ ([false, true].take r).map fun t => (⟨i, wy, m, t⟩ : Bar))) ?_ (fun _ _ _ _ => hW _) ?_ ?_
            · rw [List.take_zero, List.map_nil, List.append_nil]
              exact A3
            · rintro r x H4 H4' hr4 A4 ⟨rfl, st, est, rfl⟩
              refine ⟨rfl, tt_yes rfl (iteT ?_)⟩
              show elL D (tTup (tCons (tVar 1) (tCons (tVar 2) (tCons (tVar 3) (tCons (tVar 4) tNil))))) [some (.int n), some (.int ((0 : Int) + (i : Nat))), some (.str (wd wy)), some (.int ((0 : Int) + (m : Nat))), some (.str (wd st))] H4' _
              refine ⟨_, rfl, _, rfl, _, rfl, _, rfl, (by show 4 ≤ sizeLine; decide), fun q4 hq4 => ?_⟩
              obtain ⟨s5, f5⟩ := new_at (o := .tup [V.int ((0 : Int) + (i : Nat)), .str (wd wy), .int ((0 : Int) + (m : Nat)), .str (wd st)]) hq4
              generalize upd H4' q4 (.tup [V.int ((0 : Int) + (i : Nat)), .str (wd wy), .int ((0 : Int) + (m : Nat)), .str (wd st)]) = H5 at s5 f5 ⊢
              rw [ei, em] at f5
              obtain ⟨xs, g1, g2, g3⟩ := AccB.push (b := ⟨i, wy, m, st⟩) hD A4 s5 f5 (hl r)
              have hx : (List.take (r + 1) [false, true]).map (fun t => (⟨i, wy, m, t⟩ : Bar)) = (List.take r [false, true]).map (fun t => (⟨i, wy, m, t⟩ : Bar)) ++ [⟨i, wy, m, st⟩] := by
                obtain ⟨hil, e⟩ := List.getElem?_eq_some_iff.mp est
                rw [List.take_succ_eq_append_getElem hil, e, List.map_append]
                rfl
              rw [hx, ← List.append_assoc]
              exact ⟨xs, g1, by rw [g2]; exact small1000 (by have := hl r; omega), g3⟩
            · intro H4 A4
              exact A4
        · intro H3 A3
          have efull : (drs n).take n = drs n := List.take_of_length_le (by rw [drs_len]; exact Nat.le_refl _)
          rw [efull] at A3
          rw [flat_take (ob2 n i) ew, ← List.append_assoc]
          exact A3
      · intro H2 A2
        rw [flat_take (ob1 n) (drs_get hi)]
        exact A2
    · rintro H1 A1
      rw [List.take_of_length_le (by rw [drs_len]; exact Nat.le_refl _)] at A1
      obtain ⟨bs, h1, h2, h3⟩ := A1.h
      exact k D bs H1 hD A1.s h1 h2 h3
end
end DL

set_option Elab.async false
set_option maxRecDepth 100000
set_option maxHeartbeats 2000000
namespace DL
open PySem L2 HT TL RZ
/-! ### pulls that agree with what was seen -/
def thV : Option Int → V
  | none => .non
  | some d => .int d
end DL

set_option Elab.async false
set_option maxRecDepth 100000
set_option maxHeartbeats 1000000
namespace DL
open PySem L2 HT TL
/-! ### guards that are refused: pairs, numbers -/
def pairB (n : Int) (xs : List V) : Bool := setB n xs && decide (V.int (xs.length : Int) = V.int 2)
theorem kit_lt2 {K : PySem.W.Frag} : PySem.W.kitAny K (.type "list") [.type "list", .type "tuple"] = some true := by
  have e1 : PySem.W.kitOne K (.type "list") (.type "list") = some true := kit_ty (by decide +kernel)
  have e2 : PySem.W.kitOne K (.type "list") (.type "tuple") = some false := kit_ty (by decide +kernel)
  simp [PySem.W.kitAny, e1, e2]
structure spIsPair (K : PySem.W.Frag) (vs : List V) (H : Hp) (Q : VK) (_ : XK) : Prop where
  h : ∃ (n : Int) (v : V), vs = [.int n, v] ∧ ((∃ t : Value, TyX K H v t ∧ PySem.W.kitOne K t (.type "tuple") = some false ∧ Q (.bl false) H) ∨
    ∃ (a : Addr) (xs : List V), v = .ref a ∧ SqT K H a xs ∧ xs.length ≤ 1000 ∧ (∀ x ∈ xs, scV x = true) ∧ ∀ H', Same H H' → Q (.bl (pairB n xs)) H')
def GoodPair (K : PySem.W.Frag) (H : Hp) (n : Int) (y : V) : Prop := ∃ a xs, y = .ref a ∧ SqT K H a xs ∧ xs.length ≤ 1000 ∧ (∀ x ∈ xs, scV x = true) ∧ pairB n xs = true
def NoPair (K : PySem.W.Frag) (H : Hp) (n : Int) (y : V) : Prop := (∃ t : Value, TyX K H y t ∧ PySem.W.kitOne K t (.type "tuple") = some false) ∨
  ∃ a xs, y = .ref a ∧ SqT K H a xs ∧ xs.length ≤ 1000 ∧ (∀ x ∈ xs, scV x = true) ∧ pairB n xs = false
theorem GoodPair.same {K : PySem.W.Frag} {H H' : Hp} {n : Int} {y : V} (h : GoodPair K H n y) (s : Same H H') : GoodPair K H' n y := by
  obtain ⟨a, xs, e, S, r⟩ := h
  exact ⟨a, xs, e, SqT.same s S, r⟩
theorem GoodPair.sp {K : PySem.W.Frag} {H : Hp} {n : Int} {y : V} {Q : VK} {E : XK} (h : GoodPair K H n y) (k : ∀ H', Same H H' → Q (.bl true) H') : spIsPair K [.int n, y] H Q E := by
  obtain ⟨a, xs, rfl, S, hl, hs, e⟩ := h
  exact ⟨⟨n, _, rfl, .inr ⟨a, xs, rfl, S, hl, hs, fun H' s => by rw [e]; exact k H' s⟩⟩⟩
theorem NoPair.sp {K : PySem.W.Frag} {H : Hp} {n : Int} {y : V} {Q : VK} {E : XK} (h : NoPair K H n y) (k : ∀ H', Same H H' → Q (.bl false) H') : spIsPair K [.int n, y] H Q E := by
  rcases h with ⟨t, h1, h2⟩ | ⟨a, xs, rfl, S, hl, hs, e⟩
  · exact ⟨⟨n, _, rfl, .inl ⟨t, h1, h2, k H (Same.refl H)⟩⟩⟩
  · exact ⟨⟨n, _, rfl, .inr ⟨a, xs, rfl, S, hl, hs, fun H' s => by rw [e]; exact k H' s⟩⟩⟩
structure spCkNumX (K : PySem.W.Frag) (CN : Addr) (vs : List V) (H : Hp) (_ : VK) (E : XK) : Prop where
  h : ∃ (v : V) (m : Int), vs = [v, .int 0, .int m] ∧ ((∃ (t : Value) (b1 b2 : Bool), TyX K H v t ∧ PySem.W.kitOne K t (.type "int") = some b1 ∧ PySem.W.kitOne K t (.type "bool") = some b2 ∧ (b1 && !b2) = false) ∨ ∃ i : Int, v = .int i ∧ ¬ (0 ≤ i ∧ i ≤ m)) ∧
    exIni CN "n" v H E
structure spCkPrX (K : PySem.W.Frag) (C CP : Addr) (vs : List V) (H : Hp) (Q : VK) (E : XK) : Prop where
  h : ∃ (c : Addr) (v : V) (n : Int) (t : Addr), vs = [.ref c, v] ∧ CabAt C H c n t ∧
    ((∃ t, (∀ H', Same H H' → TyX K H' v t) ∧ PySem.W.kitAny K t [.type "list", .type "tuple"] = some false ∧ ∀ H', Same H H' → exIni CP "index" .non H' E) ∨
    (∃ l xs, v = .ref l ∧ SqL K H l xs ∧ (∀ H', Same H H' → TyX K H' v (.type "list")) ∧ (∀ y ∈ xs, GoodPair K H n y) ∧ ∀ H', Same H H' → Q .non H') ∨
    ∃ l pre x post, v = .ref l ∧ SqL K H l (pre ++ x :: post) ∧ (∀ H', Same H H' → TyX K H' v (.type "list")) ∧ pre.length ≤ 30 ∧ (∀ y ∈ pre, GoodPair K H n y) ∧ (∀ H', Same H H' → NoPair K H' n x) ∧ ∀ H', Same H H' → exIni CP "index" (.int pre.length) H' E)
structure spGuardsX (K : PySem.W.Frag) (C CT CP CN : Addr) (vs : List V) (H : Hp) (_ : VK) (E : XK) : Prop where
  h : ∃ (c : Addr) (v m : V) (n : Int) (t : Addr), vs = [.ref c, v, m] ∧ CabAt C H c n t ∧ ((4 < n ∧ ∀ H', Same H H' → exIni CT "most" (.int 4) H' E) ∨
    (n ≤ 4 ∧ ∀ H1, Same H H1 → spCkPrX K C CP [.ref c, v] H1 (fun _ H2 => spCkNumX K CN [m, .int 0, .int 2] H2 (fun _ _ => False) E) E))
section
variable {P : Program} {w : World} {K : PySem.W.Frag} {mg : Str → Option Value} {base : Heap}
theorem scIP : FnScope ["drawers", "value"] ["drawers", "value"] (defScope s_is_pair) := ⟨rfl, rfl, rfl, by decide +kernel, rfl, by decide +kernel, by decide +kernel⟩
theorem ok_isPair {f f1 : Addr} {fd fd1 : FuncData} (F : Fun K "is_pair" "is_pair" s_is_pair f fd) (T : Bt mg) (G : FnOk P w K mg base CX0 4 f1 fd1 ["drawers", "value"] (spIsSet K)) (g1 : mg "is_set" = some (.ref f1)) (k1 : PySem.W.keepIn K (.ref f1) = true) (b1 : Binds K fd1 ["drawers", "value"] []) :
    FnOk P w K mg base CX0 5 f fd ["drawers", "value"] (spIsPair K) := by
  refine F.ok scIP (fun vs H Q E h => ?_) (fun cdv A outer s H vs Q E hr h => ?_)
  · obtain ⟨n, v, rfl, _⟩ := h.h
    rfl
  · obtain ⟨n, v, rfl, hv⟩ := h.h
    refine ⟨_, pss_one (ps_ret (pe_and (pe_call G (hr.mono (by decide)) rfl g1 k1 b1 .nil pass0 (pa_cons (pv 0) (pa_cons (pv 1) pa_nil))) (pe_one (pe_cmpR op_eq (pe_callB call_len_seq (by rfl) T.len PySem.boot_len (pa_cons (pv 1) pa_nil)) pe_int (nomark _))))), ?_⟩
    rcases hv with ⟨t, ty, hk, k⟩ | ⟨a, xs, rfl, S, hl, hsc, k⟩
    · exact ⟨_, rfl, _, rfl, ⟨⟨n, v, rfl, .inl ⟨t, ty, hk, false, rfl, iteF k⟩⟩⟩⟩
    · refine ⟨_, rfl, _, rfl, ⟨⟨n, _, rfl, .inr ⟨a, xs, rfl, S, hl, hsc, fun H1 s1 => ⟨_, rfl, ?_⟩⟩⟩⟩⟩
      have kk := k H1 s1
      unfold pairB at kk
      cases e : setB n xs with
      | false =>
        rw [e] at kk
        exact iteF kk
      | true =>
        rw [e, Bool.true_and] at kk
        exact iteT ⟨_, rfl, a, _, rfl, .inr (SqT.same s1 S), rfl, kk⟩
theorem spGuardsX.imp {K : PySem.W.Frag} {C CT CP CN : Addr} {vs : List V} {H : Hp} {Q Q' : VK} {E E' : XK} (h : spGuardsX K C CT CP CN vs H Q E) (he : ∀ c d H', E c d H' → E' c d H') : spGuardsX K C CT CP CN vs H Q' E' := by
  have ex : ∀ D f x H', exIni D f x H' E → exIni D f x H' E' := fun D f x H' k d H2 h1 h2 h3 => he _ _ _ (k d H2 h1 h2 h3)
  obtain ⟨c, v, m, n, t, e, hc, h⟩ := h.h
  refine ⟨⟨c, v, m, n, t, e, hc, ?_⟩⟩
  rcases h with ⟨h4, k⟩ | ⟨h4, k⟩
  · exact .inl ⟨h4, fun H' s => ex _ _ _ _ (k H' s)⟩
  · refine .inr ⟨h4, fun H1 s1 => ?_⟩
    obtain ⟨c', v', n', t', e, hc', h⟩ := (k H1 s1).h
    refine ⟨⟨c', v', n', t', e, hc', ?_⟩⟩
    rcases h with ⟨t, h1, h2, k⟩ | ⟨l, xs, e2, h1, h2, h3, k⟩ | ⟨l, pre, x, post, e2, h1, h2, h3, h4, h5, k⟩
    · exact .inl ⟨t, h1, h2, fun H' s => ex _ _ _ _ (k H' s)⟩
    · refine .inr (.inl ⟨l, xs, e2, h1, h2, h3, fun H' s => ?_⟩)
      obtain ⟨v0, m0, e0, hm, hx⟩ := (k H' s).h
      exact ⟨⟨v0, m0, e0, hm, ex _ _ _ _ hx⟩⟩
    · exact .inr (.inr ⟨l, pre, x, post, e2, h1, h2, h3, h4, h5, fun H' s => ex _ _ _ _ (k H' s)⟩)
end
end DL

set_option Elab.async false
set_option maxRecDepth 100000
set_option maxHeartbeats 2000000
namespace DL
open PySem L2 HT TL RZ
/-! ### rows that agree, mathematics -/
/-- at l: the things that were seen, a list or a tuple -/
def SeenAt (H : Hp) (l : Addr) (xs : List (Option Int)) : Prop := H l = some (.lst (xs.map thV)) ∨ H l = some (.tup (xs.map thV))
theorem SeenAt.same {H H' : Hp} {l : Addr} {xs : List (Option Int)} (S : SeenAt H l xs) (s : Same H H') : SeenAt H' l xs := S.imp (s _ _) (s _ _)
def iOr (a b : TI) : TI := fun σ H R => a σ H R ∨ b σ H R
theorem pi_or {X : Cx} {tg e : Expr} {a b : TI} (ha : PI X tg e a) (hb : PI X tg e b) : PI X tg e (iOr a b) := ⟨fun pins s σ H R I h => h.elim (ha.run pins s σ H R I) (hb.run pins s σ H R I)⟩
theorem kit_tup2 {K : PySem.W.Frag} : PySem.W.kitAny K (.type "tuple") [.type "list", .type "tuple"] = some true := by
  have e1 : PySem.W.kitOne K (.type "tuple") (.type "list") = some false := kit_ty (by decide +kernel)
  have e2 : PySem.W.kitOne K (.type "tuple") (.type "tuple") = some true := kit_ty (by decide +kernel)
  simp [PySem.W.kitAny, e1, e2]
end DL

set_option Elab.async false
set_option maxRecDepth 100000
set_option maxHeartbeats 1000000
namespace DL
open PySem L2 HT TL
/-! ### tries that are refused -/
def GoodTry (H : Hp) (n : Int) (y : V) : Prop := ∃ a x0 x1 x2, y = .ref a ∧ H a = some (.tup [x0, x1, x2]) ∧ scV x0 = true ∧ scV x1 = true ∧ scV x2 = true ∧ (∀ z, x0 = .str z → z.length ≤ 1000) ∧ tryB n x0 x1 x2 = true
def NoTry (K : PySem.W.Frag) (H : Hp) (n : Int) (x : V) : Prop := (∃ t, TyX K H x t ∧ PySem.W.kitOne K t (.type "tuple") = some false) ∨ (∃ a xs, x = .ref a ∧ SqT K H a xs ∧ xs.length ≠ 3) ∨
  ∃ a x0 x1 x2, x = .ref a ∧ SqT K H a [x0, x1, x2] ∧ scV x0 = true ∧ scV x1 = true ∧ scV x2 = true ∧ (∀ z, x0 = .str z → z.length ≤ 1000) ∧ tryB n x0 x1 x2 = false
theorem GoodTry.sp {K : PySem.W.Frag} {H : Hp} {n : Int} {y : V} {Q : VK} {E : XK} (h : GoodTry H n y) (k : ∀ H', Same H H' → Q (.bl true) H') : spIsTry K [.int n, y] H Q E := by
  obtain ⟨a, x0, x1, x2, rfl, ha, c0, c1, c2, hl, ht⟩ := h
  exact ⟨⟨n, _, rfl, .inr (.inr ⟨a, x0, x1, x2, rfl, SqT.of' ha, c0, c1, c2, hl, fun H' s => by rw [ht]; exact k H' s⟩)⟩⟩
theorem NoTry.sp {K : PySem.W.Frag} {H : Hp} {n : Int} {x : V} {Q : VK} {E : XK} (h : NoTry K H n x) (k : ∀ H', Same H H' → Q (.bl false) H') : spIsTry K [.int n, x] H Q E := by
  rcases h with ⟨t, h1, h2⟩ | ⟨a, xs, rfl, h1, h2⟩ | ⟨a, x0, x1, x2, rfl, h1, c0, c1, c2, hl, ht⟩
  · exact ⟨⟨n, _, rfl, .inl ⟨t, h1, h2, k H (Same.refl H)⟩⟩⟩
  · exact ⟨⟨n, _, rfl, .inr (.inl ⟨a, xs, rfl, h1, h2, k H (Same.refl H)⟩)⟩⟩
  · exact ⟨⟨n, _, rfl, .inr (.inr ⟨a, x0, x1, x2, rfl, h1, c0, c1, c2, hl, fun H' s => by rw [ht]; exact k H' s⟩)⟩⟩
theorem GoodTry.same {H H' : Hp} {n : Int} {y : V} (h : GoodTry H n y) (s : Same H H') : GoodTry H' n y := by
  obtain ⟨a, x0, x1, x2, e, ha, r⟩ := h
  exact ⟨a, x0, x1, x2, e, s _ _ ha, r⟩
structure spCkTrX (K : PySem.W.Frag) (CB : Addr) (vs : List V) (H : Hp) (Q : VK) (E : XK) : Prop where
  h : ∃ (n : Int) (v : V), vs = [.int n, v] ∧
    ((∃ t, (∀ H', Same H H' → TyX K H' v t) ∧ PySem.W.kitAny K t [.type "list", .type "tuple"] = some false ∧ ∀ H', Same H H' → exIni CB "index" .non H' E) ∨
    (∃ l xs, v = .ref l ∧ SqL K H l xs ∧ (∀ H', Same H H' → TyX K H' v (.type "list")) ∧ 30 < xs.length ∧ ∀ H', Same H H' → exIni CB "index" .non H' E) ∨
    ∃ l pre x post, v = .ref l ∧ SqL K H l (pre ++ x :: post) ∧ (∀ H', Same H H' → TyX K H' v (.type "list")) ∧ (pre ++ x :: post).length ≤ 30 ∧ (∀ y ∈ pre, GoodTry H n y) ∧ (∀ H', Same H H' → NoTry K H' n x) ∧ ∀ H', Same H H' → exIni CB "index" (.int pre.length) H' E)
theorem spCkTrX.imp {K : PySem.W.Frag} {CB : Addr} {vs : List V} {H : Hp} {Q Q' : VK} {E E' : XK} (h : spCkTrX K CB vs H Q E) (he : ∀ c d H', E c d H' → E' c d H') : spCkTrX K CB vs H Q' E' := by
  have ex : ∀ x H', exIni CB "index" x H' E → exIni CB "index" x H' E' := fun x H' k d H2 h1 h2 h3 => he _ _ _ (k d H2 h1 h2 h3)
  obtain ⟨n, v, e, h⟩ := h.h
  rcases h with ⟨t, h1, h2, k⟩ | ⟨l, xs, e2, h1, h2, h3, k⟩ | ⟨l, pre, x, post, e2, h1, h2, h3, h4, h5, k⟩
  · exact ⟨⟨n, v, e, .inl ⟨t, h1, h2, fun H' s => ex _ _ (k H' s)⟩⟩⟩
  · exact ⟨⟨n, v, e, .inr (.inl ⟨l, xs, e2, h1, h2, h3, fun H' s => ex _ _ (k H' s)⟩)⟩⟩
  · exact ⟨⟨n, v, e, .inr (.inr ⟨l, pre, x, post, e2, h1, h2, h3, h4, h5, fun H' s => ex _ _ (k H' s)⟩)⟩⟩
end DL

set_option Elab.async false
set_option maxRecDepth 100000
set_option maxHeartbeats 2000000
namespace DL
open PySem L2 HT TL
/-! ### tries, and the bars that they leave -/
abbrev Tr := List Bool × Int × Bool
abbrev TEnt := Addr × Tr
def trVs (t : Tr) : List V := [.str (sstr t.1), .int t.2.1, .bl t.2.2]
/-- at l tries of n drawers, a list or a tuple -/
structure TrAt (H : Hp) (l : Addr) (n : Nat) (ts : List TEnt) : Prop where
  at' : H l = some (.lst (ts.map fun t => V.ref t.1)) ∨ H l = some (.tup (ts.map fun t => V.ref t.1))
  el : ∀ t ∈ ts, H t.1 = some (.tup (trVs t.2))
  ok : ∀ t ∈ ts, t.2.1.length = n ∧ 0 ≤ t.2.2.1 ∧ t.2.2.1 < n
  few : ts.length ≤ 30
theorem TrAt.same {H H' : Hp} {l : Addr} {n : Nat} {ts : List TEnt} (T : TrAt H l n ts) (s : Same H H') : TrAt H' l n ts := ⟨T.at'.imp (s _ _) (s _ _), fun t ht => s _ _ (T.el t ht), T.ok, T.few⟩
theorem TrAt.seq {H : Hp} {l : Addr} {n : Nat} {ts : List TEnt} (T : TrAt H l n ts) (K : PySem.W.Frag) : SqA K H l (ts.map fun t => V.ref t.1) := T.at'.imp (fun h => SqL.of h) fun h => SqT.of' h
def hT (b : Bar) (t : Tr) : Bool := hind b t.1 t.2.1
/-- at p a list of bars -/
structure BLst (H : Hp) (p : Addr) (ks : List (Addr × Bar)) : Prop where
  at' : H p = some (.lst (ks.map fun k => V.ref k.1))
  el : ∀ k ∈ ks, H k.1 = some (.tup k.2.vs)
theorem BLst.same {H H' : Hp} {p : Addr} {ks : List (Addr × Bar)} (B : BLst H p ks) (s : Same H H') : BLst H' p ks := ⟨s _ _ B.at', fun k hk => s _ _ (B.el k hk)⟩
end DL

set_option Elab.async false
set_option maxRecDepth 100000
set_option maxHeartbeats 2000000
namespace DL
open PySem L2 HT TL
/-! ### x in a list or tuple of data -/
theorem any_barD (bs : List Bar) (b : Bar) : (bs.map barD).any (fun z => PyData.eqv z (barD b)) = decide (b ∈ bs) := by
  rw [List.any_map, Bool.eq_iff_iff, List.any_eq_true, decide_eq_true_iff]
  constructor
  · rintro ⟨x, hx, e⟩
    have e : PyData.eqv (barD x) (barD b) = true := e
    rw [eqv_bar] at e
    rw [← of_decide_eq_true e]
    exact hx
  · intro h
    exact ⟨b, h, by show PyData.eqv (barD b) (barD b) = true; rw [eqv_bar]; exact decide_eq_true rfl⟩
/-! ### data of needs -/
/-! ### what is known of needs -/
theorem allB_asc (n : Nat) (h7 : n ≤ 7) : (allB n).Pairwise fun a b => a.code < b.code := by
  have fl : ∀ {α : Type} (l : List α) (f : α → List Bar), (∀ x ∈ l, (f x).Pairwise fun a b => a.code < b.code) → l.Pairwise (fun x y => ∀ a ∈ f x, ∀ b ∈ f y, a.code < b.code) → (l.flatMap f).Pairwise fun a b => a.code < b.code := fun l f h1 h2 => by
    induction l with
    | nil => exact List.Pairwise.nil
    | cons x l ih =>
      rw [List.pairwise_cons] at h2
      rw [List.flatMap_cons, List.pairwise_append]
      refine ⟨h1 x List.mem_cons_self, ih (fun y hy => h1 y (List.mem_cons_of_mem _ hy)) h2.2, fun a ha b hb => ?_⟩
      obtain ⟨y, hy, hby⟩ := List.mem_flatMap.mp hb
      exact h2.1 y hy a ha b hby
  have m3 : ∀ {d w o} {b : Bar}, b ∈ ob3 d w o → b.d = d ∧ b.w = w ∧ b.o = o := fun {d w o b} h => by
    unfold ob3 at h
    split at h
    · cases h
    · simp only [List.mem_cons, List.not_mem_nil, or_false] at h
      rcases h with rfl | rfl <;> exact ⟨rfl, rfl, rfl⟩
  have m2 : ∀ {d w} {b : Bar}, b ∈ ob2 n d w → b.d = d ∧ b.w = w ∧ 0 ≤ b.o ∧ b.o < n := fun {d w b} h => by
    obtain ⟨o, ho, hb⟩ := List.mem_flatMap.mp h
    obtain ⟨h1, h2, rfl⟩ := m3 hb
    exact ⟨h1, h2, (drs_mem.mp ho).1, (drs_mem.mp ho).2⟩
  have m1 : ∀ {d} {b : Bar}, b ∈ ob1 n d → b.d = d ∧ 0 ≤ b.o ∧ b.o < n := fun {d b} h => by
    obtain ⟨w, _, hb⟩ := List.mem_flatMap.mp h
    obtain ⟨h1, _, h2, h3⟩ := m2 hb
    exact ⟨h1, h2, h3⟩
  refine fl _ _ (fun d _ => fl _ _ (fun w _ => fl _ _ (fun o _ => ?_) ((drs_pw n).imp fun {x y} h a ha b hb => ?_)) ?_) ((drs_pw n).imp fun {x y} h a ha b hb => ?_)
  · unfold ob3
    split
    · exact List.Pairwise.nil
    · refine List.Pairwise.cons (fun b hb => ?_) (List.pairwise_singleton _ _)
      rw [List.mem_singleton.mp hb]
      unfold Bar.code
      have e1 : b2n true = 1 := rfl
      have e2 : b2n false = 0 := rfl
      show ((d * 2 + b2n w) * 8 + o) * 2 + b2n false < ((d * 2 + b2n w) * 8 + o) * 2 + b2n true
      omega
  · obtain ⟨h1, h2, h3⟩ := m3 ha
    obtain ⟨h4, h5, h6⟩ := m3 hb
    have := b2n_le a.t
    have := b2n_le b.t
    unfold Bar.code
    rw [h1, h2, h3, h4, h5, h6]
    omega
  · refine List.Pairwise.cons (fun w hw a ha b hb => ?_) (List.pairwise_singleton _ _)
    rw [List.mem_singleton.mp hw] at hb
    obtain ⟨h1, h2, h3, h4⟩ := m2 ha
    obtain ⟨h5, h6, h7, h8⟩ := m2 hb
    have := b2n_le a.t
    have := b2n_le b.t
    have e1 : b2n true = 1 := rfl
    have e2 : b2n false = 0 := rfl
    unfold Bar.code
    rw [h1, h2, h5, h6, e1, e2]
    omega
  · obtain ⟨h1, h2, h3⟩ := m1 ha
    obtain ⟨h4, h5, h6⟩ := m1 hb
    have := b2n_le a.t
    have := b2n_le b.t
    have := b2n_le a.w
    have := b2n_le b.w
    unfold Bar.code
    rw [h1, h4]
    omega
end DL

set_option Elab.async false
set_option maxRecDepth 100000
set_option maxHeartbeats 2000000
namespace DL
open PySem L2 HT TL
/-! ### what the law draws and asks of tries -/
theorem refs_neR {α : Type} {H : Hp} {r a x : Addr} {l : List α} {f : α → Addr} (R : RowOk H r a) (h : H x = some (.lst (l.map fun t => V.ref (f t)))) : x ≠ r := fun e => by
  obtain ⟨i, m, c, hr, _⟩ := R.h
  rw [e, hr] at h
  injection h with h
  injection h with h
  match l, h with
  | [], h => cases h
  | [_], h => cases h
  | _ :: _ :: _, h => cases h
theorem tup_ne {H : Hp} {r a x : Addr} {xs : List V} (R : RowOk H r a) (h : H x = some (.tup xs)) : x ≠ r := fun e => by
  obtain ⟨i, m, c, hr, _⟩ := R.h
  rw [e, hr] at h
  cases h
theorem TrAt.but {H H' : Hp} {r a l : Addr} {n : Nat} {ts : List TEnt} (T : TrAt H l n ts) (R : RowOk H r a) (b : But r H H') : TrAt H' l n ts :=
  ⟨T.at'.imp (fun h => b _ _ (refs_neR R h) h) (fun h => b _ _ (tup_ne R h) h), fun t ht => b _ _ (tup_ne R (T.el t ht)) (T.el t ht), T.ok, T.few⟩
theorem BLst.but {H H' : Hp} {r a p : Addr} {ks : List (Addr × Bar)} (B : BLst H p ks) (R : RowOk H r a) (b : But r H H') : BLst H' p ks :=
  ⟨b _ _ (refs_neR R B.at') B.at', fun k hk => b _ _ (tup_ne R (B.el k hk)) (B.el k hk)⟩
structure spLawBars (vs : List V) (H : Hp) (Q : VK) (_ : XK) : Prop where
  h : ∃ n : Nat, vs = [.int n] ∧ n ≤ 7 ∧ ∀ (p : Addr) (ks : List (Addr × Bar)) (H' : Hp), H p = none → Same H H' → BLst H' p ks → ks.map (·.2) = allB n → Q (.ref p) H'
section
variable {P : Program} {w : World} {K : PySem.W.Frag} {mg : Str → Option Value} {base : Heap}
abbrev nLB : List Str := ["_law_many", "_law_found", "_law_drawer", "_law_way", "_law_other"]
theorem scLB : FnScope nLB ["_law_many"] (defScope s__law_all_bars) := ⟨rfl, rfl, rfl, by decide +kernel, rfl, by decide +kernel, by decide +kernel⟩
theorem ok_lawBars {f : Addr} {fd : FuncData} (F : Fun K "_law_all_bars" "_law_all_bars" s__law_all_bars f fd) (T : Bt mg) : FnOk P w K mg base CX0 1 f fd ["_law_many"] spLawBars := by
  refine F.ok scLB (fun vs H Q E h => ?_) (fun cdv A outer s H vs Q E hr h => ?_)
  · obtain ⟨n, rfl, _⟩ := h.h
    rfl
  · obtain ⟨n, rfl, n7, k⟩ := h.h
    refine ⟨_, pss_cons (ps_set (i := 1) scLB.nd rfl (Or.inl rfl) (pe_lst pa_nil))
      (pss_cons (ps_for PassesOwn.never rfl (pi_range1 (by rfl) T.range (pa_cons (pv 0) pa_nil)) (pg_name (i := 2) scLB.nd rfl (Or.inl rfl))
        (pss_one (ps_for PassesOwn.never rfl (pi_list (pe_lst (pa_cons pe_str (pa_cons pe_str pa_nil)))) (pg_name (i := 3) scLB.nd rfl (Or.inl rfl))
          (pss_one (ps_for PassesOwn.never rfl (pi_range1 (by rfl) T.range (pa_cons (pv 0) pa_nil)) (pg_name (i := 4) scLB.nd rfl (Or.inl rfl))
            (pss_one (ps_if (pt_cmpR op_ne (pv 4) (pv 2) (nomark _)) (pss_one (ps_set (i := 1) scLB.nd rfl (Or.inl rfl) (pe_op op_cat (pv 1) (pe_lst (pa_cons (pe_tup (pa_cons (pv 2) (pa_cons (pv 3) (pa_cons (pv 4) (pa_cons pe_str pa_nil))))) (pa_cons (pe_tup (pa_cons (pv 2) (pa_cons (pv 3) (pa_cons (pv 4) (pa_cons pe_str pa_nil))))) pa_nil)))))) pss_nil)))))))
      (pss_one (ps_ret (pv 1)))), ?_⟩
    refine ⟨(by show 0 ≤ sizeLine; decide), fun p0 hp0 => ?_⟩
    obtain ⟨s0, f0⟩ := new_at (o := .lst []) hp0
    generalize upd H p0 (.lst []) = H0 at s0 f0 ⊢
    refine ⟨_, rfl, _, rfl, by omega, by omega, ?_⟩
    rw [Int.toNat_natCast]
    refine for_range (lo := 0) (n := n) (fun i σ H' => ∃ (p : Addr) (ks : List (Addr × Bar)) (u2 u3 u4 : Option V), σ = [some (.int n), some (.ref p), u2, u3, u4] ∧ H p = none ∧ Same H H' ∧ BLst H' p ks ∧ ks.map (·.2) = ((drs n).take i).flatMap (ob1 n))
      ⟨p0, [], _, _, _, rfl, hp0, s0, ⟨f0, fun k hk => (by cases hk)⟩, rfl⟩ ?_ ?_
    · rintro i σ H1 hi ⟨p, ks, u2, u3, u4, rfl, hp, s1, B1, e1⟩
      have ei : (0 : Int) + (i : Nat) = (i : Int) := by omega
      refine ⟨(by show 2 ≤ sizeLine; decide), fun q hq => ?_⟩
      obtain ⟨sq, fq⟩ := new_at (o := .lst [V.str "open", V.str "shut"]) hq
      generalize upd H1 q (.lst [V.str "open", V.str "shut"]) = H2 at sq fq ⊢
      refine ⟨q, rfl, ⟨_, SqL.of fq⟩, ?_⟩
      refine for_it (walk_lst (K := K) (a := q) (l := [false, true]) (f := fun w => V.str (wd w))) (fun j σ H' => ∃ (p : Addr) (ks : List (Addr × Bar)) (u3 u4 : Option V), σ = [some (.int n), some (.ref p), some (.int ((0 : Int) + (i : Nat))), u3, u4] ∧ H p = none ∧ Same H2 H' ∧ BLst H' p ks ∧ ks.map (·.2) = ((drs n).take i).flatMap (ob1 n) ++ ([false, true].take j).flatMap (ob2 n i))
        ⟨p, ks, _, _, rfl, hp, Same.refl _, B1.same sq, by rw [e1, List.take_zero, List.flatMap_nil, List.append_nil]⟩ (fun j σ H' _ ⟨_, _, _, _, _, _, s, _⟩ => SqL.of (s _ _ fq)) ?_ ?_
      · rintro j x σ H3 H3' hj ⟨p, ks, u3, u4, rfl, hp, s3, B3, e3⟩ ⟨rfl, wy, ew, rfl⟩
        refine ⟨_, rfl, _, rfl, by omega, by omega, ?_⟩
        rw [Int.toNat_natCast]
        refine for_range (lo := 0) (n := n) (fun m σ H' => ∃ (p : Addr) (ks : List (Addr × Bar)) (u4 : Option V), σ = [some (.int n), some (.ref p), some (.int ((0 : Int) + (i : Nat))), some (.str (wd wy)), u4] ∧ H p = none ∧ Same H2 H' ∧ BLst H' p ks ∧ ks.map (·.2) = ((drs n).take i).flatMap (ob1 n) ++ ([false, true].take j).flatMap (ob2 n i) ++ ((drs n).take m).flatMap (ob3 i wy))
          ⟨p, ks, _, rfl, hp, s3, B3, by rw [e3, List.take_zero, List.flatMap_nil, List.append_nil]⟩ ?_ ?_
        · rintro m σ H4 hm ⟨p, ks, u4, rfl, hp, s4, B4, e4⟩
          have em : (0 : Int) + (m : Nat) = (m : Int) := by omega
          rw [flat_take (ob3 i wy) (drs_get hm)]
          refine ⟨_, rfl, _, rfl, rfl, _, rfl, ?_⟩
          have e0 : decide ((V.int ((0 : Int) + (m : Nat))) = V.int ((0 : Int) + (i : Nat))) = decide (m = i) := decide_eq_decide.mpr ⟨fun z => by injection z with z; omega, fun z => by rw [z]⟩
          show if (!decide ((V.int ((0 : Int) + (m : Nat))) = V.int ((0 : Int) + (i : Nat)))) = true then _ else _
          rw [e0]
          by_cases q' : m = i
          · have e5 : ob3 (i : Int) wy (m : Int) = [] := by
              unfold ob3
              rw [if_pos (by rw [q'])]
            rw [decide_eq_true q', e5, List.append_nil]
            exact iteF ⟨p, ks, _, rfl, hp, s4, B4, e4⟩
          · have e5 : ob3 (i : Int) wy (m : Int) = [⟨i, wy, m, false⟩, ⟨i, wy, m, true⟩] := by
              unfold ob3
              rw [if_neg (by omega)]
            have hl := pre_few (r := 0) n7 hi ew hm q'
            rw [List.take_zero, List.map_nil, List.append_nil, ← e4, List.length_map] at hl
            rw [decide_eq_false q', e5]
            refine iteT ?_
            refine ⟨_, rfl, _, rfl, _, rfl, _, rfl, (by show 4 ≤ sizeLine; decide), fun a ha => ?_⟩
            obtain ⟨s5, f5⟩ := new_at (o := .tup [V.int ((0 : Int) + (i : Nat)), .str (wd wy), .int ((0 : Int) + (m : Nat)), .str "open"]) ha
            generalize upd H4 a (.tup [V.int ((0 : Int) + (i : Nat)), .str (wd wy), .int ((0 : Int) + (m : Nat)), .str "open"]) = H5 at s5 f5 ⊢
            refine ⟨_, rfl, _, rfl, _, rfl, (by show 4 ≤ sizeLine; decide), fun b hb => ?_⟩
            obtain ⟨s6, f6⟩ := new_at (o := .tup [V.int ((0 : Int) + (i : Nat)), .str (wd wy), .int ((0 : Int) + (m : Nat)), .str "shut"]) hb
            generalize upd H5 b (.tup [V.int ((0 : Int) + (i : Nat)), .str (wd wy), .int ((0 : Int) + (m : Nat)), .str "shut"]) = H6 at s6 f6 ⊢
            rw [ei, em] at f5 f6
            refine ⟨(by show 2 ≤ sizeLine; decide), fun c hc => ?_⟩
            obtain ⟨s7, f7⟩ := new_at (o := .lst [V.ref a, V.ref b]) hc
            generalize upd H6 c (.lst [V.ref a, V.ref b]) = H7 at s7 f7 ⊢
            have s47 := (s5.trans s6).trans s7
            refine ⟨p, c, _, _, rfl, rfl, s47 _ _ B4.at', f7, ?_, fun t ht => ?_⟩
            · rw [List.length_map]
              have : (2000 : Nat) ≤ sizeLine := by decide
              show ks.length + 2 ≤ sizeLine
              omega
            obtain ⟨s8, f8⟩ := new_at (o := .lst (ks.map (fun k => V.ref k.1) ++ [V.ref a, V.ref b])) ht
            generalize upd H7 t (.lst (ks.map (fun k => V.ref k.1) ++ [V.ref a, V.ref b])) = H8 at s8 f8 ⊢
            have s48 := s47.trans s8
            refine ⟨t, ks ++ [(a, ⟨i, wy, m, false⟩), (b, ⟨i, wy, m, true⟩)], _, rfl, ?_, s4.trans s48, ⟨by rw [f8, List.map_append]; rfl, fun k hk => ?_⟩, by rw [List.map_append, e4, List.append_assoc]; rfl⟩
            · exact (((s1.trans sq).trans s4).trans s47).free ht
            · rcases List.mem_append.mp hk with h | h
              · exact s48 _ _ (B4.el k h)
              · simp only [List.mem_cons, List.not_mem_nil, or_false] at h
                rcases h with rfl | rfl
                · exact s8 _ _ (s7 _ _ (s6 _ _ f5))
                · exact s8 _ _ (s7 _ _ f6)
        · rintro σ H4 ⟨p, ks, u4, rfl, hp, s4, B4, e4⟩
          refine ⟨p, ks, _, _, rfl, hp, s4, B4, ?_⟩
          have efull : (drs n).take n = drs n := List.take_of_length_le (by rw [drs_len]; exact Nat.le_refl _)
          rw [e4, efull, flat_take (ob2 n i) ew, ← List.append_assoc]
          rfl
      · rintro σ H3 ⟨p, ks, u3, u4, rfl, hp, s3, B3, e3⟩
        refine ⟨p, ks, _, _, _, rfl, hp, (s1.trans sq).trans s3, B3, ?_⟩
        rw [e3, flat_take (ob1 n) (drs_get hi)]
        rfl
    · rintro σ H1 ⟨p, ks, u2, u3, u4, rfl, hp, s1, B1, e1⟩
      rw [List.take_of_length_le (by rw [drs_len]; exact Nat.le_refl _)] at e1
      exact ⟨_, rfl, k p ks H1 hp s1 B1 e1⟩
end
end DL

set_option Elab.async false
set_option maxRecDepth 100000
set_option maxHeartbeats 1000000

set_option Elab.async false
set_option maxRecDepth 100000
set_option linter.all false
namespace DL
/-! ### all ascending lists of so many of some things, in their order -/
def lexS : List Int → List Int → Prop
  | a :: x, b :: y => a < b ∨ (a = b ∧ lexS x y)
  | _, _ => False
theorem lexS.app : ∀ {a b c d : List Int}, lexS a b → lexS (a ++ c) (b ++ d)
  | [], _, _, _, h => h.elim
  | _ :: _, [], _, _, h => h.elim
  | x :: a, y :: b, _, _, h => by
    rcases h with h | ⟨rfl, h⟩
    · exact .inl h
    · exact .inr ⟨rfl, lexS.app h⟩
theorem lexS.same : ∀ (a : List Int) {c d : List Int}, lexS c d → lexS (a ++ c) (a ++ d)
  | [], _, _, h => h
  | x :: a, _, _, h => .inr ⟨rfl, lexS.same a h⟩
theorem lexS.not : ∀ {a b : List Int}, lexS a b → ¬ lexLe b a
  | [], _, h => h.elim
  | _ :: _, [], h => h.elim
  | x :: a, y :: b, h => fun z => by
    rcases h with h | ⟨rfl, h⟩
    · rcases z with z | ⟨z, _⟩
      · omega
      · omega
    · rcases z with z | ⟨_, z⟩
      · omega
      · exact lexS.not h z
section
variable {α : Type} [DecidableEq α] {κ : α → Int}
/-- the thing comes after all of the list -/
def aft (κ : α → Int) (s : List α) (b : α) : Bool := match s.getLast? with
  | none => true
  | some a => decide (κ a < κ b)
def subsL (κ : α → Int) (U : List α) : Nat → List (List α)
  | 0 => [[]]
  | m + 1 => (subsL κ U m).flatMap fun s => (U.filter (aft κ s)).map fun b => s ++ [b]
theorem aft_asc {s : List α} (hs : s.Pairwise fun a b => κ a < κ b) {b : α} : aft κ s b = true ↔ ∀ a ∈ s, κ a < κ b := by
  unfold aft
  rcases List.eq_nil_or_concat s with rfl | ⟨t, c, rfl⟩
  · simp
  · rw [List.concat_eq_append, List.getLast?_concat, decide_eq_true_iff]
    rw [List.concat_eq_append, List.pairwise_append] at hs
    constructor
    · intro h a ha
      rcases List.mem_append.mp ha with ha | ha
      · have := hs.2.2 a ha c (List.mem_singleton.mpr rfl)
        omega
      · rw [List.mem_singleton.mp ha]
        exact h
    · intro h
      exact h c (List.mem_append_right _ (List.mem_singleton.mpr rfl))
theorem subs_mem {U : List α} : ∀ {m : Nat} {s : List α}, s ∈ subsL κ U m ↔ s.length = m ∧ s.Pairwise (fun a b => κ a < κ b) ∧ ∀ a ∈ s, a ∈ U
  | 0, s => by
    show s ∈ [[]] ↔ _
    rw [List.mem_singleton]
    constructor
    · rintro rfl
      exact ⟨rfl, List.Pairwise.nil, fun a ha => (by cases ha)⟩
    · intro h
      exact List.length_eq_zero_iff.mp h.1
  | m + 1, s => by
    show s ∈ (subsL κ U m).flatMap _ ↔ _
    rw [List.mem_flatMap]
    constructor
    · rintro ⟨t, ht, hs⟩
      obtain ⟨b, hb, rfl⟩ := List.mem_map.mp hs
      obtain ⟨h1, h2, h3⟩ := subs_mem.mp ht
      obtain ⟨hbU, hb2⟩ := List.mem_filter.mp hb
      refine ⟨by rw [List.length_append, h1]; rfl, ?_, fun a ha => ?_⟩
      · rw [List.pairwise_append]
        exact ⟨h2, List.pairwise_singleton _ _, fun a ha c hc => by rw [List.mem_singleton.mp hc]; exact (aft_asc h2).mp hb2 a ha⟩
      · rcases List.mem_append.mp ha with ha | ha
        · exact h3 a ha
        · rw [List.mem_singleton.mp ha]
          exact hbU
    · rintro ⟨h1, h2, h3⟩
      rcases List.eq_nil_or_concat s with rfl | ⟨t, c, rfl⟩
      · cases h1
      · rw [List.concat_eq_append] at h1 h2 h3 ⊢
        rw [List.pairwise_append] at h2
        refine ⟨t, subs_mem.mpr ⟨by rw [List.length_append] at h1; exact Nat.succ.inj h1, h2.1, fun a ha => h3 a (List.mem_append_left _ ha)⟩, List.mem_map.mpr ⟨c, List.mem_filter.mpr ⟨h3 c (List.mem_append_right _ (List.mem_singleton.mpr rfl)), ?_⟩, rfl⟩⟩
        exact (aft_asc h2.1).mpr fun a ha => h2.2.2 a ha c (List.mem_singleton.mpr rfl)
theorem pw_flat {β γ : Type} {R : γ → γ → Prop} (l : List β) (f : β → List γ) (h1 : ∀ x ∈ l, (f x).Pairwise R) (h2 : l.Pairwise fun x y => ∀ a ∈ f x, ∀ b ∈ f y, R a b) : (l.flatMap f).Pairwise R := by
  induction l with
  | nil => exact List.Pairwise.nil
  | cons x l ih =>
    rw [List.pairwise_cons] at h2
    rw [List.flatMap_cons, List.pairwise_append]
    refine ⟨h1 x List.mem_cons_self, ih (fun y hy => h1 y (List.mem_cons_of_mem _ hy)) h2.2, fun a ha b hb => ?_⟩
    obtain ⟨y, hy, hby⟩ := List.mem_flatMap.mp hb
    exact h2.1 y hy a ha b hby
theorem subs_lex {U : List α} (hU : U.Pairwise fun a b => κ a < κ b) : ∀ m, (subsL κ U m).Pairwise fun a b => lexS (a.map κ) (b.map κ)
  | 0 => List.pairwise_singleton _ _
  | m + 1 => by
    refine pw_flat _ _ (fun s _ => ?_) ((subs_lex hU m).imp fun {x y} h a ha b hb => ?_)
    · rw [List.pairwise_map]
      refine (hU.filter _).imp fun {x y} h => ?_
      rw [List.map_append, List.map_append]
      exact lexS.same _ (.inl h)
    · obtain ⟨x', _, rfl⟩ := List.mem_map.mp ha
      obtain ⟨y', _, rfl⟩ := List.mem_map.mp hb
      rw [List.map_append, List.map_append]
      exact lexS.app h
end
end DL

set_option Elab.async false
set_option maxRecDepth 100000

set_option Elab.async false
set_option maxRecDepth 100000
namespace DL
open PySem L2 HT TL RZ
theorem op_eqDK {X : Cx} {K : PySem.W.Frag} (hK : X.K = K) (hu : X.A.units + 64 < cLine) : OpR X (compareOp .Eq) (rEqD K) := by subst hK; exact op_eqD hu
/-! ### a bar that stands alone against some pull -/
theorem asc_nodup {n : Int} {bs : List Bar} (O : OkBars n bs) : bs.Nodup := O.asc.imp fun {a b} h z => by
  rw [z] at h
  omega
theorem map_filter {α β : Type} (f : α → β) (p : β → Bool) (l : List α) : (l.filter fun x => p (f x)).map f = (l.map f).filter p := by
  rw [List.filter_map]
  rfl
end DL

set_option Elab.async false
set_option maxRecDepth 100000
set_option maxHeartbeats 2000000
namespace DL
open PySem L2 HT TL
/-! ### > of bars -/
def rGtDK (K : PySem.W.Frag) : R2 := fun x y H Q => ∃ d e, Dp K H x d ∧ Dp K H y e ∧ PySem.W.alike d e = true ∧ d ≠ .none ∧ d.depth ≤ 64 ∧ Q (.bl (PySem.W.dataLt e d)) H
theorem op_gtDK {X : Cx} {K : PySem.W.Frag} (hK : X.K = K) (hu : X.A.units + 64 < cLine) : OpR X (compareOp .Gt) (rGtDK K) := by
  subst hK
  intro pins s σ H x y v u Q I r1 r2 ⟨d, e, hd, he, al, nn, deep, q⟩
  obtain ⟨_, rd⟩ := Dp.reads I d x v hd r1
  obtain ⟨_, re⟩ := Dp.reads I e y u he r2
  refine PySem.W.gt_data rd re al nn ?_ ⟨.bl _, H, I, rfl, q⟩
  have := Nat.min_le_left d.depth e.depth
  omega
theorem alike_bar (a b : Bar) : PySem.W.alike (barD a) (barD b) = true := by
  unfold barD
  simp [PySem.W.alike, PySem.W.alikeAll]
theorem eqv_int2 (a b : Int) : PyData.eqv (.int a) (.int b) = decide (a = b) := by
  simp only [PyData.eqv]
  rw [Bool.eq_iff_iff]
  simp
theorem eqv_wd (a b : Bool) : PyData.eqv (.str (wd a)) (.str (wd b)) = decide (a = b) := by
  revert a b
  decide +kernel
theorem lt_wd (a b : Bool) : PySem.W.dataLt (.str (wd a)) (.str (wd b)) = decide (b2n a < b2n b) := by
  rw [PySem.W.dataLt_str]
  revert a b
  decide +kernel
theorem dataLt_bar {a b : Bar} (ha : a.low) (hb : b.low) : PySem.W.dataLt (barD a) (barD b) = decide (a.code < b.code) := by
  unfold barD
  rw [PySem.W.dataLt_tuple]
  obtain ⟨a1, a2, a3, a4⟩ := ha
  obtain ⟨b1, b2, b3, b4⟩ := hb
  have aw := b2n_le a.w
  have bw := b2n_le b.w
  have at' := b2n_le a.t
  have bt := b2n_le b.t
  have ai : ∀ x y : Int, PySem.W.alike (.int x) (.int y) = true := fun _ _ => by simp [PySem.W.alike]
  have as : ∀ x y : Str, PySem.W.alike (.str x) (.str y) = true := fun _ _ => by simp [PySem.W.alike]
  by_cases h1 : a.d = b.d
  · rw [PySem.W.dataLt_all_yes (ai _ _) (by rw [eqv_int2]; exact decide_eq_true h1)]
    by_cases h2 : a.w = b.w
    · rw [PySem.W.dataLt_all_yes (as _ _) (by rw [eqv_wd]; exact decide_eq_true h2)]
      by_cases h3 : a.o = b.o
      · rw [PySem.W.dataLt_all_yes (ai _ _) (by rw [eqv_int2]; exact decide_eq_true h3)]
        by_cases h4 : a.t = b.t
        · have : a = b := Bar.ext4 h1 h2 h3 h4
          subst this
          rw [PySem.W.dataLt_all_yes (as _ _) (by rw [eqv_wd]; exact decide_eq_true rfl), decide_eq_false (by omega)]
          decide +kernel
        · rw [PySem.W.dataLt_all_no (as _ _) (by rw [eqv_wd]; exact decide_eq_false h4), lt_wd]
          refine decide_eq_decide.mpr ?_
          unfold Bar.code
          rw [h1, h2, h3]
          omega
      · rw [PySem.W.dataLt_all_no (ai _ _) (by rw [eqv_int2]; exact decide_eq_false h3), PySem.W.dataLt_int]
        refine decide_eq_decide.mpr ?_
        unfold Bar.code
        rw [h1, h2]
        omega
    · have hne : b2n a.w ≠ b2n b.w := fun z => h2 (b2n_inj z)
      rw [PySem.W.dataLt_all_no (as _ _) (by rw [eqv_wd]; exact decide_eq_false h2), lt_wd]
      refine decide_eq_decide.mpr ?_
      unfold Bar.code
      rw [h1]
      omega
  · rw [PySem.W.dataLt_all_no (ai _ _) (by rw [eqv_int2]; exact decide_eq_false h1), PySem.W.dataLt_int]
    refine decide_eq_decide.mpr ?_
    unfold Bar.code
    omega
theorem op_catAK {X : Cx} {K : PySem.W.Frag} (hK : X.K = K) : OpR X (binaryOp .Add) (rCatA K) := by subst hK; exact op_catA
/-! ### tuples of bars -/
structure TupsAt (H : Hp) (p : Addr) (ss : List NEnt) : Prop where
  at' : H p = some (.lst (ss.map fun s => V.ref s.1))
  el : ∀ s ∈ ss, H s.1 = some (.tup (s.2.map fun b => V.ref b.1))
  bar : ∀ s ∈ ss, ∀ b ∈ s.2, H b.1 = some (.tup b.2.vs)
theorem TupsAt.same {H H' : Hp} {p : Addr} {ss : List NEnt} (T : TupsAt H p ss) (s : Same H H') : TupsAt H' p ss := ⟨s _ _ T.at', fun x hx => s _ _ (T.el x hx), fun x hx b hb => s _ _ (T.bar x hx b hb)⟩
def kc (k : Addr × Bar) : Int := k.2.code
structure spSubs (K : PySem.W.Frag) (vs : List V) (H : Hp) (Q : VK) (_ : XK) : Prop where
  h : ∃ (q : Addr) (m : Nat) (ks : List (Addr × Bar)), vs = [.ref q, .int m] ∧ SqA K H q (ks.map fun k => V.ref k.1) ∧ (∀ k ∈ ks, H k.1 = some (.tup k.2.vs) ∧ k.2.low) ∧ (ks.Pairwise fun a b => kc a < kc b) ∧ ks.length ≤ 100 ∧ m ≤ 1000 ∧ (∀ i, i ≤ m → (subsL kc ks i).length ≤ 600) ∧
    ∀ (p : Addr) (ss : List NEnt) (H' : Hp), H p = none → Same H H' → TupsAt H' p ss → ss.map (·.2) = subsL kc ks m → Q (.ref p) H'
theorem eqv_tnil (xs : List PyData) : PyData.eqv (.tuple xs) (.tuple []) = xs.isEmpty := by
  cases xs <;> simp [PyData.eqv, PyData.eqvAll]
/-- some == () or one > some[-1] -/
theorem aft_test {K : PySem.W.Frag} {σ : L2.St} {H : Hp} {i j : Nat} {x y : Addr} {l : List (Addr × Bar)} {b : Bar} {Q : Bool → Hp → Prop} (hi : σ[i]? = some (some (.ref x))) (hj : σ[j]? = some (some (.ref y))) (hx : H x = some (.tup (l.map fun k => V.ref k.1))) (hl : ∀ k ∈ l, H k.1 = some (.tup k.2.vs) ∧ k.2.low) (hy : H y = some (.tup b.vs)) (hb : b.low) (a : Addr)
    (h : ∀ H', Same H H' → Q (aft kc l (a, b)) H') : tOr (tTest (tOp (rEqD K) (tVar i) (tTup tNil))) (tTest (tOp (rGtDK K) (tVar j) (tOp (rIxT K) (tVar i) (tUn (rU fun i => V.int (-i)) (tC (V.int 1)))))) σ H Q := by
  refine ⟨_, hi, (by show 0 ≤ sizeLine; decide), fun e he => ?_⟩
  obtain ⟨s1, f1⟩ := new_at (o := .tup []) he
  generalize upd H e (.tup []) = H1 at s1 f1 ⊢
  refine ⟨.tuple (l.map fun k => barD k.2), .tuple [], .tup (SqT.of' (s1 _ _ hx)) (dpAll_bars fun k hk => s1 _ _ (hl k hk).1), .tup (SqT.of' f1) .nil, dok_shaped (dok_tuple (dok_bars l)) (by decide), by decide, _, rfl, ?_⟩
  rw [eqv_tnil]
  have h1 := h H1 s1
  rcases List.eq_nil_or_concat l with rfl | ⟨t, c, rfl⟩
  · exact iteT h1
  · rw [List.concat_eq_append] at *
    have e0 : ((t ++ [c]).map fun k : Addr × Bar => barD k.2).isEmpty = false := by rw [List.map_append]; cases t <;> rfl
    rw [e0]
    refine iteF ?_
    obtain ⟨hc1, hc2⟩ := hl c (List.mem_append_right _ (List.mem_singleton.mpr rfl))
    have hat : atI ((t ++ [c]).map fun k : Addr × Bar => V.ref k.1) (-1) = some (.ref c.1) := by
      rw [List.map_append]
      exact atI_last _ _
    refine ⟨_, hj, _, hi, _, rfl, x, _, _, _, rfl, rfl, SqT.of' (s1 _ _ hx), hat, ?_⟩
    refine ⟨barD b, barD c.2, dp_bar (SqT.of' (s1 _ _ hy)), dp_bar (SqT.of' (s1 _ _ hc1)), alike_bar _ _, (by intro z; cases z), Nat.le_trans (dok_bar b).2 (by decide), _, rfl, ?_⟩
    rw [dataLt_bar hc2 hb]
    unfold aft at h1
    rw [List.getLast?_concat] at h1
    exact h1
section
variable {P : Program} {w : World} {K : PySem.W.Frag} {mg : Str → Option Value} {base : Heap}
abbrev nSs : List Str := ["_law_things", "_law_size", "_law_found", "_law_turn", "_law_wider", "_law_some", "_law_one"]
theorem scSs : FnScope nSs ["_law_things", "_law_size"] (defScope s__law_subsets) := ⟨rfl, rfl, rfl, by decide +kernel, rfl, by decide +kernel, by decide +kernel⟩
theorem ok_subs {f : Addr} {fd : FuncData} (F : Fun K "_law_subsets" "_law_subsets" s__law_subsets f fd) (T : Bt mg) : FnOk P w K mg base CX0 1 f fd ["_law_things", "_law_size"] (spSubs K) := by
  refine F.ok scSs (fun vs H Q E h => ?_) (fun cdv A outer s H vs Q E hr h => ?_)
  · obtain ⟨q, m, ks, rfl, _⟩ := h.h
    rfl
  · obtain ⟨q, m, ks, rfl, hq, hk, pw, l8, m1000, few', k⟩ := h.h
    have hu2 := hr.un
    have hu4 := Nat.lt_of_le_of_lt (Nat.add_le_add_left (by decide : 64 ≤ 200) _) hu2
    refine ⟨_, pss_cons (ps_set (i := 2) scSs.nd rfl (Or.inl rfl) (pe_lst (pa_cons (pe_tup pa_nil) pa_nil)))
      (pss_cons (ps_for PassesOwn.never rfl (pi_range1 (by rfl) T.range (pa_cons (pv 1) pa_nil)) (pg_name (i := 3) scSs.nd rfl (Or.inl rfl))
        (pss_cons (ps_set (i := 4) scSs.nd rfl (Or.inl rfl) (pe_lst pa_nil))
        (pss_cons (ps_for PassesOwn.never rfl (pi_list (pv 2)) (pg_name (i := 5) scSs.nd rfl (Or.inr rfl))
          (pss_one (ps_set (i := 4) scSs.nd rfl (Or.inl rfl) (pe_op op_cat (pv 4)
            (pe_lc (own := [("_law_one", 6)]) (g := gName 6) (by rfl) scSs.nd (pi_seq (K := K) rfl (pv 0)) (blkOk_by (N := nSs) (sc := defScope s__law_subsets) (by decide +kernel)) (fun _ _ _ _ _ => pg_name (i := 6) scSs.nd rfl (by first | exact Or.inl rfl | exact Or.inr rfl))
              (fun _ _ _ _ _ => pts_one (PW.pt (pw_or (pt_cmpR (op_eqDK (K := K) rfl hu4) (pv 5) (pe_tup pa_nil) (nomark _)) (pw_or1 (pt_cmpR (op_gtDK (K := K) rfl hu4) (pv 6) (pe_ix (ix_tupK (K := K) rfl) (pv 5) (pe_un un_neg pe_int) (fun _ _ => rfl)) (nomark _))))))
              (fun _ _ _ _ _ => pe_op (op_catAK (K := K) rfl) (pv 5) (pe_tup (pa_cons (pv 6) pa_nil))))))))
        (pss_one (ps_set (i := 2) scSs.nd rfl (Or.inl rfl) (pv 4))))))
      (pss_one (ps_ret (pv 2)))), ?_⟩
    refine ⟨(by show 0 ≤ sizeLine; decide), fun e0 he0 => ?_⟩
    obtain ⟨s0, f0⟩ := new_at (o := .tup []) he0
    generalize upd H e0 (.tup []) = H0 at s0 f0 ⊢
    refine ⟨(by show 1 ≤ sizeLine; decide), fun p0 hp0 => ?_⟩
    obtain ⟨s1, f1⟩ := new_at (o := .lst [.ref e0]) hp0
    generalize upd H0 p0 (.lst [.ref e0]) = H1 at s1 f1 ⊢
    have kk : ∀ {H' : Hp}, Same H H' → ∀ k ∈ ks, H' k.1 = some (.tup k.2.vs) := fun s k hk' => s _ _ (hk k hk').1
    refine ⟨_, rfl, _, rfl, by omega, by omega, ?_⟩
    rw [Int.toNat_natCast]
    refine for_range (lo := 0) (n := m) (fun i σ H' => ∃ (p : Addr) (ss : List NEnt) (u3 u4 u5 : Option V), σ = [some (.ref q), some (.int m), some (.ref p), u3, u4, u5, none] ∧ H p = none ∧ Same H H' ∧ TupsAt H' p ss ∧ ss.map (·.2) = subsL kc ks i)
      ⟨p0, [(e0, [])], _, _, _, rfl, s0.free hp0, s0.trans s1, ⟨f1, fun x hx => ?_, fun x hx b hb => ?_⟩, rfl⟩ ?_ ?_
    · rw [List.mem_singleton.mp hx]
      exact s1 _ _ f0
    · rw [List.mem_singleton.mp hx] at hb
      cases hb
    · rintro i σ H2 hi ⟨p, ss, u3, u4, u5, rfl, hp, s2, T2, e2⟩
      refine ⟨(by show 0 ≤ sizeLine; decide), fun w0 hw0 => ?_⟩
      obtain ⟨s3, f3⟩ := new_at (o := .lst []) hw0
      generalize upd H2 w0 (.lst []) = H3 at s3 f3 ⊢
      have T3 := T2.same s3
      have hss : ∀ x ∈ ss, x.2 ∈ subsL kc ks i := fun x hx => by rw [← e2]; exact List.mem_map_of_mem hx
      refine ⟨_, rfl, p, rfl, ⟨_, SqL.of T3.at'⟩, ?_⟩
      refine for_it (walk_lst (K := K) (a := p) (l := ss) (f := fun x => V.ref x.1)) (fun j σ H' => ∃ (wa : Addr) (ws : List NEnt) (u5 : Option V), σ = [some (.ref q), some (.int m), some (.ref p), some (.int ((0 : Int) + (i : Nat))), some (.ref wa), u5, none] ∧ H wa = none ∧ Same H3 H' ∧ TupsAt H' wa ws ∧ ws.map (·.2) = ((ss.take j).map (·.2)).flatMap fun x => (ks.filter (aft kc x)).map fun b => x ++ [b])
        ⟨w0, [], _, rfl, s2.free hw0, Same.refl _, ⟨f3, fun x hx => (by cases hx), fun x hx => (by cases hx)⟩, rfl⟩ (fun j σ H' _ ⟨_, _, _, _, _, s, _⟩ => SqL.of (s _ _ T3.at')) ?_ ?_
      · rintro j x σ H4 H4' hj ⟨wa, ws, u5, rfl, hwa, s4, T4, e4⟩ ⟨rfl, y, ey, rfl⟩
        have hym := List.mem_of_getElem? ey
        obtain ⟨hy1, hy2, hy3⟩ := subs_mem.mp (hss y hym)
        have s24 := (s2.trans s3).trans s4
        have hq4 : SqA K H4' q (ks.map fun k => V.ref k.1) := hq.imp (fun h => s24.seq h) fun h => SqT.same s24 h
        have hyt := s4 _ _ (T3.el y hym)
        refine ⟨_, rfl, ?_⟩
        refine seq_lc (i := 0) (q := q) (l := ks) (f := fun k => V.ref k.1) rfl hq4 fun J Gd Y wk hG hY => ?_
        refine lcC_it wk (fun D t H' => Same H4' H' ∧ ∃ cs : List NEnt, H' D = some (.lst (cs.map fun n => V.ref n.1)) ∧ cs.map (·.2) = ((ks.take t).filter (aft kc y.2)).map (fun b => y.2 ++ [b]) ∧
            (∀ n ∈ cs, n.1 ≠ D ∧ H' n.1 = some (.tup (n.2.map fun b => V.ref b.1)))) (fun D hD => ⟨same_upd hD, [], upd_same, rfl, fun n hn => (by cases hn)⟩) (fun D t H' _ q => hG H' q.1) ?_ ?_
        · rintro D t x H5 H5' hD ht ⟨s5, cs, hD5, ecs, hcs⟩ yy
          obtain ⟨rfl, b, eb, rfl⟩ := hY _ _ _ _ yy
          have hbm := List.mem_of_getElem? eb
          have s25 := s24.trans s5
          refine ⟨rfl, ?_⟩
          refine aft_test (i := 5) (j := 6) rfl rfl (s5 _ _ hyt) (fun k hk' => ⟨kk s25 k (hy3 k hk'), (hk k (hy3 k hk')).2⟩) (kk s25 b hbm) (hk b hbm).2 b.1 fun H6 s6 => ?_
          have etk : (ks.take (t + 1)).filter (aft kc y.2) = if aft kc y.2 b = true then (ks.take t).filter (aft kc y.2) ++ [b] else (ks.take t).filter (aft kc y.2) := by
            rw [take_succ_filter (aft kc y.2) eb]
          cases ea : aft kc y.2 (b.1, b.2) with
          | false =>
            refine iteF ⟨s5.trans s6, cs, s6 _ _ hD5, ?_, fun n hn => ⟨(hcs n hn).1, s6 _ _ (hcs n hn).2⟩⟩
            rw [etk, if_neg (by rw [show aft kc y.2 b = false from ea]; exact Bool.false_ne_true)]
            exact ecs
          | true =>
            refine iteT ?_
            have ea' : aft kc y.2 b = true := ea
            refine ⟨_, rfl, _, rfl, (by show 1 ≤ sizeLine; decide), fun t1 ht1 => ?_⟩
            obtain ⟨s7, f7⟩ := new_at (o := .tup [V.ref b.1]) ht1
            generalize upd H6 t1 (.tup [V.ref b.1]) = H7 at s7 f7 ⊢
            have s57 := (s5.trans s6).trans s7
            have hD7 := s7 _ _ (s6 _ _ hD5)
            have lcs : cs.length ≤ 100 := by
              have := congrArg List.length ecs
              rw [List.length_map, List.length_map] at this
              have h1 := List.length_filter_le (aft kc y.2) (ks.take t)
              rw [List.length_take] at h1
              omega
            have fin : ∀ (c : Addr) (H8 : Hp), H7 c = none ∨ (H8 = H7 ∧ c = t1) → Same H7 H8 → H8 c = some (.tup ((y.2 ++ [b]).map fun b => V.ref b.1)) → ∃ acc, H8 D = some (.lst acc) ∧ acc.length < sizeLine ∧ (Same H4' (upd H8 D (.lst (acc ++ [.ref c]))) ∧ ∃ cs : List NEnt, (upd H8 D (.lst (acc ++ [.ref c]))) D = some (.lst (cs.map fun n => V.ref n.1)) ∧ cs.map (·.2) = ((ks.take (t + 1)).filter (aft kc y.2)).map (fun b => y.2 ++ [b]) ∧
                (∀ n ∈ cs, n.1 ≠ D ∧ (upd H8 D (.lst (acc ++ [.ref c]))) n.1 = some (.tup (n.2.map fun b => V.ref b.1)))) := fun c H8 _ s8 f8 => by
              have hD8 := s8 _ _ hD7
              refine ⟨_, hD8, by rw [List.length_map]; exact small1000 (by omega), fun b o eb => ?_, cs ++ [(c, y.2 ++ [b])], ?_, ?_, fun n hn => ?_⟩
              · rw [upd_ne (ne_of_none eb hD)]
                exact s8 _ _ (s57 _ _ eb)
              · rw [upd_same, List.map_append]
                rfl
              · rw [List.map_append, ecs, etk, if_pos ea', List.map_append]
                rfl
              · rcases List.mem_append.mp hn with h | h
                · obtain ⟨ne, z⟩ := hcs n h
                  exact ⟨ne, by rw [upd_ne ne]; exact s8 _ _ (s7 _ _ (s6 _ _ z))⟩
                · rw [List.mem_singleton.mp h]
                  have ne := ne_of f8 hD8 (by intro y; cases y)
                  exact ⟨ne, by rw [upd_ne ne]; exact f8⟩
            have hy8 : y.2.length ≤ 1000 := by omega
            refine ⟨y.1, t1, _, _, rfl, rfl, SqT.of' (s57 _ _ hyt), SqT.of' f7, ?_, fun z => ?_, fun _ z => (by cases z), fun _ _ c hc => ?_⟩
            · rw [List.length_map]
              have : (2000 : Nat) ≤ sizeLine := by decide
              show y.2.length + 1 ≤ sizeLine
              omega
            · have : y.2 = [] := List.map_eq_nil_iff.mp z
              exact fin t1 H7 (.inr ⟨rfl, rfl⟩) (Same.refl _) (by rw [this]; exact f7)
            · obtain ⟨s8, f8⟩ := new_at (o := .tup ((y.2.map fun b => V.ref b.1) ++ [V.ref b.1])) hc
              exact fin c _ (.inl hc) s8 (by rw [f8, List.map_append]; rfl)
        · rintro D H5 hD ⟨s5, cs, hD5, ecs, hcs⟩
          rw [List.take_length] at ecs
          have e5 : (ss.take (j + 1)).map (·.2) = (ss.take j).map (·.2) ++ [y.2] := by
            obtain ⟨hil, e⟩ := List.getElem?_eq_some_iff.mp ey
            rw [List.take_succ_eq_append_getElem hil, e, List.map_append]
            rfl
          have e6 : (ws ++ cs).map (·.2) = ((ss.take (j + 1)).map (·.2)).flatMap fun x => (ks.filter (aft kc x)).map fun b => x ++ [b] := by
            rw [List.map_append, e4, ecs, e5, List.flatMap_append, List.flatMap_cons, List.flatMap_nil, List.append_nil]
          have l6 : ws.length + cs.length ≤ 600 := by
            have h1 : ((ss.map (·.2)).flatMap fun x => (ks.filter (aft kc x)).map fun b => x ++ [b]).length ≤ 600 := by
              rw [e2]
              exact few' (i + 1) (by omega)
            have h2 : ss.map (·.2) = (ss.take (j + 1)).map (·.2) ++ (ss.drop (j + 1)).map (·.2) := by rw [← List.map_append, List.take_append_drop]
            rw [h2, List.flatMap_append, List.length_append, ← e6, List.length_map, List.length_append] at h1
            omega
          refine ⟨wa, D, _, _, rfl, rfl, s5 _ _ T4.at', hD5, ?_, fun c hc => ?_⟩
          · rw [List.length_map, List.length_map]
            have : (2000 : Nat) ≤ sizeLine := by decide
            omega
          obtain ⟨s8, f8⟩ := new_at (o := .lst ((ws.map fun s => V.ref s.1) ++ cs.map fun n => V.ref n.1)) hc
          have s48 := s5.trans s8
          refine ⟨c, ws ++ cs, _, rfl, (s24.trans s5).free hc, s4.trans s48, ⟨by rw [List.map_append]; exact f8, fun x hx => ?_, fun x hx b hb => ?_⟩, e6⟩
          · rcases List.mem_append.mp hx with h | h
            · exact s48 _ _ (T4.el x h)
            · exact s8 _ _ (hcs x h).2
          · rcases List.mem_append.mp hx with h | h
            · exact s48 _ _ (T4.bar x h b hb)
            · have h1 : x.2 ∈ cs.map (·.2) := List.mem_map_of_mem h
              rw [ecs] at h1
              obtain ⟨b', hb', e⟩ := List.mem_map.mp h1
              rw [← e] at hb
              rcases List.mem_append.mp hb with h2 | h2
              · exact kk (s24.trans s48) b (hy3 b h2)
              · rw [List.mem_singleton.mp h2]
                exact kk (s24.trans s48) b' (List.mem_filter.mp hb').1
      · rintro σ H4 ⟨wa, ws, u5, rfl, hwa, s4, T4, e4⟩
        refine ⟨_, rfl, wa, ws, _, _, _, rfl, hwa, (s2.trans s3).trans s4, T4, ?_⟩
        rw [e4, List.take_length, e2]
        rfl
    · rintro σ H2 ⟨p, ss, u3, u4, u5, rfl, hp, s2, T2, e2⟩
      exact ⟨_, rfl, k p ss H2 hp s2 T2 e2⟩
end
end DL

set_option Elab.async false
set_option maxRecDepth 100000
set_option maxHeartbeats 1000000
namespace DL
open PySem L2 HT TL
/-! ### all bars that agree -/
theorem subs_map {α β : Type} {κ : α → Int} {κ' : β → Int} (f : α → β) (h : ∀ a, κ' (f a) = κ a) (U : List α) : ∀ m, (subsL κ U m).map (List.map f) = subsL κ' (U.map f) m
  | 0 => rfl
  | m + 1 => by
    have ha : ∀ (s : List α) (b : α), aft κ' (s.map f) (f b) = aft κ s b := fun s b => by
      unfold aft
      rw [List.getLast?_map]
      cases s.getLast? with
      | none => rfl
      | some a =>
        show decide (κ' (f a) < κ' (f b)) = decide (κ a < κ b)
        rw [h, h]
    show ((subsL κ U m).flatMap fun s => (U.filter (aft κ s)).map fun b => s ++ [b]).map (List.map f) = (subsL κ' (U.map f) m).flatMap fun s => ((U.map f).filter (aft κ' s)).map fun b => s ++ [b]
    rw [← subs_map f h U m, List.map_flatMap, List.flatMap_map]
    congr 1
    funext s
    rw [List.map_map, List.filter_map, List.map_map]
    have e : (aft κ' (s.map f) ∘ f) = aft κ s := funext fun b => ha s b
    rw [e]
    refine List.map_congr_left fun b _ => ?_
    show (s ++ [b]).map f = s.map f ++ [f b]
    rw [List.map_append]
    rfl
end DL

set_option Elab.async false
set_option maxRecDepth 100000
set_option maxHeartbeats 1000000

set_option Elab.async false
set_option maxRecDepth 100000
set_option maxHeartbeats 1000000
namespace DL
open PySem L2 HT TL RZ
/-! ### == of tuples of bars, and of lists of them -/
def tupsU (ss : List NEnt) : List PyData := ss.map fun n => .tuple (n.2.map fun b => barD b.2)
theorem dpAllU_tups {K : PySem.W.Frag} {H : Hp} : ∀ {ns : List NEnt}, (∀ n ∈ ns, H n.1 = some (.tup (n.2.map fun b => V.ref b.1))) → (∀ n ∈ ns, ∀ b ∈ n.2, H b.1 = some (.tup b.2.vs)) → DpAll K H (ns.map fun n => V.ref n.1) (tupsU ns)
  | [], _, _ => .nil
  | n :: ns, h1, h2 => .cons (.tup (SqT.of' (h1 n List.mem_cons_self)) (dpAll_bars (h2 n List.mem_cons_self))) (dpAllU_tups (fun m hm => h1 m (List.mem_cons_of_mem _ hm)) fun m hm => h2 m (List.mem_cons_of_mem _ hm))
theorem dokU_tups (ns : List NEnt) : dok 4 (.list (tupsU ns)) := dok_list fun d hd => by
  obtain ⟨n, _, rfl⟩ := List.mem_map.mp hd
  exact dok_tuple (dok_bars n.2)
end DL

set_option Elab.async false
set_option maxRecDepth 100000
set_option maxHeartbeats 1000000
namespace DL
open PySem L2 HT TL RZ
/-- alike cabinets have the same ledger -/
theorem BI.alike {b1 b2 : List Bar} {s0 : List Bool} {es : List Ent} (I : BI b1 s0 es.length es) (h7 : s0.length ≤ 7) (h : apartE b1 b2 es = none) : BI b2 s0 es.length es := by
  refine ⟨I.nd, I.asc, fun e he => ⟨?_, (I.led e he).2⟩, fun j p hj hp d hd => I.ex j p hj hp d ?_, I.root⟩
  · rw [← apart_none I h7 h e.2 (I.led e he).2.1.2]
    exact (I.led e he).1
  · obtain ⟨⟨d0, d1⟩, hg⟩ := free_mem.mp hd
    refine free_mem.mpr ⟨⟨d0, d1⟩, ?_⟩
    rw [diff_none (apart_none' h p (List.mem_of_getElem? hp)) d0 d1]
    exact hg
end DL

set_option Elab.async false
set_option maxRecDepth 100000
set_option maxHeartbeats 2000000
namespace DL
open PySem L2 HT TL RZ
/-! ### what is reached by rows -/
def Rc (bs : List Bar) (n : Nat) (st : List Bool) : Prop := ∃ r : List Int, (∀ d ∈ r, 0 ≤ d ∧ d < (shutS n).length) ∧ runB bs (shutS n) r = some st
theorem shut_len (n : Nat) : (shutS n).length = n := List.length_replicate
theorem Rc.root {bs : List Bar} {n : Nat} : Rc bs n (shutS n) := ⟨[], fun d h => (by cases h), rfl⟩
theorem Rc.step {bs : List Bar} {n : Nat} {st : List Bool} {d : Int} (h : Rc bs n st) (hl : st.length = n) (hd : d ∈ freeL bs st) : Rc bs n (flip st d) := by
  obtain ⟨r, h1, h2⟩ := h
  obtain ⟨hd1, hg⟩ := free_mem.mp hd
  refine ⟨r ++ [d], fun x hx => ?_, ?_⟩
  · rcases List.mem_append.mp hx with h | h
    · exact h1 x h
    · rw [List.mem_singleton.mp h, shut_len, ← hl]
      exact hd1
  · rw [runB_snoc, h2, Option.bind_some, if_pos hg]
theorem rc_closed {bs : List Bar} {n : Nat} {L : List (List Bool)} (root : shutS n ∈ L) (len : ∀ st ∈ L, st.length = n) (clo : ∀ x ∈ L, ∀ d ∈ freeL bs x, flip x d ∈ L) {st : List Bool} (h : Rc bs n st) : st ∈ L := by
  obtain ⟨r, h1, h2⟩ := h
  revert st
  refine snoc_ind (p := fun (r : List Int) => (∀ d ∈ r, 0 ≤ d ∧ d < (shutS n).length) → ∀ {st}, runB bs (shutS n) r = some st → st ∈ L) (fun _ st h => ?_) (fun l d ih hr st h => ?_) r h1
  · have h : some (shutS n) = some st := h
    injection h with h
    exact h ▸ root
  · rw [runB_snoc] at h
    cases q : runB bs (shutS n) l with
    | none => rw [q] at h; cases h
    | some x =>
      rw [q, Option.bind_some] at h
      have hx := ih (fun d hd => hr d (List.mem_append_left _ hd)) q
      by_cases g : goesB bs x d = true
      · rw [if_pos g] at h
        injection h with h
        rw [← h]
        refine clo x hx d (free_mem.mpr ⟨?_, g⟩)
        have := hr d (List.mem_append_right _ (List.mem_singleton.mpr rfl))
        rw [shut_len] at this
        rw [len x hx]
        exact this
      · rw [if_neg g] at h
        cases h
theorem rc_led {bs : List Bar} {n : Nat} {es : List Ent} (I : BI bs (shutS n) es.length es) (n7 : n ≤ 7) {st : List Bool} : Rc bs n st ↔ st ∈ es.map (·.1) := by
  constructor
  · rintro ⟨r, h1, h2⟩
    obtain ⟨e, he, e1, _⟩ := I.opt (by rw [shut_len]; exact n7) r h1 st h2
    exact List.mem_map.mpr ⟨e, he, e1⟩
  · intro h
    obtain ⟨e, he, rfl⟩ := List.mem_map.mp h
    exact ⟨e.2, (I.led e he).2.1.2, (I.led e he).1⟩
theorem run_congr {b1 b2 : List Bar} (h : ∀ st d, goesB b1 st d = goesB b2 st d) : ∀ (r : List Int) (st : List Bool), runB b1 st r = runB b2 st r
  | [], _ => rfl
  | d :: r, st => by rw [runB_cons, runB_cons, h, run_congr h r]
theorem goes_congr {b1 b2 : List Bar} (h : ∀ b, b ∈ b1 ↔ b ∈ b2) (st : List Bool) (d : Int) : goesB b1 st d = goesB b2 st d := by
  unfold goesB
  congr 1
  rw [Bool.eq_iff_iff, List.any_eq_true, List.any_eq_true]
  exact ⟨fun ⟨b, h1, h2⟩ => ⟨b, (h b).mp h1, h2⟩, fun ⟨b, h1, h2⟩ => ⟨b, (h b).mpr h1, h2⟩⟩
theorem rc_congr {b1 b2 : List Bar} {n : Nat} (h : ∀ b, b ∈ b1 ↔ b ∈ b2) {st : List Bool} : Rc b1 n st ↔ Rc b2 n st := by
  unfold Rc
  constructor
  · rintro ⟨r, h1, h2⟩
    exact ⟨r, h1, by rw [← run_congr (goes_congr h)]; exact h2⟩
  · rintro ⟨r, h1, h2⟩
    exact ⟨r, h1, by rw [run_congr (goes_congr h)]; exact h2⟩
theorem goes_app (a b : List Bar) (st : List Bool) (d : Int) : goesB (a ++ b) st d = (goesB a st d && !(b.any fun x => hind x st d)) := by
  unfold goesB
  rw [List.any_append, Bool.not_or]
/-- the search: L is found, W is to be gone on from -/
structure RchI (B : List Bar) (n : Nat) (rs L W : List (List Bool)) : Prop where
  nd : L.Nodup
  ndW : W.Nodup
  ok : ∀ x ∈ L, x ∈ rs ∧ Rc B n x
  sub : ∀ x ∈ W, x ∈ L
  root : shutS n ∈ L
  clo : ∀ x ∈ L, x ∈ W ∨ ∀ d ∈ freeL B x, flip x d ∈ L
structure spReBe (K : PySem.W.Frag) (C : Addr) (vs : List V) (H : Hp) (Q : VK) (_ : XK) : Prop where
  h : ∃ (c p q t : Addr) (bs : List Bar) (ka : List (Addr × Bar)) (n : Nat) (rs : List (List Bool)) (g0 : List Bool → V), vs = [.ref c, .ref p, .ref q] ∧ CabAt C H c n t ∧ 1 ≤ n ∧ n ≤ 7 ∧ H p = some (.dK (tabV rs g0)) ∧ Reach bs n rs ∧ PulsAt H bs rs g0 ∧
    SqT K H q (ka.map fun k => V.ref k.1) ∧ (∀ k ∈ ka, H k.1 = some (.tup k.2.vs) ∧ k.2.ok n) ∧ ka.length ≤ 100 ∧
    ∀ (l : Addr) (sts : List (List Bool)) (H' : Hp), H l = none → Same H H' → H' l = some (.lst (txS sts)) → (∀ st ∈ sts, st.length = n) → sts.length ≤ 128 → (∀ st, st ∈ sts ↔ Rc (bs ++ ka.map (·.2)) n st) → Q (.ref l) H'
section
variable {P : Program} {w : World} {K : PySem.W.Frag} {mg : Str → Option Value} {base : Heap}
abbrev nRB : List Str := ["cabinet", "pulls", "added", "first", "standings", "queue", "standing", "drawer", "beyond", "bar"]
theorem scRB : FnScope nRB ["cabinet", "pulls", "added"] (defScope s_reached_beside) := ⟨rfl, rfl, rfl, by decide +kernel, rfl, by decide +kernel, by decide +kernel⟩
theorem ok_reBe {f f1 f2 C : Addr} {fd fd1 fd2 : FuncData} (F : Fun K "reached_beside" "reached_beside" s_reached_beside f fd) (CP : CabP P w K mg base C) (zA : mg "any" = none) (zL : mg "list" = none)
    (G1 : FnOk P w K mg base CX0 1 f1 fd1 ["drawers"] spFirst) (g1 : mg "first_standing" = some (.ref f1)) (k1 : PySem.W.keepIn K (.ref f1) = true) (b1 : Binds K fd1 ["drawers"] [])
    (G2 : FnOk P w K mg base CX0 1 f2 fd2 ["bar", "standing", "drawer"] (spHold K)) (g2 : mg "hinders" = some (.ref f2)) (k2 : PySem.W.keepIn K (.ref f2) = true) (b2 : Binds K fd2 ["bar", "standing", "drawer"] []) :
    FnOk P w K mg base CX0 4 f fd ["cabinet", "pulls", "added"] (spReBe K C) := by
  refine F.ok scRB (fun vs H Q E h => ?_) (fun cdv A outer s H vs Q E hr h => ?_)
  · obtain ⟨c, p, q, _, _, _, _, _, _, rfl, _⟩ := h.h
    rfl
  · obtain ⟨c, p, q, t, bs, ka, n, rs, g0, rfl, ⟨dx, hc⟩, n1, n7, hp, RR, PU, hq, hka, lka, k⟩ := h.h
    have hu := hu_of hr
    obtain ⟨pD, gD, fdD, hpD, GD, bD⟩ := CP.d
    refine ⟨_, pss_cons (ps_set (i := 3) scRB.nd rfl (Or.inl rfl) (pe_call G1 (hr.mono (by decide)) rfl g1 k1 b1 .nil pass0 (pa_cons (pe_prop (pv 0) CP.cl hpD GD (hr.mono (by decide)) bD .nil pass0 rfl) pa_nil)))
      (pss_cons (ps_set (i := 4) scRB.nd rfl (Or.inl rfl) (pe_disp (pps_cons (pv 3) pe_bl pps_nil) (by rfl) (by rfl) (fun z => by cases z) (by decide)))
      (pss_cons (ps_set (i := 5) scRB.nd rfl (Or.inl rfl) (pe_lst (pa_cons (pv 3) pa_nil)))
      (pss_cons (ps_while PassesOwn.never (pt_truthS (K := K) rfl (pv 5))
        (pss_cons (ps_set (i := 6) scRB.nd rfl (Or.inr rfl) (pe_bm0 PySem.F.plainAttrs_list PySem.F.slot_list_pop PySem.F.type_list_pop mt_pop (pv 5)))
        (pss_one (ps_for PassesOwn.never rfl (pi_list (pe_dget hu (pv 1) (pv 6) (fun _ _ => rfl))) (pg_tup (by rfl) (pgs_cons (pg_name (i := 7) scRB.nd rfl (Or.inr rfl)) (pgs_cons (pg_name (i := 8) scRB.nd rfl (Or.inl rfl)) pgs_nil)))
          (pss_one (ps_if (PW.pt (pw_and (pt_cmp (pc_dnotin hu (pv 8) (pv 4))) (pw_and1 (pt_not (pt_val (pe_callB (cr_anyK (K := K) rfl rfl) (by rfl) zA boot_any_ (pa_cons
              (by exact (pe_lc (own := [("bar", 9)]) (g := gName 9) (tt := tYes) (by rfl) scRB.nd (pi_seq (K := K) rfl (pv 2)) (blkOk_by (N := nRB) (by rfl)) (fun _ _ _ _ _ => pg_name (i := 9) scRB.nd rfl (by first | exact Or.inl rfl | exact Or.inr rfl)) (fun _ _ _ _ _ => pts_nil)
                (fun _ _ _ _ _ => pe_call G2 (hr.mono (by decide)) rfl g2 k2 b2 .nil pass0 (pa_cons (pv 9) (pa_cons (pv 6) (pa_cons (pv 7) pa_nil)))))) pa_nil)))))))
            (pss_cons (ps_dput hu (pv 4) (pv 8) pe_bl rfl)
            (pss_one (ps_expr (pe_bm PySem.F.plainAttrs_list PySem.F.slot_list_append PySem.F.type_list_append mt_append (pv 5) (pa_cons (pv 8) pa_nil))))) pss_nil))))))
      (pss_one (ps_ret (pe_callTy (call_listD rfl) (by rfl) zL (by decide +kernel) (pa_cons (pv 4) pa_nil))))))), ?_⟩
    have hfew := RR.few
    refine ⟨_, rfl, c, dx, _, rfl, hc, ⟨⟨c, dx, _, t, rfl, hc, _, rfl, n1, n7, ?_⟩⟩⟩
    intro D hD
    refine ⟨_, rfl, upd_same, [(.inr (sstr (shutS n)), .bl true)], rfl, by show 1 ≤ 15; decide, ?_⟩
    have hD4 : (upd (upd H D (.dK [])) D (.dK (mergeK [] [(.inr (sstr (shutS n)), .bl true)]))) D = some (.dK (tabV [shutS n] fun _ => .bl true)) := upd_same
    have s4 : Same H (upd (upd H D (.dK [])) D (.dK (mergeK [] [(.inr (sstr (shutS n)), .bl true)]))) := fun b o eb => by
      rw [upd_ne (ne_of_none eb hD), upd_ne (ne_of_none eb hD)]
      exact eb
    generalize (upd (upd H D (.dK [])) D (.dK (mergeK [] [(.inr (sstr (shutS n)), .bl true)]))) = H1 at hD4 s4 ⊢
    refine ⟨_, rfl, (by show 1 ≤ sizeLine; decide), fun qq hqq => ?_⟩
    have nq2 : D ≠ qq := ne_of_none hD4 hqq
    have hqH : H qq = none := none_back s4 hqq
    obtain ⟨s5, f5⟩ := new_at (o := .lst [.str (sstr (shutS n))]) hqq
    generalize upd H1 qq (.lst [.str (sstr (shutS n))]) = H2 at s5 f5 ⊢
    have hD5 := s5 _ _ hD4
    have s05 := s4.trans s5
    clear s4 s5 hD4 hqq
    obtain ⟨B, eB⟩ : ∃ B, B = bs ++ ka.map (·.2) := ⟨_, rfl⟩
    rw [← eB] at k
    refine while_by (fun σ H' => ∃ (L W : List (List Bool)) (u6 u7 u8 : Option V), σ = [some (.ref c), some (.ref p), some (.ref q), some (.str (sstr (shutS n))), some (.ref D), some (.ref qq), u6, u7, u8, none] ∧ Same H H' ∧ H' D = some (.dK (tabV L fun _ => .bl true)) ∧ H' qq = some (.lst (txS W)) ∧
        RchI B n rs L W) (fun _ H' => muL D qq H') ?_ ?_ ?_
    · exact ⟨[shutS n], [shutS n], _, _, _, rfl, s05, hD5, f5, ⟨by simp, by simp, fun x h => by rw [List.mem_singleton.mp h]; exact ⟨RR.root, .root⟩, fun _ h => h, List.mem_singleton.mpr rfl, fun _ h => .inl h⟩⟩
    · rintro σ H6 ⟨L, W, u6, u7, u8, rfl, s6, hL, hW, I⟩
      refine ⟨_, rfl, _, .inl ⟨_, SqL.of hW, rfl⟩, ?_⟩
      have hL128 : L.length ≤ 128 := Nat.le_trans (nd_le I.nd fun x h => (I.ok x h).1) hfew
      obtain rfl | ⟨W1, x, rfl⟩ : W = [] ∨ ∃ W1 x, W = W1 ++ [x] := by
        rcases List.eq_nil_or_concat W with h | ⟨y, b, h⟩
        · exact .inl h
        · exact .inr ⟨y, b, by simpa using h⟩
      · refine iteF ?_
        refine ⟨_, rfl, D, _, rfl, .inl hL, fun l hl => ?_⟩
        have e1 : ((tabV L fun _ => V.bl true).map fun kv => kV kv.1) = txS L := by
          unfold tabV
          rw [List.map_map, txS_eq]
          rfl
        have hlen : ∀ st ∈ L, st.length = n := fun st h => RR.len st (I.ok st h).1
        refine k l L _ (none_back s6 hl) (s6.trans (same_upd hl)) (by rw [upd_same, e1]) hlen hL128 fun st => ⟨fun h => (I.ok st h).2, fun h => ?_⟩
        refine rc_closed I.root hlen (fun y hy d hd => ?_) h
        rcases I.clo y hy with z | z
        · cases z
        · exact z d hd
      · have e0 : (!(txS (W1 ++ [x])).isEmpty) = true := by
          rw [txS_snoc]
          cases txS W1 <;> rfl
        rw [e0]
        refine iteT ?_
        have hxL : x ∈ L := I.sub x (List.mem_append_right _ (List.mem_singleton.mpr rfl))
        have hxr := (I.ok x hxL).1
        have hxn := RR.len x hxr
        refine ⟨_, rfl, .inl ⟨rfl, _, .inl (.inl hW)⟩, qq, _, .str (sstr x), rfl, rfl, hW, ?_, ?_⟩
        · rw [txS_snoc, List.length_append, List.length_singleton, Nat.add_sub_cancel, List.getElem?_append_right (Nat.le_refl _), Nat.sub_self]
          rfl
        rw [txS_snoc, List.dropLast_concat]
        have hW1 : (upd H6 qq (.lst (txS W1))) qq = some (.lst (txS W1)) := upd_same
        have s7 : Same H (upd H6 qq (.lst (txS W1))) := fun b o eb => by
          rw [upd_ne (ne_of_none eb hqH)]
          exact s6 _ _ eb
        have hL7 : (upd H6 qq (.lst (txS W1))) D = some (.dK (tabV L fun _ => .bl true)) := by
          rw [upd_ne nq2]
          exact hL
        have hmu : muL D qq H6 = 2 * (128 - L.length) + W1.length + 1 := by
          rw [muL_of hL hW, tab_len, txS_len, List.length_append, List.length_singleton]
          omega
        generalize upd H6 qq (.lst (txS W1)) = H7 at hW1 s7 hL7 ⊢
        have dg := DGet.k (k := .inr (sstr x)) (s7 _ _ hp)
        obtain ⟨l1, el1, pl⟩ := PU x hxr
        obtain ⟨ts, hl, ets, hts⟩ := pl.h
        rw [tab_val, if_pos hxr, el1] at dg
        have nW1 : x ∉ W1 ∧ W1.Nodup := by
          have := I.ndW
          rw [List.nodup_append] at this
          exact ⟨fun h => this.2.2 _ h _ (List.mem_singleton.mpr rfl) rfl, this.1⟩
        refine ⟨_, rfl, _, rfl, p, _, rfl, dg, l1, rfl, ⟨_, SqL.of (s7 _ _ hl)⟩, ?_⟩
        refine for_list (K := K) (a := l1) (xs := ts.map fun t => V.ref t.1) (fun i σ H' => ∃ (L2 W2 : List (List Bool)) (u7 u8 : Option V), σ = [some (.ref c), some (.ref p), some (.ref q), some (.str (sstr (shutS n))), some (.ref D), some (.ref qq), some (.str (sstr x)), u7, u8, none] ∧ Same H H' ∧
            H' D = some (.dK (tabV L2 fun _ => .bl true)) ∧ H' qq = some (.lst (txS W2)) ∧ L2.Nodup ∧ W2.Nodup ∧ (∀ y ∈ L2, y ∈ rs ∧ Rc B n y) ∧ (∀ y ∈ W2, y ∈ L2) ∧ (∀ y ∈ L, y ∈ L2) ∧ (∀ y ∈ L2, y ∈ W2 ∨ y = x ∨ ∀ d ∈ freeL B y, flip y d ∈ L2) ∧ (∀ t ∈ ts.take i, t.2 ∈ freeL B x → flip x t.2 ∈ L2) ∧
            2 * (128 - L2.length) + W2.length ≤ 2 * (128 - L.length) + W1.length)
          ⟨L, W1, _, _, rfl, s7, hL7, hW1, I.nd, nW1.2, I.ok, fun y h => I.sub y (List.mem_append_left _ h), fun _ h => h, fun y h => ?_, fun s h => (by cases h), Nat.le_refl _⟩ (fun i σ H' _ ⟨_, _, _, _, _, s, _⟩ => SqL.of (s _ _ hl)) ?_ ?_
        · rcases I.clo y h with z | z
          · rcases List.mem_append.mp z with z | z
            · exact .inl z
            · exact .inr (.inl (List.mem_singleton.mp z))
          · exact .inr (.inr z)
        · rintro i z σ H8 hz ⟨L2, W2, u7, u8, rfl, s8, hL8, hW8, nd1, nd2, ok2, sub2, mono2, clo2, tk2, mu2⟩
          rw [List.getElem?_map] at hz
          cases et : ts[i]? with
          | none => rw [et] at hz; cases hz
          | some t =>
            rw [et] at hz
            cases hz
            have htm := List.mem_of_getElem? et
            have htf : t.2 ∈ freeL bs x := by
              rw [← ets]
              exact List.mem_map_of_mem htm
            obtain ⟨⟨d0, d1⟩, hg⟩ := free_mem.mp htf
            have hfr := RR.ex x hxr _ htf
            have l2 : L2.length ≤ 128 := Nat.le_trans (nd_le nd1 fun y h => (ok2 y h).1) hfew
            obtain ⟨hil, ei⟩ := List.getElem?_eq_some_iff.mp et
            have etk : ts.take (i + 1) = ts.take i ++ [t] := by rw [List.take_succ_eq_append_getElem hil, ei]
            refine ⟨t.1, _, rfl, SqT.of' (s8 _ _ (hts t htm)), rfl, _, _, rfl, _, _, rfl, rfl, ?_⟩
            refine ⟨_, rfl, _, rfl, D, _, rfl, DGet.k (k := .inr (sstr (flip x t.2))) hL8, _, rfl, ?_⟩
            rw [tab_val]
            by_cases hin : flip x t.2 ∈ L2
            · rw [if_pos hin]
              refine iteF (iteF ⟨L2, W2, _, _, rfl, s8, hL8, hW8, nd1, nd2, ok2, sub2, mono2, clo2, fun s hs hf => ?_, mu2⟩)
              rw [etk] at hs
              rcases List.mem_append.mp hs with h | h
              · exact tk2 s h hf
              · rw [List.mem_singleton.mp h]
                exact hin
            · rw [if_neg hin]
              refine iteT ?_
              refine not_any_lc (seq_lc (i := 2) (q := q) (l := ka) (f := fun k => V.ref k.1) rfl (.inr (SqT.same s8 hq)) fun J Gd Y wk hG hY => ?_)
              refine lcC_pick wk ka rfl (by omega) (fun _ => true) (fun k => V.bl (hind k.2 x t.2)) (fun H' s => hG H' s) ?_ ?_
              · rintro j y b H3 H3' Tk3 Nk3 eb s3 yy kT3 kF3
                obtain ⟨rfl, b', eb', rfl⟩ := hY _ _ _ _ yy
                rw [eb] at eb'
                cases eb'
                have hbm := List.mem_of_getElem? eb
                obtain ⟨q1, q2⟩ := hka b hbm
                refine ⟨rfl, tYes_of (iteT ?_)⟩
                exact ⟨_, rfl, _, rfl, _, rfl, ⟨⟨b.1, b.2, x, t.2, rfl, SqT.of' (s3 _ _ (s8 _ _ q1)), by rw [hxn]; exact q2, by omega, d0, d1, kT3 _ rfl (Same.refl _)⟩⟩⟩
              · intro D3 H9 hD3 s9 hD9
                rw [List.filter_eq_self.mpr fun _ _ => rfl] at hD9
                refine ⟨D3, ka.map fun k => hind k.2 x t.2, rfl, SqL.of (by rw [hD9, List.map_map]; rfl), _, rfl, ?_⟩
                have hL9 := s9 _ _ hL8
                have hW9' := s9 _ _ hW8
                have s89 := s8.trans s9
                have eany : (ka.map fun k => hind k.2 x t.2).any id = (ka.map (·.2)).any fun b => hind b x t.2 := by
                  rw [List.any_map, List.any_map]
                  rfl
                have hgB : goesB B x t.2 = !((ka.map (·.2)).any fun b => hind b x t.2) := by rw [eB, goes_app, hg, Bool.true_and]
                rw [eany]
                cases ea : (ka.map (·.2)).any fun b => hind b x t.2 with
                | true =>
                  refine iteF ⟨L2, W2, _, _, rfl, s89, hL9, hW9', nd1, nd2, ok2, sub2, mono2, clo2, fun s hs hf => ?_, mu2⟩
                  rw [etk] at hs
                  rcases List.mem_append.mp hs with h | h
                  · exact tk2 s h hf
                  · rw [List.mem_singleton.mp h] at hf
                    have := (free_mem.mp hf).2
                    rw [hgB, ea] at this
                    cases this
                | false =>
                  rw [ea] at hgB
                  refine iteT ?_
                  have hreach : Rc B n (flip x t.2) := (I.ok x hxL).2.step hxn (free_mem.mpr ⟨⟨d0, d1⟩, hgB⟩)
                  have nd3 : (L2 ++ [flip x t.2]).Nodup := by
                    rw [List.nodup_append]
                    exact ⟨nd1, by simp, fun y hy z hz e => hin (by rw [← List.mem_singleton.mp hz, ← e]; exact hy)⟩
                  have nd4 : (W2 ++ [flip x t.2]).Nodup := by
                    rw [List.nodup_append]
                    exact ⟨nd2, by simp, fun y hy z hz e => hin (sub2 _ (by rw [← List.mem_singleton.mp hz, ← e]; exact hy))⟩
                  have ok3 : ∀ y ∈ L2 ++ [flip x t.2], y ∈ rs ∧ Rc B n y := fun y hy => by
                    rcases List.mem_append.mp hy with h | h
                    · exact ok2 y h
                    · rw [List.mem_singleton.mp h]
                      exact ⟨hfr, hreach⟩
                  have l3 : (L2 ++ [flip x t.2]).length ≤ 128 := Nat.le_trans (nd_le nd3 fun y h => (ok3 y h).1) hfew
                  rw [List.length_append, List.length_singleton] at l3
                  have w2 : W2.length ≤ 128 := Nat.le_trans (nd_le nd2 fun y h => (ok2 y (sub2 y h)).1) hfew
                  refine ⟨_, rfl, _, rfl, D, _, rfl, DPut.k (k := Sum.inr (sstr (flip x t.2))) hL9 (by rw [tab_len]; exact small1000 (by omega)), ?_⟩
                  have hW9 : (upd H9 D (.dK (putK (tabV L2 fun _ => V.bl true) (.inr (sstr (flip x t.2))) (.bl true)))) qq = some (.lst (txS W2)) := by
                    rw [upd_ne nq2.symm]
                    exact hW9'
                  refine ⟨_, rfl, .inl ⟨rfl, _, .inl (.inl hW9)⟩, _, rfl, qq, _, _, rfl, rfl, hW9, by rw [txS_len]; exact small1000 (by omega), ?_⟩
                  refine ⟨L2 ++ [flip x t.2], W2 ++ [flip x t.2], _, _, rfl, fun b o eb => ?_, ?_, ?_, nd3, nd4, ok3, fun y hy => ?_, fun y hy => List.mem_append_left _ (mono2 y hy), fun y hy => ?_, fun s hs hf => ?_, ?_⟩
                  · rw [upd_ne (ne_of_none eb hqH), upd_ne (ne_of_none eb hD)]
                    exact s89 _ _ eb
                  · rw [upd_ne nq2, upd_same, tab_snoc hin]
                    exact congrArg some (congrArg HO.dK (tab_congr fun z _ => ite_self _))
                  · rw [upd_same, txS_snoc]
                  · rcases List.mem_append.mp hy with h | h
                    · exact List.mem_append_left _ (sub2 y h)
                    · exact List.mem_append_right _ h
                  · rcases List.mem_append.mp hy with h | h
                    · rcases clo2 y h with z | z | z
                      · exact .inl (List.mem_append_left _ z)
                      · exact .inr (.inl z)
                      · exact .inr (.inr fun s hs => List.mem_append_left _ (z s hs))
                    · exact .inl (List.mem_append_right _ h)
                  · rw [etk] at hs
                    rcases List.mem_append.mp hs with h | h
                    · exact List.mem_append_left _ (tk2 s h hf)
                    · rw [List.mem_singleton.mp h]
                      exact List.mem_append_right _ (List.mem_singleton.mpr rfl)
                  · rw [List.length_append, List.length_append, List.length_singleton]
                    omega
        · rintro σ H8 ⟨L2, W2, u7, u8, rfl, s8, hL8, hW8, nd1, nd2, ok2, sub2, mono2, clo2, tk2, mu2⟩
          rw [List.length_map, List.take_length] at tk2
          refine ⟨⟨L2, W2, _, _, _, rfl, s8, hL8, hW8, ⟨nd1, nd2, ok2, sub2, mono2 _ I.root, fun y hy => ?_⟩⟩, ?_⟩
          · rcases clo2 y hy with z | rfl | z
            · exact .inl z
            · refine .inr fun d hd => ?_
              have hdb : d ∈ freeL bs y := by
                obtain ⟨h1, h2⟩ := free_mem.mp hd
                rw [eB, goes_app, Bool.and_eq_true] at h2
                exact free_mem.mpr ⟨h1, h2.1⟩
              rw [← ets] at hdb
              obtain ⟨t, ht, rfl⟩ := List.mem_map.mp hdb
              exact tk2 t ht hd
            · exact .inr z
          · rw [hmu, muL_of hL8 hW8, tab_len, txS_len]
            omega
    · rintro σ H1 Q1 Q2 m ⟨x, e1, b, t, hq⟩
      exact ⟨x, e1, b, t, m _ _ hq⟩
end
end DL

set_option Elab.async false
set_option maxRecDepth 100000
set_option maxHeartbeats 2000000
namespace DL
open PySem L2 HT TL RZ
/-- with bars B no pair is ever open together, and each drawer is opened -/
noncomputable def gOK (B : List Bar) (n : Nat) (qs : List (Int × Int)) : Bool :=
  @decide ((∀ q ∈ qs, ¬ ∃ st, Rc B n st ∧ sat st q.1 = true ∧ sat st q.2 = true) ∧ ∀ d : Int, 0 ≤ d → d < n → ∃ st, Rc B n st ∧ sat st d = true) (Classical.propDecidable _)
theorem gOK_iff {B : List Bar} {n : Nat} {qs : List (Int × Int)} : gOK B n qs = true ↔ (∀ q ∈ qs, ¬ ∃ st, Rc B n st ∧ sat st q.1 = true ∧ sat st q.2 = true) ∧ ∀ d : Int, 0 ≤ d → d < n → ∃ st, Rc B n st ∧ sat st d = true := by
  unfold gOK
  exact @decide_eq_true_iff _ (Classical.propDecidable _)
theorem gOK_congr {B B' : List Bar} {n : Nat} {qs : List (Int × Int)} (h : ∀ b, b ∈ B ↔ b ∈ B') : gOK B n qs = gOK B' n qs := by
  rw [Bool.eq_iff_iff, gOK_iff, gOK_iff]
  simp only [rc_congr h]
theorem gOK_of {B : List Bar} {n : Nat} {qs : List (Int × Int)} {sts : List (List Bool)} (h : ∀ st, st ∈ sts ↔ Rc B n st) :
    (!(qs.any fun q => sts.any fun st => sat st q.1 && sat st q.2) && (drs n).all fun d => sts.any fun st => sat st d) = gOK B n qs := by
  rw [Bool.eq_iff_iff, gOK_iff, Bool.and_eq_true, Bool.not_eq_true', List.any_eq_false, List.all_eq_true]
  refine and_congr ⟨fun z q hq ⟨st, h1, h2, h3⟩ => ?_, fun z q hq y => ?_⟩ ⟨fun z d d0 d1 => ?_, fun z d hd => ?_⟩
  · exact z q hq (List.any_eq_true.mpr ⟨st, (h st).mpr h1, by rw [h2, h3]; rfl⟩)
  · obtain ⟨st, hst, hs⟩ := List.any_eq_true.mp y
    rw [Bool.and_eq_true] at hs
    exact z q hq ⟨st, (h st).mp hst, hs⟩
  · obtain ⟨st, hst, hs⟩ := List.any_eq_true.mp (z d (drs_mem.mpr ⟨d0, d1⟩))
    exact ⟨st, (h st).mp hst, hs⟩
  · obtain ⟨d0, d1⟩ := drs_mem.mp hd
    obtain ⟨st, hst, hs⟩ := z d d0 d1
    exact List.any_eq_true.mpr ⟨st, (h st).mpr hst, hs⟩
theorem any_fit {sts : List (List Bool)} {n : Nat} {ns : List Int} (hl : ∀ st ∈ sts, st.length = n) (hn : ∀ d ∈ ns, 0 ≤ d ∧ d < n) : (sts.any fun st => fitB st (opat n ns)) = sts.any fun st => ns.all fun d => sat st d := by
  rw [Bool.eq_iff_iff, List.any_eq_true, List.any_eq_true]
  constructor
  · rintro ⟨st, h1, h2⟩
    exact ⟨st, h1, by rw [← fit_opat (hl st h1) hn]; exact h2⟩
  · rintro ⟨st, h1, h2⟩
    exact ⟨st, h1, by rw [fit_opat (hl st h1) hn]; exact h2⟩
theorem any_fit1 {sts : List (List Bool)} {n : Nat} {d : Int} (hl : ∀ st ∈ sts, st.length = n) (hn : 0 ≤ d ∧ d < n) : (sts.any fun st => fitB st (opat n [d])) = sts.any fun st => sat st d := by
  rw [any_fit hl fun x hx => by rw [List.mem_singleton.mp hx]; exact hn]
  refine congrArg sts.any (funext fun st => ?_)
  rw [List.all_cons, List.all_nil, Bool.and_true]
theorem any_fit2 {sts : List (List Bool)} {n : Nat} {i j : Int} (hl : ∀ st ∈ sts, st.length = n) (hi : 0 ≤ i ∧ i < n) (hj : 0 ≤ j ∧ j < n) : (sts.any fun st => fitB st (opat n [i, j])) = sts.any fun st => sat st i && sat st j := by
  rw [any_fit hl fun x hx => by
    rcases List.mem_cons.mp hx with rfl | hx
    · exact hi
    · rw [List.mem_singleton.mp hx]
      exact hj]
  refine congrArg sts.any (funext fun st => ?_)
  rw [List.all_cons, List.all_cons, List.all_nil, Bool.and_true]
structure spIsG (K : PySem.W.Frag) (C : Addr) (vs : List V) (H : Hp) (Q : VK) (_ : XK) : Prop where
  h : ∃ (c p q t ap : Addr) (bs : List Bar) (ka : List (Addr × Bar)) (n : Nat) (rs : List (List Bool)) (g0 : List Bool → V) (qs : List (Int × Int)), vs = [.ref c, .ref p, .ref q, .ref ap] ∧ CabAt C H c n t ∧ 1 ≤ n ∧ n ≤ 7 ∧ H p = some (.dK (tabV rs g0)) ∧ Reach bs n rs ∧ PulsAt H bs rs g0 ∧
    SqT K H q (ka.map fun k => V.ref k.1) ∧ (∀ k ∈ ka, H k.1 = some (.tup k.2.vs) ∧ k.2.ok n) ∧ ka.length ≤ 100 ∧ H ap = some (.lst (qs.map fun q => V.str (pstr (opat n [q.1, q.2])))) ∧ (∀ q ∈ qs, (0 ≤ q.1 ∧ q.1 < n) ∧ 0 ≤ q.2 ∧ q.2 < n) ∧ qs.length ≤ 100 ∧
    ∀ H', Same H H' → Q (.bl (gOK (bs ++ ka.map (·.2)) n qs)) H'
section
variable {P : Program} {w : World} {K : PySem.W.Frag} {mg : Str → Option Value} {base : Heap}
abbrev nIG : List Str := ["cabinet", "pulls", "added", "apart", "standings", "pattern", "drawer"]
theorem scIG : FnScope nIG ["cabinet", "pulls", "added", "apart"] (defScope s_is_guarded) := ⟨rfl, rfl, rfl, by decide +kernel, rfl, by decide +kernel, by decide +kernel⟩
theorem ok_isG {f f1 f2 f3 C : Addr} {fd fd1 fd2 fd3 : FuncData} (F : Fun K "is_guarded" "is_guarded" s_is_guarded f fd) (T : Bt mg) (CP : CabP P w K mg base C) (zA : mg "any" = none) (zB : mg "all" = none)
    (G1 : FnOk P w K mg base CX0 4 f1 fd1 ["cabinet", "pulls", "added"] (spReBe K C)) (g1 : mg "reached_beside" = some (.ref f1)) (k1 : PySem.W.keepIn K (.ref f1) = true) (b1 : Binds K fd1 ["cabinet", "pulls", "added"] [])
    (G2 : FnOk P w K mg base CX0 4 f2 fd2 ["standings", "pattern"] (spAnyFits K)) (g2 : mg "any_fits" = some (.ref f2)) (k2 : PySem.W.keepIn K (.ref f2) = true) (b2 : Binds K fd2 ["standings", "pattern"] [])
    (G3 : FnOk P w K mg base CX0 4 f3 fd3 ["cabinet", "some"] (spOpenPat K C)) (g3 : mg "open_pattern" = some (.ref f3)) (k3 : PySem.W.keepIn K (.ref f3) = true) (b3 : Binds K fd3 ["cabinet", "some"] []) :
    FnOk P w K mg base CX0 8 f fd ["cabinet", "pulls", "added", "apart"] (spIsG K C) := by
  refine F.ok scIG (fun vs H Q E h => ?_) (fun cdv A outer s H vs Q E hr h => ?_)
  · obtain ⟨c, p, q, _, _, _, _, _, _, _, _, rfl, _⟩ := h.h
    rfl
  · obtain ⟨c, p, q, t, ap, bs, ka, n, rs, g0, qs, rfl, ⟨dx, hc⟩, n1, n7, hp, RR, PU, hq, hka, lka, hap, hqs, lqs, k⟩ := h.h
    have hu := hu_of hr
    obtain ⟨pD, gD, fdD, hpD, GD, bD⟩ := CP.d
    refine ⟨_, pss_cons (ps_set (i := 4) scIG.nd rfl (Or.inr rfl) (pe_call G1 (hr.mono (by decide)) rfl g1 k1 b1 .nil pass0 (pa_cons (pv 0) (pa_cons (pv 1) (pa_cons (pv 2) pa_nil)))))
      (pss_cons (ps_if (pt_val (pe_callB (cr_anyK (K := K) rfl rfl) (by rfl) zA boot_any_ (pa_cons
          (by exact (pe_lc (own := [("pattern", 5)]) (g := gName 5) (tt := tYes) (by rfl) scIG.nd (pi_listK (K := K) rfl (pv 3)) (blkOk_by (N := nIG) (by rfl)) (fun _ _ _ _ _ => pg_name (i := 5) scIG.nd rfl (by first | exact Or.inl rfl | exact Or.inr rfl)) (fun _ _ _ _ _ => pts_nil)
            (fun _ _ _ _ _ => pe_call G2 (hr.mono (by decide)) rfl g2 k2 b2 .nil pass0 (pa_cons (pv 4) (pa_cons (pv 5) pa_nil))))) pa_nil))) (pss_one (ps_ret pe_bl)) pss_nil)
      (pss_one (ps_ret (pe_callB (cr_allK (K := K) rfl rfl) (by rfl) zB boot_all_ (pa_cons
          (by exact (pe_lc (own := [("drawer", 6)]) (g := gName 6) (tt := tYes) (by rfl) scIG.nd (pi_range1 (by rfl) T.range (pa_cons (pe_prop (pv 0) CP.cl hpD GD (hr.mono (by decide)) bD .nil pass0 rfl) pa_nil)) (blkOk_by (N := nIG) (by rfl)) (fun _ _ _ _ _ => pg_name (i := 6) scIG.nd rfl (by first | exact Or.inl rfl | exact Or.inr rfl)) (fun _ _ _ _ _ => pts_nil)
            (fun _ _ _ _ _ => pe_call G2 (hr.mono (by decide)) rfl g2 k2 b2 .nil pass0 (pa_cons (pv 4) (pa_cons (pe_call G3 (hr.mono (by decide)) rfl g3 k3 b3 .nil pass0 (pa_cons (pv 0) (pa_cons (pe_tup (pa_cons (pv 6) pa_nil)) pa_nil))) pa_nil))))) pa_nil))))), ?_⟩
    refine ⟨_, rfl, _, rfl, _, rfl, ⟨⟨c, p, q, t, bs, ka, n, rs, g0, rfl, ⟨dx, hc⟩, n1, n7, hp, RR, PU, hq, hka, lka, fun l sts H1 hl s1 hl1 hlen lsts hmem => ?_⟩⟩⟩
    have hap1 := s1 _ _ hap
    have hl1' : SqA K H1 l (sts.map fun st => V.str (sstr st)) := .inl (SqL.of (by rw [← txS_eq]; exact hl1))
    refine ⟨_, rfl, ap, rfl, ⟨_, SqL.of hap1⟩, fun D hD => ?_⟩
    refine lc_pick (walk_lst (K := K) (a := ap) (l := qs) (f := fun q => V.str (pstr (opat n [q.1, q.2])))) qs rfl (by omega) (fun _ => true) (fun q => V.bl (sts.any fun st => sat st q.1 && sat st q.2)) hD (fun H' s => SqL.of (s _ _ hap1)) ?_ ?_
    · rintro j x z H2 H2' Tk Nk ez s2 ⟨rfl, z', ez', rfl⟩ kT kF
      rw [ez] at ez'
      cases ez'
      obtain ⟨hz1, hz2⟩ := hqs z (List.mem_of_getElem? ez)
      refine ⟨rfl, tYes_of (iteT ?_)⟩
      refine ⟨_, rfl, _, rfl, ⟨⟨l, sts, opat n [z.1, z.2], rfl, hl1'.same s2, fun st h => by rw [hlen st h, opat_len], by rw [opat_len]; exact n7, by omega, fun H3 s3 => ?_⟩⟩⟩
      rw [any_fit2 hlen hz1 hz2]
      exact kT _ rfl s3
    intro H2 s2 hD2
    rw [List.filter_eq_self.mpr fun _ _ => rfl] at hD2
    refine ⟨D, qs.map fun q => sts.any fun st => sat st q.1 && sat st q.2, rfl, SqL.of (by rw [hD2, List.map_map]; rfl), _, rfl, ?_⟩
    have e1 : (qs.map fun q => sts.any fun st => sat st q.1 && sat st q.2).any id = qs.any fun q => sts.any fun st => sat st q.1 && sat st q.2 := by
      rw [List.any_map]
      rfl
    rw [e1]
    have s12 := s1.trans s2
    have ek := gOK_of (qs := qs) hmem
    have hc2 := s12 _ _ hc
    have hl2 := hl1'.same s2
    cases eq : qs.any fun q => sts.any fun st => sat st q.1 && sat st q.2 with
    | true =>
      refine iteT ?_
      have := k H2 s12
      rw [← ek, eq] at this
      exact this
    | false =>
      refine iteF ?_
      rw [eq, Bool.not_false, Bool.true_and] at ek
      refine ⟨_, rfl, c, dx, _, rfl, hc2, ⟨⟨c, dx, _, t, rfl, hc2, ?_⟩⟩⟩
      refine ⟨_, rfl, by omega, by omega, fun D2 hD2' => ?_⟩
      rw [Int.toNat_natCast]
      refine lc_pick (walk_range (lo := 0) (n := n)) (drs n) (drs_len n) (by omega) (fun _ => true) (fun d => V.bl (sts.any fun st => sat st d)) hD2' (fun _ _ => trivial) ?_ ?_
      · rintro j x z H3 H3' Tk Nk ez s3 ⟨rfl, ex⟩ kT kF
        have hj : j < n := by have := (List.getElem?_eq_some_iff.mp ez).1; rw [drs_len] at this; exact this
        rw [drs_get hj] at ez
        cases ez
        have ej : (0 : Int) + (j : Nat) = (j : Int) := by omega
        have ex' : x = V.int (j : Int) := by
          rw [ex]
          show V.int ((0 : Int) + (j : Nat)) = _
          rw [ej]
        subst ex'
        refine ⟨rfl, tYes_of (iteT ?_)⟩
        refine ⟨_, rfl, _, rfl, _, rfl, (by show 1 ≤ sizeLine; decide), fun tt htt => ?_⟩
        obtain ⟨s4, f4⟩ := new_at (o := .tup [.int (j : Int)]) htt
        generalize upd H3' tt (.tup [.int (j : Int)]) = H4 at s4 f4 ⊢
        have s34 := s3.trans s4
        refine ⟨⟨c, tt, n, t, [(j : Int)], rfl, ⟨dx, s34 _ _ hc2⟩, n7, SqT.of' f4, fun H5 s5 => ?_⟩⟩
        refine ⟨⟨l, sts, opat n [(j : Int)], rfl, (hl2.same s34).same s5, fun st h => by rw [hlen st h, opat_len], by rw [opat_len]; exact n7, by omega, fun H6 s6 => ?_⟩⟩
        rw [any_fit1 hlen ⟨by omega, by omega⟩]
        exact kT _ rfl ((s4.trans s5).trans s6)
      intro H3 s3 hD3
      rw [List.filter_eq_self.mpr fun _ _ => rfl] at hD3
      refine ⟨D2, (drs n).map fun d => sts.any fun st => sat st d, rfl, SqL.of (by rw [hD3, List.map_map]; rfl), ?_⟩
      have e2 : ((drs n).map fun d => sts.any fun st => sat st d).all id = (drs n).all fun d => sts.any fun st => sat st d := by
        rw [List.all_map]
        rfl
      rw [e2, ek]
      exact k H3 (s12.trans s3)
end
end DL

set_option Elab.async false
set_option maxRecDepth 100000
set_option maxHeartbeats 1000000
namespace DL
open PySem PySem.Spec PyProof.Rows L2 HT TL RZ
/-! ### list.count of texts -/
/-! ### tables of whole numbers -/
abbrev MRow := Addr × List Int
def refM (ms : List MRow) : List V := ms.map fun p => V.ref p.1
structure MatAt (H : Hp) (w : Addr) (ms : List MRow) : Prop where
  at' : H w = some (.lst (refM ms))
  el : ∀ p ∈ ms, H p.1 = some (.lst (p.2.map V.int))
theorem MatAt.same {H H' : Hp} {w : Addr} {ms : List MRow} (M : MatAt H w ms) (s : Same H H') : MatAt H' w ms := ⟨s _ _ M.at', fun p h => s _ _ (M.el p h)⟩
end DL

set_option Elab.async false
set_option maxRecDepth 100000
set_option maxHeartbeats 2000000
namespace DL
open PySem L2 HT TL RZ
def dotI (xs ys : List Int) : Int := ((xs.zip ys).map fun p => p.1 * p.2).sum
end DL

set_option Elab.async false
set_option maxRecDepth 100000
set_option maxHeartbeats 2000000
namespace DL
open PySem L2 HT TL RZ
/-! ### lists of texts -/
abbrev SRow := Addr × List Str
def refS (ms : List SRow) : List V := ms.map fun p => V.ref p.1
structure LstAt (H : Hp) (w : Addr) (ms : List SRow) : Prop where
  at' : H w = some (.lst (refS ms))
  el : ∀ p ∈ ms, H p.1 = some (.lst (p.2.map V.str))
theorem LstAt.same {H H' : Hp} {w : Addr} {ms : List SRow} (M : LstAt H w ms) (s : Same H H') : LstAt H' w ms := ⟨s _ _ M.at', fun p h => s _ _ (M.el p h)⟩
end DL

set_option Elab.async false
set_option maxRecDepth 100000
set_option maxHeartbeats 2000000
namespace DL
open PySem L2 HT TL RZ
/-! ### rows from any standing, counted -/
def lvlF (bs : List Bar) (s : List Bool) : Nat → List (List Bool)
  | 0 => [s]
  | t + 1 => (lvlF bs s t).flatMap (nextL bs)
theorem lvlF_add (bs : List Bar) (s : List Bool) (a : Nat) : ∀ b, lvlF bs s (a + b) = (lvlF bs s a).flatMap fun x => lvlF bs x b
  | 0 => by
    show lvlF bs s a = (lvlF bs s a).flatMap fun x => [x]
    induction lvlF bs s a with
    | nil => rfl
    | cons y l ih => rw [List.flatMap_cons, ← ih]; rfl
  | b + 1 => by
    show (lvlF bs s (a + b)).flatMap (nextL bs) = _
    rw [lvlF_add bs s a b, List.flatMap_assoc]
    rfl
theorem lvlF_in {bs : List Bar} {rs : List (List Bool)} (ex : ∀ st ∈ rs, ∀ d ∈ freeL bs st, flip st d ∈ rs) {s : List Bool} (hs : s ∈ rs) (t : Nat) : ∀ x ∈ lvlF bs s t, x ∈ rs := by
  induction t with
  | zero =>
    intro x h
    rw [List.mem_singleton.mp h]
    exact hs
  | succ t ih =>
    intro x h
    obtain ⟨y, hy, hm⟩ := List.mem_flatMap.mp h
    obtain ⟨d, hd, rfl⟩ := List.mem_map.mp hm
    exact ex y (ih y hy) d hd
theorem len_flat (L : List (List Bool)) (h : List Bool → List (List Bool)) : (L.flatMap h).length = nSum (L.map fun x => (h x).length) := by
  induction L with
  | nil => rfl
  | cons a L ih =>
    rw [List.flatMap_cons, List.length_append, ih]
    rfl
theorem step_len {bs : List Bar} {n : Nat} {rs : List (List Bool)} (R : Reach bs n rs) {s : List Bool} (hs : s ∈ rs) (a b : Nat) : nSum (rs.map fun x => (lvlF bs s a).count x * (lvlF bs x b).length) = (lvlF bs s (a + b)).length := by
  rw [nSum_count rs R.nd (fun x => (lvlF bs x b).length) _ (lvlF_in R.ex hs a), lvlF_add, len_flat]
/-! ### by rests -/
theorem sum_mod {α : Type} (l : List α) (f : α → Int) (g : α → Nat) (d : Int) (h : ∀ x ∈ l, f x % d = (g x : Int) % d) : (l.map f).sum % d = ((nSum (l.map g) : Nat) : Int) % d := by
  induction l with
  | nil => rfl
  | cons a l ih =>
    have h1 := h a List.mem_cons_self
    have h2 := ih fun x hx => h x (List.mem_cons_of_mem _ hx)
    rw [List.map_cons, List.sum_cons, Int.add_emod, h1, h2, ← Int.add_emod]
    show _ = (((g a + nSum (l.map g) : Nat)) : Int) % d
    rw [Int.natCast_add]
theorem mul_mod {a b d : Int} {x y : Nat} (h1 : a % d = (x : Int) % d) (h2 : b % d = (y : Int) % d) : (a * b) % d = ((x * y : Nat) : Int) % d := by
  rw [Int.mul_emod, h1, h2, ← Int.mul_emod, Int.natCast_mul]
theorem dot_map {α : Type} (l : List α) (f g : α → Int) : dotI (l.map f) (l.map g) = (l.map fun x => f x * g x).sum := by
  unfold dotI
  rw [List.zip_map', List.map_map]
  rfl
end DL

set_option Elab.async false
set_option maxRecDepth 100000
set_option maxHeartbeats 2000000
namespace DL
open PySem L2 HT TL RZ
structure spFew0 (C : Addr) (vs : List V) (H : Hp) (Q : VK) (_ : XK) : Prop where
  h : ∃ (c t : Addr) (n m : Int), vs = [.ref c, .int m] ∧ CabAt C H c n t ∧ n ≤ m ∧ Q .non H
end DL

set_option Elab.async false
set_option maxRecDepth 100000
set_option maxHeartbeats 2000000
namespace DL
open PySem L2 HT TL RZ
/-- the tables: ways of q pulls -/
structure WayOk (bs : List Bar) (rs : List (List Bool)) (d : Int) (q : Nat) (W : List Bool → List Bool → Int) : Prop where
  lo : ∀ s ∈ rs, ∀ b ∈ rs, 0 ≤ W s b ∧ W s b < 2 ^ 40
  eq : ∀ s ∈ rs, ∀ b ∈ rs, W s b % d = ((lvlF bs s q).count b : Nat) % d
structure CntOk (bs : List Bar) (rs : List (List Bool)) (d : Int) (m : Nat) (c : List Bool → Int) : Prop where
  eq : ∀ s ∈ rs, c s % d = ((lvlF bs s m).length : Nat) % d
theorem CntOk.more {bs : List Bar} {n : Nat} {rs : List (List Bool)} {d : Int} {q m : Nat} {W : List Bool → List Bool → Int} {c : List Bool → Int} (R : Reach bs n rs) (h : WayOk bs rs d q W) (k : CntOk bs rs d m c) : CntOk bs rs d (q + m) fun s => dotI (rs.map fun b => W s b) (rs.map c) % d := by
  refine ⟨fun s hs => ?_⟩
  show dotI (rs.map fun b => W s b) (rs.map c) % d % d = _
  rw [Int.emod_emod, dot_map, sum_mod rs _ (fun x => (lvlF bs s q).count x * (lvlF bs x m).length) d fun x hx => mul_mod (h.eq s hs x hx) (k.eq x hx), step_len R hs]
section
variable {P : Program} {w : World} {K : PySem.W.Frag} {mg : Str → Option Value} {base : Heap}
theorem scFew0 : FnScope ["cabinet", "most"] ["cabinet", "most"] (defScope s_check_few_drawers) := ⟨rfl, rfl, rfl, by decide +kernel, rfl, by decide +kernel, by decide +kernel⟩
theorem ok_few0 {f C : Addr} {fd : FuncData} (F : Fun K "check_few_drawers" "check_few_drawers" s_check_few_drawers f fd) (CP : CabP P w K mg base C) : FnOk P w K mg base CX0 4 f fd ["cabinet", "most"] (spFew0 C) := by
  refine F.ok scFew0 (fun vs H Q E h => ?_) (fun cdv A outer s H vs Q E hr h => ?_)
  · obtain ⟨c, t, n, m, rfl, _⟩ := h.h
    rfl
  · obtain ⟨c, t, n, m, rfl, ⟨dx, hc⟩, hle, k⟩ := h.h
    obtain ⟨pD, gD, fdD, hpD, GD, bD⟩ := CP.d
    refine ⟨_, pss_one (ps_if (pt_cmpR op_gt (pe_prop (pv 0) CP.cl hpD GD (hr.mono (by decide)) bD .nil pass0 rfl) (pv 1) (nomark _)) (pss_one ps_never) pss_nil), ?_⟩
    refine ⟨_, rfl, c, dx, _, rfl, hc, ⟨⟨c, dx, _, t, rfl, hc, _, rfl, _, _, rfl, rfl, _, rfl, ?_⟩⟩⟩
    rw [decide_eq_false (by omega)]
    exact iteF k
end
end DL

set_option Elab.async false
set_option maxRecDepth 100000
set_option maxHeartbeats 2000000
namespace DL
open PySem L2 HT TL RZ
/-! ### the two ways to tell all ascending choices of so many -/
theorem lexS.asymm : ∀ {a b : List Int}, lexS a b → ¬ lexS b a
  | [], _, h => h.elim
  | _ :: _, [], h => h.elim
  | x :: a, y :: b, h => fun z => by
    rcases h with h | ⟨e, h⟩
    · rcases z with z | ⟨e, _⟩
      · omega
      · omega
    · rcases z with z | ⟨_, z⟩
      · omega
      · exact lexS.asymm h z
theorem combs_stepS {n r : Nat} (ih : ∀ lo, (combsL n r lo).Pairwise fun a b => lexS (nInts a) (nInts b)) : ∀ m lo, n - lo ≤ m → (combsL n (r + 1) lo).Pairwise fun a b => lexS (nInts a) (nInts b)
  | m, lo, hm => by
    rcases Nat.lt_or_ge lo n with h | h
    · rw [combs_cons h, List.pairwise_append]
      refine ⟨?_, ?_, fun a ha b hb => ?_⟩
      · rw [List.pairwise_map]
        exact (ih (lo + 1)).imp fun h => .inr ⟨rfl, h⟩
      · cases m with
        | zero => omega
        | succ m => exact combs_stepS ih m (lo + 1) (by omega)
      · obtain ⟨d, hd, rfl⟩ := List.mem_map.mp ha
        have h1 := combs_len hb
        have h2 := combs_lt hb
        cases b with
        | nil => cases h1
        | cons y b =>
          have := (h2 y List.mem_cons_self).1
          exact .inl (by show (lo : Int) < (y : Int); omega)
    · have : combsL n (r + 1) lo = [] := combs_none (by omega) (by omega)
      rw [this]
      exact List.Pairwise.nil
theorem combs_S {n : Nat} : ∀ (r lo : Nat), (combsL n r lo).Pairwise fun a b => lexS (nInts a) (nInts b)
  | 0, lo => List.pairwise_singleton _ _
  | r + 1, lo => combs_stepS (fun lo => combs_S r lo) _ lo (Nat.le_refl _)
theorem pw_same {α : Type} {R : α → α → Prop} (as : ∀ a b, R a b → ¬ R b a) : ∀ {l m : List α}, l.Pairwise R → m.Pairwise R → (∀ x, x ∈ l ↔ x ∈ m) → l = m
  | [], [], _, _, _ => rfl
  | [], b :: m, _, _, h => by cases (h b).mpr List.mem_cons_self
  | a :: l, [], _, _, h => by cases (h a).mp List.mem_cons_self
  | a :: l, b :: m, h1, h2, h => by
    rw [List.pairwise_cons] at h1 h2
    have irr : ∀ x, ¬ R x x := fun x z => as x x z z
    have e : a = b := by
      rcases List.mem_cons.mp ((h a).mp List.mem_cons_self) with q | q
      · exact q
      · rcases List.mem_cons.mp ((h b).mpr List.mem_cons_self) with z | z
        · exact z.symm
        · exact absurd (h1.1 b z) (as _ _ (h2.1 a q))
    subst e
    rw [pw_same as h1.2 h2.2 fun x => ⟨fun hx => ?_, fun hx => ?_⟩]
    · rcases List.mem_cons.mp ((h x).mp (List.mem_cons_of_mem _ hx)) with z | z
      · subst z
        exact absurd (h1.1 x hx) (irr x)
      · exact z
    · rcases List.mem_cons.mp ((h x).mpr (List.mem_cons_of_mem _ hx)) with z | z
      · subst z
        exact absurd (h2.1 x hx) (irr x)
      · exact z
section
variable {α : Type} [DecidableEq α] [Inhabited α] {κ : α → Int}
theorem pick_S {U : List α} (hU : U.Pairwise fun a b => κ a < κ b) : ∀ {c d : List Nat}, (∀ i ∈ c, i < U.length) → (∀ i ∈ d, i < U.length) → lexS (nInts c) (nInts d) → lexS ((pickB U c).map κ) ((pickB U d).map κ)
  | [], _, _, _, h => h.elim
  | _ :: _, [], _, _, h => h.elim
  | i :: c, j :: d, hc, hd, h => by
    rcases h with h | ⟨e, h⟩
    · have h : (i : Int) < (j : Int) := h
      exact .inl (getD_lt hU (by omega) (hd j List.mem_cons_self))
    · have e : (i : Int) = (j : Int) := e
      obtain rfl : i = j := by omega
      exact .inr ⟨rfl, pick_S hU (fun i hi => hc i (List.mem_cons_of_mem _ hi)) (fun i hi => hd i (List.mem_cons_of_mem _ hi)) h⟩
theorem combs_subs {U : List α} (hU : U.Pairwise fun a b => κ a < κ b) (r : Nat) : (combsL U.length r 0).map (pickB U) = subsL κ U r := by
  refine pw_same (R := fun a b => lexS (a.map κ) (b.map κ)) (fun a b h => h.asymm) ?_ (subs_lex hU r) fun S => ?_
  · rw [List.pairwise_map]
    refine List.Pairwise.imp_of_mem (fun {a b} ha hb h => ?_) (combs_S r 0)
    exact pick_S hU (fun i hi => (combs_lt ha i hi).2) (fun i hi => (combs_lt hb i hi).2) h
  · rw [subs_mem]
    constructor
    · intro h
      obtain ⟨c, hc, rfl⟩ := List.mem_map.mp h
      have hl : ∀ i ∈ c, i < U.length := fun i hi => (combs_lt hc i hi).2
      refine ⟨?_, pick_asc hU (combs_asc hc) hl, pick_mem hl⟩
      show (c.map fun i => U.getD i default).length = r
      rw [List.length_map]
      exact combs_len hc
    · rintro ⟨h1, h2, h3⟩
      obtain ⟨q1, q2, q3⟩ := pick_idx hU h2 h3
      refine List.mem_map.mpr ⟨S.map U.idxOf, combs_mem (by rw [List.length_map]; exact h1) q1 fun i hi => ⟨Nat.zero_le _, q2 i hi⟩, q3⟩
end
/-! ### the first list that is not empty -/
def firstNe {β : Type} (F : Nat → List β) : Nat → List β
  | 0 => []
  | k + 1 => if (firstNe F k).isEmpty = true then F k else firstNe F k
theorem firstNe_nil {β : Type} {F : Nat → List β} : ∀ {k : Nat}, (∀ j < k, F j = []) → firstNe F k = []
  | 0, _ => rfl
  | k + 1, h => by
    have : firstNe F k = [] := firstNe_nil fun j hj => h j (by omega)
    show (if (firstNe F k).isEmpty = true then F k else firstNe F k) = []
    rw [this]
    exact h k (by omega)
theorem firstNe_at {β : Type} {F : Nat → List β} {i : Nat} (h0 : ∀ j < i, F j = []) (h1 : F i ≠ []) : ∀ {k : Nat}, i < k → firstNe F k = F i
  | k + 1, h => by
    show (if (firstNe F k).isEmpty = true then F k else firstNe F k) = F i
    rcases Nat.lt_or_ge i k with z | z
    · rw [firstNe_at h0 h1 z]
      cases q : F i with
      | nil => exact absurd q h1
      | cons a l => rfl
    · obtain rfl : i = k := by omega
      rw [firstNe_nil h0]
      rfl
/-! ### `not in` a list or a tuple of bars -/
def rNotInDT (K : PySem.W.Frag) : R2 := fun x y H Q => ∃ d ds, Dp K H x d ∧ (Dp K H y (.list ds) ∨ Dp K H y (.tuple ds)) ∧ SeqAt.shaped d = true ∧ SeqAt.shaped (.list ds) = true ∧ SeqAt.shaped (.tuple ds) = true ∧ Q (.bl (!(ds.any fun z => PyData.eqv z d))) H
theorem op_notInDT {X : Cx} {K : PySem.W.Frag} (hK : X.K = K) (hu : X.A.units + 65 < cLine) : OpR X (compareOp .NotIn) (rNotInDT K) := by
  subst hK
  intro pins s σ H x y v u Q I rx ry h
  obtain ⟨d, ds, hd, he, sd, se, st, q⟩ := h
  obtain ⟨as, r1⟩ := Dp.reads I d x v hd rx
  rcases he with he | he
  · obtain ⟨bs, r2⟩ := Dp.reads I (.list ds) y u he ry
    exact SeqAt.notIn_list_reads r2 r1 (SeqAt.canLay_of_shaped se) (SeqAt.canLay_of_shaped sd) (PyProof.Rows.room_in_shaped sd hu) ⟨.bl _, H, I, rfl, q⟩
  · obtain ⟨bs, r2⟩ := Dp.reads I (.tuple ds) y u he ry
    exact SeqAt.notIn_tuple_reads r2 r1 (SeqAt.canLay_of_shaped st) (SeqAt.canLay_of_shaped sd) (PyProof.Rows.room_in_shaped sd hu) ⟨.bl _, H, I, rfl, q⟩
theorem notin_bars {K : PySem.W.Frag} {H : Hp} {x q : Addr} {b : Bar} {ks : List (Addr × Bar)} {Q : VK} (hx : H x = some (.tup b.vs)) (hq : SqA K H q (ks.map fun k => V.ref k.1)) (hk : ∀ k ∈ ks, H k.1 = some (.tup k.2.vs)) (h : Q (.bl (!decide (b ∈ ks.map (·.2)))) H) : rNotInDT K (.ref x) (.ref q) H Q := by
  refine ⟨barD b, ks.map fun k => barD k.2, dp_bar (SqT.of' hx), hq.imp (fun z => .lst z (dpAll_bars hk)) (fun z => .tup z (dpAll_bars hk)), dok_shaped (dok_bar b) (by decide), dok_shaped (dok_list (dok_bars ks)) (by decide), dok_shaped (dok_tuple (dok_bars ks)) (by decide), ?_⟩
  have e : (ks.map fun k => barD k.2) = (ks.map (·.2)).map barD := by rw [List.map_map]; rfl
  rw [e, any_barD]
  exact h
/-! ### check_pairs of pairs, guards -/
/-- at l a list or tuple of pairs -/
structure PrsAt (H : Hp) (l : Addr) (n : Nat) (qe : List (Addr × Int × Int)) : Prop where
  at' : H l = some (.lst (qe.map fun e => V.ref e.1)) ∨ H l = some (.tup (qe.map fun e => V.ref e.1))
  el : ∀ e ∈ qe, H e.1 = some (.tup [.int e.2.1, .int e.2.2])
  ok : ∀ e ∈ qe, 0 ≤ e.2.1 ∧ e.2.1 < e.2.2 ∧ e.2.2 < n
  few : qe.length ≤ 30
theorem PrsAt.same {H H' : Hp} {l : Addr} {n : Nat} {qe : List (Addr × Int × Int)} (A : PrsAt H l n qe) (s : Same H H') : PrsAt H' l n qe := ⟨A.at'.imp (s _ _) (s _ _), fun e he => s _ _ (A.el e he), A.ok, A.few⟩
theorem PrsAt.seq {H : Hp} {l : Addr} {n : Nat} {qe : List (Addr × Int × Int)} (A : PrsAt H l n qe) (K : PySem.W.Frag) : SqA K H l (qe.map fun e => V.ref e.1) := A.at'.imp SqL.of SqT.of'
structure spCkPr0 (C : Addr) (vs : List V) (H : Hp) (Q : VK) (_ : XK) : Prop where
  h : ∃ (c l t : Addr) (n : Nat) (qe : List (Addr × Int × Int)), vs = [.ref c, .ref l] ∧ CabAt C H c n t ∧ PrsAt H l n qe ∧ ∀ H', Same H H' → Q .non H'
def spareB (n : Nat) (bs : List Bar) : List Bar := (allB n).filter fun b => !decide (b ∈ bs)
noncomputable def gList (bs : List Bar) (n : Nat) (qs : List (Int × Int)) (m : Nat) : List (List Bar) := firstNe (fun k => (subsL Bar.code (spareB n bs) k).filter fun S => gOK (bs ++ S) n qs) (m + 1)
structure spGuard0 (C : Addr) (vs : List V) (H : Hp) (Q : VK) (_ : XK) : Prop where
  h : ∃ (c l : Addr) (bs : List Bar) (n m : Nat) (qe : List (Addr × Int × Int)), vs = [.ref c, .ref l, .int m] ∧ CabOk C H c n bs ∧ n ≤ 3 ∧ PrsAt H l n qe ∧ m ≤ 2 ∧
    ∀ (p : Addr) (ss : List NEnt) (H' : Hp), Same H H' → TupsAt H' p ss → nsB ss = gList bs n (qe.map (·.2)) m → Q (.ref p) H'
theorem pairB_ok {n : Nat} {i j : Int} (h : 0 ≤ i ∧ i < j ∧ j < n) : pairB n [.int i, .int j] = true := by
  have h1 : isD n (.int i) = true := by
    show (decide (0 ≤ i) && decide (i < (n : Int))) = true
    rw [decide_eq_true h.1, decide_eq_true (by omega)]
    rfl
  have h2 : isD n (.int j) = true := by
    show (decide (0 ≤ j) && decide (j < (n : Int))) = true
    rw [decide_eq_true (by omega), decide_eq_true h.2.2]
    rfl
  have h3 : ascB [i, j] = true := by
    show ([(i, j)].all fun p => decide (p.1 < p.2)) = true
    rw [List.all_cons, List.all_nil, Bool.and_true]
    exact decide_eq_true h.2.1
  unfold pairB setB
  rw [List.all_cons, List.all_cons, List.all_nil, h1, h2]
  show ((true && ascB [i, j]) && true) = true
  rw [h3]
  rfl
section
variable {P : Program} {w : World} {K : PySem.W.Frag} {mg : Str → Option Value} {base : Heap}
theorem scCP0 : FnScope ["cabinet", "pairs", "index", "pair"] ["cabinet", "pairs"] (defScope s_check_pairs) := ⟨rfl, rfl, rfl, by decide +kernel, rfl, by decide +kernel, by decide +kernel⟩
theorem ok_ckPr0 {f f1 C : Addr} {fd fd1 : FuncData} (F : Fun K "check_pairs" "check_pairs" s_check_pairs f fd) (T : Bt mg) (zL : mg "list" = none) (CP : CabP P w K mg base C)
    (G1 : FnOk P w K mg base CX0 5 f1 fd1 ["drawers", "value"] (spIsPair K)) (g1 : mg "is_pair" = some (.ref f1)) (k1 : PySem.W.keepIn K (.ref f1) = true) (b1 : Binds K fd1 ["drawers", "value"] []) :
    FnOk P w K mg base CX0 7 f fd ["cabinet", "pairs"] (spCkPr0 C) := by
  refine F.ok scCP0 (fun vs H Q E h => ?_) (fun cdv A outer s H vs Q E hr h => ?_)
  · obtain ⟨c, l, t, n, qe, rfl, _⟩ := h.h
    rfl
  · obtain ⟨c, l, t, n, qe, rfl, ⟨dx, hc⟩, TT, k⟩ := h.h
    obtain ⟨pD, gD, fdD, hpD, GD, bD⟩ := CP.d
    refine ⟨_, pss_cons (ps_if (pt_not (pt_val (pe_callB call_isiT (by rfl) T.isinstance (by decide +kernel) (pa_cons (pv 1) (pa_cons (pe_tup (pa_cons (pe_bltn (v := .ty "list") (by rfl) zL (by decide +kernel) rfl) (pa_cons (pe_bltn (v := .ty "tuple") (by rfl) T.tuple (by decide +kernel) rfl) pa_nil))) pa_nil))))) (pss_one ps_never) pss_nil)
      (pss_one (ps_for PassesOwn.never rfl (pi_or (pi_enum (by rfl) T.enumerate (pa_cons (pv 1) pa_nil)) (pi_enumT (by rfl) T.enumerate (pa_cons (pv 1) pa_nil))) (pg_tup (by rfl) (pgs_cons (pg_name (i := 2) scCP0.nd rfl (.inl rfl)) (pgs_cons (pg_name (i := 3) scCP0.nd rfl (.inl rfl)) pgs_nil)))
        (pss_one (ps_if (pt_not (pt_val (pe_call G1 (hr.mono (by decide)) rfl g1 k1 b1 .nil pass0 (pa_cons (pe_prop (pv 0) CP.cl hpD GD (hr.mono (by decide)) bD .nil pass0 rfl) (pa_cons (pv 3) pa_nil))))) (pss_one ps_never) pss_nil)))), ?_⟩
    refine ⟨_, rfl, (by show 2 ≤ sizeLine; decide), fun q hq => ?_⟩
    obtain ⟨s0, f0⟩ := new_at (o := .tup [.ty "list", .ty "tuple"]) hq
    generalize upd H q (.tup [.ty "list", .ty "tuple"]) = H0 at s0 f0 ⊢
    have T0 := TT.same s0
    obtain ⟨tv, ty, kt⟩ : ∃ tv, TyX K H0 (.ref l) tv ∧ PySem.W.kitAny K tv [.type "list", .type "tuple"] = some true := by
      rcases T0.at' with h | h
      · exact ⟨_, .base (.lst h), kit_lt2⟩
      · exact ⟨_, .base (.tup h), kit_tup2⟩
    refine ⟨_, q, _, tv, _, true, rfl, f0, .cons (.ty "list") (.cons (.ty "tuple") .nil), ty, kt, _, rfl, iteF ?_⟩
    obtain ⟨J, Gd, wk, hG, hJ⟩ : ∃ (J : It) (Gd : Hp → Prop), Walk J qe.length Gd (YPair (fun i => some (.int (i : Nat))) (fun i => (qe.map fun t => V.ref t.1)[i]?)) ∧ (∀ H', Same H0 H' → Gd H') ∧
        ∀ (g : TG) (tb : TS) (D : Ends) (σ : L2.St), σ[1]? = some (some (.ref l)) → tFor (iJ J) g tb D σ H0 → tFor (iOr (iEnum K (tCons (tVar 1) tNil)) (iEnumT K (tCons (tVar 1) tNil))) g tb D σ H0 := by
      rcases T0.at' with h | h
      · exact ⟨_, _, by rw [← List.length_map (f := fun t : Addr × Int × Int => V.ref t.1)]; exact walk_enum, fun H' s1 => s1.seq (SqL.of h), fun g tb D σ e q => .inl ⟨_, e, l, _, rfl, SqL.of h, q⟩⟩
      · exact ⟨_, _, by rw [← List.length_map (f := fun t : Addr × Int × Int => V.ref t.1)]; exact walk_enumT, fun H' s1 => SqT.same s1 (SqT.of' h), fun g tb D σ e q => .inr ⟨_, e, l, _, rfl, SqT.of' h, q⟩⟩
    refine hJ _ _ _ _ rfl ?_
    refine for_itJ wk (fun i σ H' => ∃ v2 v3, σ = [some (.ref c), some (.ref l), v2, v3] ∧ Same H0 H') ⟨_, _, rfl, Same.refl _⟩ (fun i σ H' _ ⟨_, _, _, s1⟩ => hG _ s1) ?_ (fun σ H' ⟨_, _, _, s1⟩ => k H' (s0.trans s1))
    rintro i y σ H1 H2 hi ⟨v2, v3, rfl, s1⟩ ⟨T', x1, x2, rfl, hT', rfl, e1, e2⟩
    have e1' : V.int (i : Nat) = x1 := Option.some.inj e1
    subst e1'
    have e2 : (qe.map fun t => V.ref t.1)[i]? = some x2 := e2
    rw [List.getElem?_map] at e2
    cases ex : qe[i]? with
    | none => rw [ex] at e2; cases e2
    | some t' =>
      rw [ex] at e2
      cases e2
      have htm := List.mem_of_getElem? ex
      obtain ⟨s2, f2⟩ := new_at (o := .tup [.int (i : Nat), .ref t'.1]) hT'
      generalize upd H1 T' (.tup [.int (i : Nat), .ref t'.1]) = H2 at s2 f2 ⊢
      have s12 := s1.trans s2
      have s02 := s0.trans s12
      refine ⟨T', _, rfl, SqT.of' f2, rfl, _, _, rfl, _, _, rfl, rfl, ?_⟩
      have gp : GoodPair K H2 n (.ref t'.1) := ⟨_, _, rfl, SqT.of' (s12 _ _ (T0.el t' htm)), by show 2 ≤ 1000; decide, fun x hx => by
        simp only [List.mem_cons, List.not_mem_nil, or_false] at hx
        rcases hx with rfl | rfl <;> rfl, pairB_ok (T0.ok t' htm)⟩
      exact ⟨_, rfl, c, dx, _, rfl, s02 _ _ hc, ⟨⟨c, dx, _, t, rfl, s02 _ _ hc, _, rfl, gp.sp fun H4 s4 => ⟨_, rfl, iteF ⟨_, _, rfl, s12.trans s4⟩⟩⟩⟩⟩
end
end DL

set_option Elab.async false
set_option maxRecDepth 100000
set_option maxHeartbeats 2000000
namespace DL
open PySem L2 HT TL RZ
theorem spare_asc {n : Nat} (n7 : n ≤ 7) (bs : List Bar) : (spareB n bs).Pairwise fun a b => a.code < b.code := (allB_asc n n7).filter _
theorem all3_len {n : Nat} (h : n ≤ 3) : (allB n).length ≤ 24 := by
  match n, h with
  | 0, _ => decide +kernel
  | 1, _ => decide +kernel
  | 2, _ => decide +kernel
  | 3, _ => decide +kernel
/-- there are not many choices of two at most -/
theorem subs_two {α : Type} {κ : α → Int} (U : List α) : ∀ r, r ≤ 2 → (subsL κ U r).length ≤ 1 + U.length * U.length
  | 0, _ => by
    show 1 ≤ _
    omega
  | 1, _ => by
    show (([([] : List α)]).flatMap fun s => (U.filter (aft κ s)).map fun b => s ++ [b]).length ≤ _
    rw [List.flatMap_cons, List.flatMap_nil, List.append_nil, List.length_map]
    have h1 := List.length_filter_le (aft κ []) U
    have h2 : U.length ≤ U.length * U.length := by
      rcases Nat.eq_zero_or_pos U.length with z | z
      · omega
      · exact Nat.le_mul_of_pos_left _ z
    omega
  | 2, _ => by
    show ((subsL κ U 1).flatMap fun s => (U.filter (aft κ s)).map fun b => s ++ [b]).length ≤ _
    have key : ∀ L : List (List α), (L.flatMap fun s => (U.filter (aft κ s)).map fun b => s ++ [b]).length ≤ L.length * U.length := fun L => by
      induction L with
      | nil => exact Nat.zero_le _
      | cons s L ih =>
        rw [List.flatMap_cons, List.length_append, List.length_map, List.length_cons, Nat.succ_mul]
        have := List.length_filter_le (aft κ s) U
        omega
    have h1 : (subsL κ U 1).length ≤ U.length := by
      show (([([] : List α)]).flatMap fun s => (U.filter (aft κ s)).map fun b => s ++ [b]).length ≤ _
      rw [List.flatMap_cons, List.flatMap_nil, List.append_nil, List.length_map]
      exact List.length_filter_le _ _
    have h2 := key (subsL κ U 1)
    have h3 : (subsL κ U 1).length * U.length ≤ U.length * U.length := Nat.mul_le_mul_right _ h1
    omega
theorem asg_lc {wi : TI} {g : TG} {tt : TT} {te : TE} {vs : List Nat} {gn : TG} {D : Ends} {σ : L2.St} {H : Hp} (h : tLc wi g tt te vs σ H fun x H1 => gn x σ H1 D.nx) : tAsg (tLc wi g tt te vs) gn D σ H := h
theorem seq_go {t u : TS} {D : Ends} {σ : L2.St} {H : Hp} (h : t { D with nx := u D } σ H) : tSeq t u D σ H := h
section
variable {P : Program} {w : World} {K : PySem.W.Frag} {mg : Str → Option Value} {base : Heap}
abbrev nGu : List Str := ["cabinet", "pairs", "most", "spare", "pulls", "apart", "many", "found", "bar", "pair", "added"]
theorem scGu0 : FnScope nGu ["cabinet", "pairs", "most"] (defScope s_guards) := ⟨rfl, rfl, rfl, by decide +kernel, rfl, by decide +kernel, by decide +kernel⟩
theorem ok_guard0 {f f1 f2 f3 f4 f5 f6 f7 f8 C : Addr} {fd fd1 fd2 fd3 fd4 fd5 fd6 fd7 fd8 : FuncData} (F : Fun K "guards" "guards" s_guards f fd) (T : Bt mg) (CP : CabP P w K mg base C) (cm : mg "combinations" = some (.type "itertools.combinations"))
    (gM : ∃ t, mg "MOST_GUARDED" = some (.int 4 t)) (gA : ∃ t, mg "MOST_ADDED" = some (.int 2 t))
    (G1 : FnOk P w K mg base CX0 1 f1 fd1 ["cabinet"] (spCkCab C)) (g1 : mg "check_cabinet" = some (.ref f1)) (k1 : PySem.W.keepIn K (.ref f1) = true) (b1 : Binds K fd1 ["cabinet"] [])
    (G2 : FnOk P w K mg base CX0 4 f2 fd2 ["cabinet", "most"] (spFew0 C)) (g2 : mg "check_few_drawers" = some (.ref f2)) (k2 : PySem.W.keepIn K (.ref f2) = true) (b2 : Binds K fd2 ["cabinet", "most"] [])
    (G3 : FnOk P w K mg base CX0 7 f3 fd3 ["cabinet", "pairs"] (spCkPr0 C)) (g3 : mg "check_pairs" = some (.ref f3)) (k3 : PySem.W.keepIn K (.ref f3) = true) (b3 : Binds K fd3 ["cabinet", "pairs"] [])
    (G4 : FnOk P w K mg base CX0 2 f4 fd4 ["value", "least", "most"] spCkNum0) (g4 : mg "check_number" = some (.ref f4)) (k4 : PySem.W.keepIn K (.ref f4) = true) (b4 : Binds K fd4 ["value", "least", "most"] [])
    (G5 : FnOk P w K mg base CX0 1 f5 fd5 ["drawers"] spAllBars) (g5 : mg "all_bars" = some (.ref f5)) (k5 : PySem.W.keepIn K (.ref f5) = true) (b5 : Binds K fd5 ["drawers"] [])
    (G6 : FnOk P w K mg base CX0 14 f6 fd6 ["cabinet"] (spPulls C)) (g6 : mg "reached_pulls" = some (.ref f6)) (k6 : PySem.W.keepIn K (.ref f6) = true) (b6 : Binds K fd6 ["cabinet"] [])
    (G7 : FnOk P w K mg base CX0 4 f7 fd7 ["cabinet", "some"] (spOpenPat K C)) (g7 : mg "open_pattern" = some (.ref f7)) (k7 : PySem.W.keepIn K (.ref f7) = true) (b7 : Binds K fd7 ["cabinet", "some"] [])
    (G8 : FnOk P w K mg base CX0 8 f8 fd8 ["cabinet", "pulls", "added", "apart"] (spIsG K C)) (g8 : mg "is_guarded" = some (.ref f8)) (k8 : PySem.W.keepIn K (.ref f8) = true) (b8 : Binds K fd8 ["cabinet", "pulls", "added", "apart"] []) :
    FnOk P w K mg base CX0 16 f fd ["cabinet", "pairs", "most"] (spGuard0 C) := by
  refine F.ok scGu0 (fun vs H Q E h => ?_) (fun cdv A outer s H vs Q E hr h => ?_)
  · obtain ⟨c, l, bs, n, m, qe, rfl, _⟩ := h.h
    rfl
  · obtain ⟨c, l, bs, n, m, qe, rfl, CC, n3, TT, m2, k⟩ := h.h
    obtain ⟨t, ks, ⟨dx, hc⟩, hB, eks, O, n1, n7, n100⟩ := CC.h
    obtain ⟨tM, gM⟩ := gM
    obtain ⟨tA, gA⟩ := gA
    obtain ⟨pD, gD, fdD, hpD, GD, bD⟩ := CP.d
    obtain ⟨pB, gB, fdB, hpB, GB, bB⟩ := CP.b
    have hu := hu_of hr
    have hu2 := hr.un
    rw [Nat.add_assoc] at hu2
    have hu3 := Nat.lt_of_le_of_lt (Nat.add_le_add_left (by decide : 65 ≤ 16 * 15 + 200) _) hu2
    refine ⟨_, pss_cons (ps_expr (pe_call G1 (hr.mono (by decide)) rfl g1 k1 b1 .nil pass0 (pa_cons (pv 0) pa_nil)))
      (pss_cons (ps_expr (pe_call G2 (hr.mono (by decide)) rfl g2 k2 b2 .nil pass0 (pa_cons (pv 0) (pa_cons (pe_glob (v := .int 4) rfl gM ⟨_, rfl⟩) pa_nil))))
      (pss_cons (ps_expr (pe_call G3 (hr.mono (by decide)) rfl g3 k3 b3 .nil pass0 (pa_cons (pv 0) (pa_cons (pv 1) pa_nil))))
      (pss_cons (ps_expr (pe_call G4 (hr.mono (by decide)) rfl g4 k4 b4 .nil pass0 (pa_cons (pv 2) (pa_cons pe_int (pa_cons (pe_glob (v := .int 2) rfl gA ⟨_, rfl⟩) pa_nil)))))
      (pss_cons (ps_setLc (i := 3) (own := [("bar", 8)]) (g := gName 8) (by rfl) scGu0.nd rfl rfl (by rfl) (pi_list (pe_call G5 (hr.mono (by decide)) rfl g5 k5 b5 .nil pass0 (pa_cons (pe_prop (pv 0) CP.cl hpD GD (hr.mono (by decide)) bD .nil pass0 rfl) pa_nil)))
          (blkOk_by (N := nGu) (sc := defScope s_guards) (by decide +kernel)) (fun _ _ _ _ _ => pg_name (i := 8) scGu0.nd rfl (by first | exact Or.inl rfl | exact Or.inr rfl))
          (fun _ _ _ _ _ => pts_one (pt_cmpR (op_notInDT (K := K) rfl hu3) (pv 8) (pe_prop (pv 0) CP.cl hpB GB (hr.mono (by decide)) bB .nil pass0 rfl) (by rfl))) (fun _ _ _ _ _ => pv 8))
      (pss_cons (ps_set (i := 4) scGu0.nd rfl (Or.inr rfl) (pe_call G6 (hr.mono (by decide)) rfl g6 k6 b6 .nil pass0 (pa_cons (pv 0) pa_nil)))
      (pss_cons (ps_set (i := 5) scGu0.nd rfl (Or.inr rfl) (pe_lc (own := [("pair", 9)]) (g := gName 9) (tt := tYes) (by rfl) scGu0.nd (pi_seq (K := K) rfl (pv 1)) (blkOk_by (N := nGu) (sc := defScope s_guards) (by decide +kernel)) (fun _ _ _ _ _ => pg_name (i := 9) scGu0.nd rfl (by first | exact Or.inl rfl | exact Or.inr rfl)) (fun _ _ _ _ _ => pts_nil)
          (fun _ _ _ _ _ => pe_call G7 (hr.mono (by decide)) rfl g7 k7 b7 .nil pass0 (pa_cons (pv 0) (pa_cons (pv 9) pa_nil)))))
      (pss_cons (ps_for PassesOwn.never rfl (pi_range1 (by rfl) T.range (pa_cons (pe_op op_add (pv 2) pe_int) pa_nil)) (pg_name (i := 6) scGu0.nd rfl (Or.inl rfl))
        (pss_cons (ps_setLc (i := 7) (own := [("added", 10)]) (g := gName 10) (by rfl) scGu0.nd rfl rfl (by rfl) (pi_comL (by rfl) cm (pv 3) (pv 6))
          (blkOk_by (N := nGu) (sc := defScope s_guards) (by decide +kernel)) (fun _ _ _ _ _ => pg_name (i := 10) scGu0.nd rfl (by first | exact Or.inl rfl | exact Or.inr rfl))
          (fun _ _ _ _ _ => pts_one (pt_val (pe_call G8 (hr.mono (by decide)) rfl g8 k8 b8 .nil pass0 (pa_cons (pv 0) (pa_cons (pv 4) (pa_cons (pv 10) (pa_cons (pv 5) pa_nil))))))) (fun _ _ _ _ _ => pv 10))
        (pss_one (ps_if (pt_truthS (K := K) rfl (pv 7)) (pss_one (ps_ret (pv 7))) pss_nil))))
      (pss_one (ps_ret (pe_lst pa_nil)))))))))), ?_⟩
    refine ⟨_, rfl, ⟨⟨c, _, t, rfl, ⟨dx, hc⟩, ?_⟩⟩⟩
    refine ⟨_, rfl, ⟨⟨c, t, n, 4, rfl, ⟨dx, hc⟩, by omega, ?_⟩⟩⟩
    refine ⟨_, rfl, _, rfl, ⟨⟨c, l, t, n, qe, rfl, ⟨dx, hc⟩, TT, fun H1 s1 => ?_⟩⟩⟩
    refine ⟨_, rfl, ⟨⟨m, 0, 2, rfl, by omega, by omega, ?_⟩⟩⟩
    have hc1 := s1 _ _ hc
    refine ⟨_, rfl, c, dx, _, rfl, hc1, ⟨⟨c, dx, _, t, rfl, hc1, ?_⟩⟩⟩
    refine ⟨⟨n, rfl, by omega, fun pa ab H2 hpa s2 hl2 eab el2 => ?_⟩⟩
    have s12 := s1.trans s2
    have hB2 := hB.same s12
    have hc2 := s12 _ _ hc
    have lab : ab.length ≤ 24 := by
      rw [← List.length_map (f := (·.2)), eab]
      exact all3_len n3
    refine ⟨pa, rfl, ⟨_, SqL.of hl2⟩, fun ps hps => ?_⟩
    refine lc_pick (walk_lst (K := K) (a := pa) (l := ab) (f := fun k => V.ref k.1)) ab rfl (by omega) (fun k => !decide (k.2 ∈ bs)) (fun k => V.ref k.1) hps (fun H' s => SqL.of (s _ _ hl2)) ?_ ?_
    · rintro j x b H3 H3' Tk Nk eb s3 ⟨rfl, b', eb', rfl⟩ kT kF
      rw [eb] at eb'
      cases eb'
      have hbm := List.mem_of_getElem? eb
      refine ⟨rfl, ?_⟩
      refine ⟨_, rfl, _, rfl, c, dx, _, rfl, s3 _ _ hc2, ⟨⟨c, dx, _, t, rfl, s3 _ _ hc2, notin_bars (s3 _ _ (el2 b hbm)) (.inr (SqT.of' (s3 _ _ hB2.tu))) (fun k hk => s3 _ _ (hB2.el k hk)) ⟨_, rfl, ?_⟩⟩⟩⟩
      rw [eks]
      cases e : !decide (b.2 ∈ bs) with
      | true => exact iteT ⟨_, rfl, kT _ e (Same.refl _)⟩
      | false => exact iteF (kF _ e (Same.refl _))
    intro H3 s3 hps3
    obtain ⟨sp, esp⟩ : ∃ sp, sp = ab.filter fun k => !decide (k.2 ∈ bs) := ⟨_, rfl⟩
    rw [← esp] at hps3
    have lsp : sp.length ≤ 24 := by
      rw [esp]
      exact Nat.le_trans (List.length_filter_le _ _) lab
    have spm : sp.map (·.2) = spareB n bs := by
      rw [esp, map_filter (fun k : Addr × Bar => k.2) (fun b => !decide (b ∈ bs)) ab, eab]
      rfl
    have spt : ∀ k ∈ sp, H3 k.1 = some (.tup k.2.vs) ∧ k.2.ok n := fun k hk => by
      rw [esp] at hk
      have h1 := (List.mem_filter.mp hk).1
      exact ⟨s3 _ _ (el2 k h1), allB_mem.mp (by rw [← eab]; exact List.mem_map_of_mem h1)⟩
    have spa : sp.Pairwise fun a b => kc a < kc b := by
      have := spare_asc (n := n) (by omega) bs
      rw [← spm, List.pairwise_map] at this
      exact this
    have s13 := s12.trans s3
    have CC3 := CC.same s13
    clear esp hl2 el2 hpa hps s2 s1 hB2 hc2 hc1 s12 lab eab
    refine ⟨_, rfl, ⟨⟨c, bs, n, rfl, CC3, fun pp rs g0 H4 hpp s4 hpp4 RR PU => ?_⟩⟩⟩
    have s14 := s13.trans s4
    have TT4 := TT.same s14
    have hc4 := s14 _ _ hc
    refine name_go ?_
    dsimp only
    refine seq_go (asg_lc ?_)
    refine seq_lc (i := 1) (q := l) (l := qe) (f := fun e => V.ref e.1) rfl (TT4.seq K) fun J Gd Y wk hG hY => ?_
    refine lcC_pick wk qe rfl (by have := TT.few; omega) (fun _ => true) (fun e => V.str (pstr (opat n [e.2.1, e.2.2]))) (fun H' s => hG H' s) ?_ ?_
    · rintro j y e H5 H5' Tk Nk ee s5 yy kT kF
      obtain ⟨rfl, e', ee', rfl⟩ := hY _ _ _ _ yy
      rw [ee] at ee'
      cases ee'
      refine ⟨rfl, tYes_of (iteT ?_)⟩
      exact ⟨_, rfl, _, rfl, ⟨⟨c, e.1, n, t, [e.2.1, e.2.2], rfl, ⟨dx, s5 _ _ hc4⟩, by omega, SqT.of' (s5 _ _ (TT4.el e (List.mem_of_getElem? ee))), fun H6 s6 => kT _ rfl s6⟩⟩⟩
    intro ap H5 hap s5 hap5
    rw [List.filter_eq_self.mpr fun _ _ => rfl] at hap5
    have hap5' : H5 ap = some (.lst ((qe.map (·.2)).map fun q => V.str (pstr (opat n [q.1, q.2])))) := by rw [hap5, List.map_map]; rfl
    have hqs : ∀ q : Int × Int, q ∈ qe.map (·.2) → (0 ≤ q.1 ∧ q.1 < (n : Int)) ∧ 0 ≤ q.2 ∧ q.2 < (n : Int) := fun q hq => by
      obtain ⟨e, he, rfl⟩ := List.mem_map.mp hq
      obtain ⟨h1, h2, h3⟩ := TT.ok e he
      exact ⟨⟨h1, by omega⟩, by omega, h3⟩
    have lqs : (qe.map (·.2)).length ≤ 100 := by
      rw [List.length_map]
      have := TT.few
      omega
    have s15 := s14.trans s5
    have hc5 := s15 _ _ hc
    have hps5 := s5 _ _ (s4 _ _ hps3)
    have hpp5 := s5 _ _ hpp4
    have PU5 := PU.same s5
    have spt5 : ∀ k ∈ sp, H5 k.1 = some (.tup k.2.vs) ∧ k.2.ok n := fun k hk => ⟨s5 _ _ (s4 _ _ (spt k hk).1), (spt k hk).2⟩
    clear hap5 hap hps3 hpp4 PU spt hpp s4 s5 s14 s13 CC3 hc4 TT4
    obtain ⟨QS, eQS⟩ : ∃ QS, QS = qe.map (·.2) := ⟨_, rfl⟩
    rw [← eQS] at hap5' hqs lqs k
    obtain ⟨FF, eFF⟩ : ∃ FF : Nat → List (List Bar), FF = fun j => (subsL Bar.code (spareB n bs) j).filter fun S => gOK (bs ++ S) n QS := ⟨_, rfl⟩
    have k : ∀ (p : Addr) (ss : List NEnt) (H' : Hp), Same H H' → TupsAt H' p ss → nsB ss = firstNe FF (m + 1) → Q (.ref p) H' := fun p ss H' h1 h2 h3 => k p ss H' h1 h2 (by rw [h3, eFF]; rfl)
    refine ⟨_, rfl, _, _, rfl, rfl, ?_⟩
    refine ⟨_, rfl, by omega, by omega, ?_⟩
    have em : (((m : Nat) : Int) + 1).toNat = m + 1 := by omega
    rw [em]
    refine for_range (lo := 0) (n := m + 1) (fun i σ H' => ∃ u6 u7 : Option V, σ = [some (.ref c), some (.ref l), some (.int m), some (.ref ps), some (.ref pp), some (.ref ap), u6, u7, none, none, none] ∧ Same H5 H' ∧ ∀ j < i, FF j = [])
      ⟨_, _, rfl, Same.refl _, fun j hj => by omega⟩ ?_ ?_
    · rintro i σ H6 hi ⟨u6, u7, rfl, s6, hno⟩
      have ei : (0 : Int) + (i : Nat) = (i : Int) := by omega
      rw [ei]
      refine ⟨_, rfl, _, rfl, ps, _, i, rfl, rfl, SqL.of (s6 _ _ hps5), by rw [List.length_map]; omega, by omega, fun D hD => ?_⟩
      rw [List.length_map]
      have lsub : (combsL sp.length i 0).length ≤ 600 := by
        have h1 := congrArg List.length (combs_subs (κ := kc) spa i)
        rw [List.length_map] at h1
        have h2 := subs_two (κ := kc) sp i (by omega)
        have h3 : sp.length * sp.length ≤ 24 * 24 := Nat.mul_le_mul lsp lsp
        omega
      refine lc_it walk_com (fun t H' => Same H6 H' ∧ ∃ cs : List NEnt, H' D = some (.lst (cs.map fun n => V.ref n.1)) ∧ cs.map (·.2) = (((combsL sp.length i 0).take t).map (pickB sp)).filter (fun S => gOK (bs ++ S.map (·.2)) n QS) ∧
          (∀ n ∈ cs, n.1 ≠ D ∧ H' n.1 = some (.tup (n.2.map fun b => V.ref b.1)))) ⟨same_upd hD, [], upd_same, rfl, fun n hn => (by cases hn)⟩ (fun _ _ _ _ => trivial) ?_ ?_
      · rintro t' x H7 H7' ht ⟨s7, cs, hD7, ecs, hcs⟩ ⟨T', cc, rfl, hT', rfl, ec⟩
        obtain ⟨s8, f8⟩ := new_at (o := .tup (pickV (sp.map fun k => V.ref k.1) cc)) hT'
        generalize upd H7 T' (.tup (pickV (sp.map fun k => V.ref k.1) cc)) = H8 at s8 f8 ⊢
        have hcm := List.mem_of_getElem? ec
        have hcl : ∀ i ∈ cc, i < sp.length := fun i hi => (combs_lt hcm i hi).2
        have hcn := combs_len hcm
        have epv : pickV (sp.map fun k => V.ref k.1) cc = (pickB sp cc).map fun k => V.ref k.1 := by
          unfold pickV pickB
          rw [List.map_map]
          refine List.map_congr_left fun i hi => ?_
          have hl := hcl i hi
          show (sp.map fun k => V.ref k.1).getD i .non = V.ref (sp.getD i default).1
          rw [List.getD_eq_getElem?_getD, List.getD_eq_getElem?_getD, List.getElem?_map, List.getElem?_eq_getElem hl]
          rfl
        rw [epv] at f8
        have nT : T' ≠ D := (ne_of_none hD7 hT').symm
        have s58 := (s6.trans s7).trans s8
        refine ⟨rfl, ?_⟩
        refine ⟨_, rfl, _, rfl, _, rfl, _, rfl, ⟨⟨c, pp, T', t, ap, bs, pickB sp cc, n, rs, g0, QS, rfl, ⟨dx, s58 _ _ hc5⟩, by omega, by omega, s58 _ _ hpp5, RR, PU5.same s58, SqT.of' f8, fun k hk => ?_, ?_, s58 _ _ hap5', hqs, lqs, fun H9 s9 => ?_⟩⟩⟩
        · obtain ⟨h1, h2⟩ := spt5 k (pick_mem hcl k hk)
          exact ⟨s58 _ _ h1, h2⟩
        · show (cc.map _).length ≤ 100
          rw [List.length_map]
          omega
        have s69 := (s7.trans s8).trans s9
        have hD9 := s9 _ _ (s8 _ _ hD7)
        have etk : (combsL sp.length i 0).take (t' + 1) = (combsL sp.length i 0).take t' ++ [cc] := by
          obtain ⟨hl, e⟩ := List.getElem?_eq_some_iff.mp ec
          rw [List.take_succ_eq_append_getElem hl, e]
        have hcs9 : ∀ n ∈ cs, n.1 ≠ D ∧ H9 n.1 = some (.tup (n.2.map fun b => V.ref b.1)) := fun n hn => ⟨(hcs n hn).1, s9 _ _ (s8 _ _ (hcs n hn).2)⟩
        have hT9 := s9 _ _ f8
        refine ⟨_, rfl, ?_⟩
        cases eg : gOK (bs ++ (pickB sp cc).map (·.2)) n QS with
        | false =>
          refine iteF ⟨s69, cs, hD9, ?_, hcs9⟩
          rw [etk, List.map_append, List.filter_append, ← ecs, List.map_cons, List.map_nil, List.filter_cons, if_neg (by rw [eg]; exact Bool.false_ne_true)]
          exact (List.append_nil _).symm
        | true =>
          have lcs : cs.length ≤ 600 := by
            have h1 := congrArg List.length ecs
            have h2 := List.length_filter_le (fun S : List (Addr × Bar) => gOK (bs ++ S.map (·.2)) n QS) (((combsL sp.length i 0).take t').map (pickB sp))
            rw [List.length_map] at h1
            rw [List.length_map, List.length_take] at h2
            omega
          refine iteT ⟨_, rfl, _, hD9, by rw [List.length_map]; exact small1000 (by omega), fun b o eb => ?_, cs ++ [(T', pickB sp cc)], ?_, ?_, fun n hn => ?_⟩
          · rw [upd_ne (ne_of_none eb hD)]
            exact s69 _ _ eb
          · rw [upd_same, List.map_append]
            rfl
          · rw [etk, List.map_append, List.map_append, List.filter_append, ← ecs, List.map_cons, List.map_nil, List.map_cons, List.map_nil, List.filter_cons, if_pos eg]
            rfl
          · rcases List.mem_append.mp hn with h | h
            · obtain ⟨ne, z⟩ := hcs9 n h
              exact ⟨ne, by rw [upd_ne ne]; exact z⟩
            · rw [List.mem_singleton.mp h]
              exact ⟨nT, by rw [upd_ne nT]; exact hT9⟩
      · rintro H7 ⟨s7, cs, hD7, ecs, hcs⟩
        rw [List.take_length, combs_subs (κ := kc) spa i] at ecs
        have enb : nsB cs = FF i := by
          have h1 : nsB cs = (cs.map (·.2)).map (List.map (·.2)) := by
            unfold nsB
            rw [List.map_map]
            rfl
          rw [h1, ecs, map_filter (fun S : List (Addr × Bar) => S.map (·.2)) (fun S => gOK (bs ++ S) n QS) (subsL kc sp i), subs_map (κ := kc) (κ' := Bar.code) (·.2) (fun _ => rfl) sp i, spm, eFF]
        have s67 := s6.trans s7
        have hbar : ∀ x ∈ cs, ∀ b ∈ x.2, H7 b.1 = some (.tup b.2.vs) := fun x hx b hb => by
          have h1 : x.2 ∈ cs.map (·.2) := List.mem_map_of_mem hx
          rw [ecs] at h1
          exact s67 _ _ (spt5 b ((subs_mem.mp (List.mem_filter.mp h1).1).2.2 b hb)).1
        refine ⟨_, rfl, _, .inl ⟨_, SqL.of hD7, rfl⟩, ?_⟩
        cases ecs' : cs with
        | nil =>
          rw [ecs'] at enb
          refine iteF ⟨_, _, rfl, s67, fun j hj => ?_⟩
          rcases Nat.lt_or_ge j i with z | z
          · exact hno j z
          · obtain rfl : j = i := by omega
            exact enb.symm
        | cons x0 xs0 =>
          have hne : FF i ≠ [] := by
            rw [← enb, ecs']
            intro z
            cases z
          rw [← ecs']
          have e0 : (!(cs.map fun n => V.ref n.1).isEmpty) = true := by rw [ecs']; rfl
          rw [e0]
          exact iteT ⟨_, rfl, k D cs H7 (s15.trans s67) ⟨hD7, fun x hx => (hcs x hx).2, hbar⟩ (by rw [enb]; exact (firstNe_at hno hne (by omega)).symm)⟩
    · rintro σ H6 ⟨u6, u7, rfl, s6, hno⟩
      refine ⟨(by show 0 ≤ sizeLine; decide), fun e0 he0 => ?_⟩
      obtain ⟨s7, f7⟩ := new_at (o := .lst []) he0
      exact k e0 [] _ (s15.trans (s6.trans s7)) ⟨f7, fun x hx => (by cases hx), fun x hx => (by cases hx)⟩ (firstNe_nil hno).symm
end
end DL

set_option Elab.async false
set_option maxRecDepth 100000
set_option maxHeartbeats 2000000
namespace DL
open PySem L2 HT TL RZ
structure spLawGood (vs : List V) (H : Hp) (Q : VK) (_ : XK) : Prop where
  h : ∃ (p l : Addr) (bs : List Bar) (n : Nat) (qe : List (Addr × Int × Int)), vs = [.ref p, .ref l] ∧ DrOk H p n bs ∧ PrsAt H l n qe ∧ H l = some (.lst (qe.map fun e => V.ref e.1)) ∧ ∀ H', Same H H' → Q (.bl (gOK bs n (qe.map (·.2)))) H'
section
variable {P : Program} {w : World} {K : PySem.W.Frag} {mg : Str → Option Value} {base : Heap}
abbrev nLG : List Str := ["_law_d", "_law_pairs", "_law_rows_here", "_law_one", "_law_other", "_law_drawer", "_law_standing"]
theorem scLG : FnScope nLG ["_law_d", "_law_pairs"] (defScope s__law_good) := ⟨rfl, rfl, rfl, by decide +kernel, rfl, by decide +kernel, by decide +kernel⟩
theorem ok_lawGood {f fLr : Addr} {fd dLr : FuncData} (F : Fun K "_law_good" "_law_good" s__law_good f fd) (T : Bt mg) (zL : mg "list" = none) (zY : mg "any" = none)
    (GLr : FnOk P w K mg base CX0 3 fLr dLr ["_law_d", "_law_begin"] spLawRows) (gLr : mg "_law_rows" = some (.ref fLr)) (kLr : PySem.W.keepIn K (.ref fLr) = true) (bLr : Binds K dLr ["_law_d", "_law_begin"] []) :
    FnOk P w K mg base CX0 5 f fd ["_law_d", "_law_pairs"] spLawGood := by
  refine F.ok scLG (fun vs H Q E h => ?_) (fun cdv A outer s H vs Q E hr h => ?_)
  · obtain ⟨p, l, _, _, _, rfl, _⟩ := h.h
    rfl
  · obtain ⟨p, l, bs, n, qe, rfl, DD, TT, hl, k⟩ := h.h
    obtain ⟨t, ks, zs, hp, hB, eks, O, n1, n7, n100⟩ := DD.h
    refine ⟨_, pss_cons (ps_set (i := 2) scLG.nd rfl (Or.inl rfl) (pe_callTy (call_listD rfl) (by rfl) zL (by decide +kernel) (pa_cons (pe_call GLr (hr.mono (by decide)) rfl gLr kLr bLr .nil pass0 (pa_cons (pv 0) (pa_cons (pe_op op_mul_str pe_str (pe_ix ix_list (pv 0) pe_int (fun _ _ => rfl))) pa_nil))) pa_nil)))
      (pss_cons (ps_for PassesOwn.never rfl (pi_list (pv 1)) (pg_tup (by rfl) (pgs_cons (pg_name (i := 3) scLG.nd rfl (Or.inr rfl)) (pgs_cons (pg_name (i := 4) scLG.nd rfl (Or.inr rfl)) pgs_nil)))
        (pss_one (ps_if (pt_val (pe_callB (cr_any rfl) (by rfl) zY boot_any_ (pa_cons
            (pe_lc (own := [("_law_standing", 6)]) (g := gName 6) (tt := tYes) (by rfl) scLG.nd (pi_list (pv 2)) (blkOk_by (N := nLG) (sc := defScope s__law_good) (by decide +kernel)) (fun _ _ _ _ _ => pg_name (i := 6) scLG.nd rfl (Or.inl rfl)) (fun _ _ _ _ _ => pts_nil)
              (fun _ _ _ _ _ => pe_and (pe_cmpR op_eq (pe_ix ix_str (pv 6) (pv 3) (fun _ _ => rfl)) pe_str (nomark _)) (pe_one (pe_cmpR op_eq (pe_ix ix_str (pv 6) (pv 4) (fun _ _ => rfl)) pe_str (nomark _))))) pa_nil)))
          (pss_one (ps_ret pe_bl)) pss_nil)))
      (pss_cons (ps_for PassesOwn.never rfl (pi_range1 (by rfl) T.range (pa_cons (pe_ix ix_list (pv 0) pe_int (fun _ _ => rfl)) pa_nil)) (pg_name (i := 5) scLG.nd rfl (Or.inr rfl))
        (pss_one (ps_if (pt_not (pt_val (pe_callB (cr_any rfl) (by rfl) zY boot_any_ (pa_cons
            (pe_lc (own := [("_law_standing", 6)]) (g := gName 6) (tt := tYes) (by rfl) scLG.nd (pi_list (pv 2)) (blkOk_by (N := nLG) (sc := defScope s__law_good) (by decide +kernel)) (fun _ _ _ _ _ => pg_name (i := 6) scLG.nd rfl (Or.inl rfl)) (fun _ _ _ _ _ => pts_nil)
              (fun _ _ _ _ _ => pe_cmpR op_eq (pe_ix ix_str (pv 6) (pv 5) (fun _ _ => rfl)) pe_str (nomark _))) pa_nil))))
          (pss_one (ps_ret pe_bl)) pss_nil)))
      (pss_one (ps_ret pe_bl)))), ?_⟩
    have hshut : (shutS n).length = n := List.length_replicate
    refine ⟨_, rfl, _, rfl, p, _, 0, .int n, rfl, rfl, SqL.of hp, atI_nat (j := 0) rfl, "s", (n : Int), rfl, rfl, mulOk_one (by decide +kernel) n1 (by omega), ?_⟩
    rw [mul_shut (by omega) (by omega)]
    refine ⟨⟨p, bs, shutS n, rfl, by rw [hshut]; exact DD, fun fa kr H1 hfa s1 hF hE I => ?_⟩⟩
    have I' : BI bs (shutS n) (kr.map (·.2)).length (kr.map (·.2)) := by rw [List.length_map]; exact I
    refine ⟨fa, _, rfl, .inl hF, fun ra hra => ?_⟩
    have e1 : ((kvsOf kr).map fun kv => kV kv.1) = ((kr.map (·.2)).map (·.1)).map fun st => V.str (sstr st) := by
      unfold kvsOf
      rw [List.map_map, List.map_map, List.map_map]
      rfl
    obtain ⟨s2, f2⟩ := new_at (o := .lst ((kvsOf kr).map fun kv => kV kv.1)) hra
    generalize upd H1 ra (.lst ((kvsOf kr).map fun kv => kV kv.1)) = H2 at s2 f2 ⊢
    rw [e1] at f2
    have hmem : ∀ st, st ∈ (kr.map (·.2)).map (·.1) ↔ Rc bs n st := fun st => (rc_led I' (by omega)).symm
    have hlen : ∀ st ∈ (kr.map (·.2)).map (·.1), st.length = n := fun st h => by
      obtain ⟨e, he, rfl⟩ := List.mem_map.mp h
      rw [(I'.led e he).2.2, hshut]
    have lS : ((kr.map (·.2)).map (·.1)).length ≤ 128 := by
      rw [List.length_map]
      exact led_few I'.nd I'.led (by rw [hshut]; omega)
    generalize (kr.map (·.2)).map (·.1) = S at f2 hmem hlen lS
    have ek := gOK_of (qs := qe.map (·.2)) hmem
    have s02 := s1.trans s2
    have TT2 := TT.same s02
    have hl2 := s02 _ _ hl
    have hp2 := s02 _ _ hp
    clear s1 s2 hF hE hra hfa e1 I I'
    refine ⟨_, rfl, l, rfl, ⟨_, SqL.of hl2⟩, ?_⟩
    refine for_list (K := K) (a := l) (xs := qe.map fun e => V.ref e.1) (fun i σ H' => ∃ u3 u4 : Option V, σ = [some (.ref p), some (.ref l), some (.ref ra), u3, u4, none, none] ∧ Same H2 H' ∧ ∀ e ∈ qe.take i, (S.any fun st => sat st e.2.1 && sat st e.2.2) = false)
      ⟨_, _, rfl, Same.refl _, fun e he => (by cases he)⟩ (fun i σ H' _ ⟨_, _, _, s, _⟩ => SqL.of (s _ _ hl2)) ?_ ?_
    · rintro i x σ H3 hx ⟨u3, u4, rfl, s3, hno⟩
      rw [List.getElem?_map] at hx
      cases ee : qe[i]? with
      | none => rw [ee] at hx; cases hx
      | some e =>
        rw [ee] at hx
        cases hx
        have hem := List.mem_of_getElem? ee
        obtain ⟨o1, o2, o3⟩ := TT.ok e hem
        refine ⟨e.1, _, rfl, SqT.of' (s3 _ _ (TT2.el e hem)), rfl, _, _, rfl, _, _, rfl, rfl, ?_⟩
        have f3 := s3 _ _ f2
        refine ⟨_, rfl, ra, rfl, ⟨_, SqL.of f3⟩, fun D hD => ?_⟩
        refine lc_pick (walk_lst (K := K) (a := ra) (l := S) (f := fun st => V.str (sstr st))) S rfl (by omega) (fun _ => true) (fun st => V.bl (sat st e.2.1 && sat st e.2.2)) hD (fun H' s => SqL.of (s _ _ f3)) ?_ ?_
        · rintro j x z H5 H5' Tk Nk ez s5 ⟨rfl, z', ez', rfl⟩ kT kF
          rw [ez] at ez'
          cases ez'
          have hl' := hlen z (List.mem_of_getElem? ez)
          refine ⟨rfl, tYes_of (iteT ?_)⟩
          refine ⟨_, rfl, _, rfl, _, e.2.1, _, rfl, rfl, str_small (by omega), sstr_at (by omega) (by omega), rfl, ?_⟩
          rw [sgs_o]
          refine ⟨_, rfl, ?_⟩
          cases eb : sat z e.2.1 with
          | false =>
            refine iteF ?_
            have := kT _ rfl (Same.refl _)
            rw [eb] at this
            exact this
          | true =>
            refine iteT ?_
            refine ⟨_, rfl, _, rfl, _, e.2.2, _, rfl, rfl, str_small (by omega), sstr_at (by omega) (by omega), rfl, ?_⟩
            rw [sgs_o]
            have := kT _ rfl (Same.refl _)
            rw [eb] at this
            exact this
        intro H5 s5 hD5
        rw [List.filter_eq_self.mpr fun _ _ => rfl] at hD5
        refine ⟨D, S.map fun st => sat st e.2.1 && sat st e.2.2, rfl, SqL.of (by rw [hD5, List.map_map]; rfl), _, rfl, ?_⟩
        rw [bl_any]
        have s35 := s3.trans s5
        cases ev : S.any fun st => sat st e.2.1 && sat st e.2.2 with
        | true =>
          refine iteT ?_
          have hg : gOK bs n (qe.map (·.2)) = false := by
            rw [← ek]
            have : ((qe.map (·.2)).any fun q => S.any fun st => sat st q.1 && sat st q.2) = true := List.any_eq_true.mpr ⟨e.2, List.mem_map_of_mem hem, ev⟩
            rw [this]
            rfl
          have := k H5 (s02.trans s35)
          rw [hg] at this
          exact this
        | false =>
          refine iteF ⟨_, _, rfl, s35, fun e' he' => ?_⟩
          obtain ⟨hil, ei⟩ := List.getElem?_eq_some_iff.mp ee
          rw [List.take_succ_eq_append_getElem hil, ei] at he'
          rcases List.mem_append.mp he' with h | h
          · exact hno e' h
          · rw [List.mem_singleton.mp h]
            exact ev
    · rintro σ H3 ⟨u3, u4, rfl, s3, hno⟩
      rw [List.length_map, List.take_length] at hno
      have hany : ((qe.map (·.2)).any fun q => S.any fun st => sat st q.1 && sat st q.2) = false := by
        rw [List.any_eq_false]
        intro q hq
        obtain ⟨e, he, rfl⟩ := List.mem_map.mp hq
        rw [hno e he]
        exact Bool.false_ne_true
      rw [hany, Bool.not_false, Bool.true_and] at ek
      refine ⟨_, rfl, p, _, 0, .int n, rfl, rfl, SqL.of (s3 _ _ hp2), atI_nat (j := 0) rfl, ?_⟩
      refine ⟨_, rfl, by omega, by omega, ?_⟩
      rw [Int.toNat_natCast]
      refine for_range (lo := 0) (n := n) (fun i σ H' => ∃ u5 : Option V, σ = [some (.ref p), some (.ref l), some (.ref ra), u3, u4, u5, none] ∧ Same H2 H' ∧ ∀ d ∈ (drs n).take i, (S.any fun st => sat st d) = true)
        ⟨_, rfl, s3, fun d hd => (by cases hd)⟩ ?_ ?_
      · rintro i σ H4 hi ⟨u5, rfl, s4, hyes⟩
        have f4 := s4 _ _ f2
        have ei : (0 : Int) + (i : Nat) = (i : Int) := by omega
        rw [ei]
        refine ⟨_, rfl, ra, rfl, ⟨_, SqL.of f4⟩, fun D hD => ?_⟩
        refine lc_pick (walk_lst (K := K) (a := ra) (l := S) (f := fun st => V.str (sstr st))) S rfl (by omega) (fun _ => true) (fun st => V.bl (sat st (i : Int))) hD (fun H' s => SqL.of (s _ _ f4)) ?_ ?_
        · rintro j x z H5 H5' Tk Nk ez s5 ⟨rfl, z', ez', rfl⟩ kT kF
          rw [ez] at ez'
          cases ez'
          have hl' := hlen z (List.mem_of_getElem? ez)
          refine ⟨rfl, tYes_of (iteT ?_)⟩
          refine ⟨_, rfl, _, rfl, _, (i : Int), _, rfl, rfl, str_small (by omega), sstr_at (by omega) (by omega), rfl, ?_⟩
          rw [sgs_o]
          exact kT _ rfl (Same.refl _)
        intro H5 s5 hD5
        rw [List.filter_eq_self.mpr fun _ _ => rfl] at hD5
        refine ⟨D, S.map fun st => sat st (i : Int), rfl, SqL.of (by rw [hD5, List.map_map]; rfl), _, rfl, ?_⟩
        rw [bl_any]
        have s45 := s4.trans s5
        show if (!(S.any fun st => sat st (i : Int))) = true then _ else _
        cases ev : S.any fun st => sat st (i : Int) with
        | false =>
          refine iteT ?_
          have hg : gOK bs n (qe.map (·.2)) = false := by
            rw [← ek, Bool.eq_false_iff]
            intro z
            rw [List.all_eq_true] at z
            have := z (i : Int) (drs_mem.mpr ⟨by omega, by omega⟩)
            rw [ev] at this
            cases this
          have := k H5 (s02.trans s45)
          rw [hg] at this
          exact this
        | true =>
          refine iteF ⟨_, rfl, s45, fun d hd => ?_⟩
          obtain ⟨hil, e'⟩ := List.getElem?_eq_some_iff.mp (drs_get hi)
          rw [List.take_succ_eq_append_getElem hil, e'] at hd
          rcases List.mem_append.mp hd with h | h
          · exact hyes d h
          · rw [List.mem_singleton.mp h]
            exact ev
      · rintro σ H4 ⟨u5, rfl, s4, hyes⟩
        rw [List.take_of_length_le (by rw [drs_len]; exact Nat.le_refl _)] at hyes
        rw [List.all_eq_true.mpr hyes] at ek
        have := k H4 (s02.trans s4)
        rw [← ek] at this
        exact this
end
end DL

set_option Elab.async false
set_option maxRecDepth 100000
set_option maxHeartbeats 1000000

set_option Elab.async false
set_option maxRecDepth 100000
set_option maxHeartbeats 2000000
namespace DL
open PySem PySem.Spec PyProof.Rows L2 HT TL
/-! ### [x] and (x,) taken so many times, sorted of a tuple of ints -/
section
variable {prog : Program} {w : World} {A : Around} {E : Value → Shared → Prop} {s : Shared}
open PyProof.Rows in
theorem gather_tup {t : Addr} {vs : List Value} {Q : List Value → Shared → Prop} (ht : s.heap.IsTuple t vs.toArray) (hz : vs.length ≤ sizeLine)
    (h : Q vs { s with heap := (s.heap.push (seqObj "list" #[] 0)).update s.heap.objs.size (Obj.mapSeq (· ++ vs.toArray)) }) : wpAny (model prog w) A (collect (.ref t)) Q E s := by
  obtain ⟨o, ho, hc, n, hd⟩ := id ht
  unfold collect
  refine wpAny_bind (wpAny_runValue (codeAny_builtin entry_proto_collect' ?_))
  show wpAny _ _ (do again (.builtin "list.__iadd__" ⟨[← newList [], .ref t], []⟩)) _ _ s
  refine wpAny_bind (wpAny_newList (wpAny_pure ⟨Code.quiet_builtin _ (by decide +kernel), codeAny_builtin entry_list_iadd' ?_⟩))
  show wpAny _ _ (Builtin.List.listExtendWith (.ref s.heap.objs.size) (.ref t) (.ref s.heap.objs.size)) _ _ { s with heap := s.heap.push (seqObj "list" #[] 0) }
  have up : (s.heap.push (seqObj "list" #[] 0)).get? t = some o := Heap.get?_push_of_some _ ho
  have nw : (s.heap.push (seqObj "list" #[] 0)).get? s.heap.objs.size = some (seqObj "list" #[] 0) := Heap.get?_push_size _ rfl
  unfold Builtin.List.listExtendWith
  refine wpAny_bind (wpAny_typeOf (T := "tuple") ⟨o, up, hc⟩ ?_)
  rw [if_pos (by rw [show (Value.type "tuple" == Value.type "tuple") = true from rfl, Bool.or_true])]
  refine wpAny_bind (listItems_at up hd ?_)
  refine wpAny_bind (listItems_at (xs := #[]) (n := 0) nw rfl ?_)
  rw [if_neg (by simp)]
  refine wpAny_bind (listUpdate_at (xs := #[]) (n := 0) nw rfl ?_ (Nat.zero_le _) (by
    show (#[] ++ vs.toArray).size ≤ sizeLine + 1
    have : (#[] ++ vs.toArray).size = vs.length := by simp
    omega))
  refine wpAny_pure ?_
  show wpAny (model prog w) A (do
      match (← load s.heap.objs.size).data with
      | .seq xs _ => pure xs.toList
      | _ => unsupported "internal:collect") Q E _
  refine wpAny_bind (wpAny_load (get?_update_seq nw _) ?_)
  have e : ((#[] : Array Value) ++ vs.toArray).toList = vs := by simp
  show wpAny _ _ (pure ((#[] : Array Value) ++ vs.toArray).toList) Q E _
  rw [e]
  exact wpAny_pure h
end
end DL

set_option Elab.async false
set_option maxRecDepth 100000
set_option maxHeartbeats 2000000
namespace DL
open PySem PySem.Spec PyProof.Rows L2 HT TL
section
variable {prog : Program} {w : World} {A : Around} {E : Value → Shared → Prop} {s : Shared}
open PyProof.Rows SrtO in
theorem sorted_tupH {t : Addr} {vs : List Value} {ltv : Value → Value → Bool} {Q : Value → Shared → Prop} (O : Swo ltv) (ht : s.heap.IsTuple t vs.toArray) (hz : vs.length ≤ sizeLine)
    (hS : 2 ≤ vs.length → ∀ (h₁ : Heap) (a : Addr), (∀ b o, s.heap.get? b = some o → h₁.get? b = some o) → h₁.get? a = some (seqObj "list" vs.toArray 0) → SortableO prog w A.in1.in1 { s with heap := h₁ } a vs ltv)
    (h : ∀ out : List Value, Srtd ltv out → Stb ltv out vs → Q (.ref (s.heap.objs.size + 1)) { s with heap := sortedAll s.heap vs out.toArray }) : wpAny (model prog w) A (call (.builtin "sorted") [.ref t]) Q E s := by
  refine Calls.call_function_entry kind_sorted plain_sorted entry_sorted (args_sorted1 _) ?_
  unfold Builtin.«sorted»
  refine wpAny_bind (m := checkCount "sorted" 1 1 _) (wpAny_pure ?_)
  refine wpAny_bind (gather_tup ht hz ?_)
  refine wpAny_bind (wpAny_newList ?_ hz)
  have ext0 : ∀ b o, s.heap.get? b = some o → ((s.heap.push (seqObj "list" #[] 0)).update s.heap.objs.size (Obj.mapSeq (· ++ vs.toArray))).get? b = some o := fun c u e => by
    have z : c ≠ s.heap.objs.size := Nat.ne_of_lt (Heap.lt_size e)
    have := (Heap.SameBut.update (h := s.heap.push (seqObj "list" #[] 0)) s.heap.objs.size (Obj.mapSeq (· ++ vs.toArray))).extBut c u z (Heap.get?_push_of_some _ e)
    exact this
  obtain ⟨h2, e2⟩ : ∃ h2 : Heap, (s.heap.push (seqObj "list" #[] 0)).update s.heap.objs.size (Obj.mapSeq (· ++ vs.toArray)) = h2 := ⟨_, rfl⟩
  have n2 : h2.objs.size = s.heap.objs.size + 1 := by rw [← e2, Heap.size_update, size_push']
  have at2 : (h2.push (seqObj "list" vs.toArray 0)).get? (s.heap.objs.size + 1) = some (seqObj "list" vs.toArray 0) := by
    rw [← n2]
    exact Heap.get?_push_size _ rfl
  have fin : ∀ out : List Value, Srtd ltv out → Stb ltv out vs → Q (.ref (s.heap.objs.size + 1)) { s with heap := sortedHeap (h2.push (seqObj "list" vs.toArray 0)) (s.heap.objs.size + 1) vs out.toArray } := fun out a b => by
    rw [← e2]
    exact h out a b
  rw [e2] at ext0
  rw [e2]
  show wpAny _ _ _ _ _ { s with heap := h2.push (seqObj "list" vs.toArray 0) }
  rw [n2]
  refine wpAny_bind (wpAny_holding (wpAny_call_entry slot_list_sort ⟨_, at2, rfl⟩ entry_list_sort (list_sort_ord O at2 hz (fun q => hS q _ _ (fun b o e => Heap.get?_push_of_some _ (ext0 b o e)) at2) fun out a b => ⟨_, rfl, ?_⟩) (args_list_sort _)))
  exact wpAny_pure ⟨_, rfl, fin out a b⟩
end
/-- sorted(t), t a tuple of bars -/
def rSortTB (K : PySem.W.Frag) : List V → Hp → VK → Prop := fun vs H Q => ∃ (a : Addr) (bs : List (Addr × Bar)), vs = [V.ref a] ∧ SqT K H a (bs.map fun b => V.ref b.1) ∧ (∀ b ∈ bs, H b.1 = some (.tup b.2.vs) ∧ b.2.low) ∧
  ∀ (ks : List (Addr × Bar)) (p : Addr), ks.Perm bs → ks.Pairwise (fun x y => x.2.code ≤ y.2.code) → H p = none → Q (.ref p) (upd H p (.lst (ks.map fun k => V.ref k.1)))
theorem vals_refs : ∀ {bs : List (Addr × Bar)} {its : List Value}, Vals (bs.map fun b => V.ref b.1) its → its = bs.map fun b => Value.ref b.1
  | [], _, h => by cases h; rfl
  | b :: bs, _, h => by
    cases h with
    | cons r t =>
      rw [vals_refs t]
      have r : _ = Value.ref b.1 := r
      rw [r]
      rfl
theorem cr_sortTB {X : Cx} : CallR X (.builtin "sorted") (rSortTB X.K) := by
  intro pins s σ H vs us Q I r h
  obtain ⟨a, bs, rfl, hs, hb, q⟩ := h
  obtain ⟨its, rv, ht, hz⟩ := I.tuple hs
  rw [Vals.ref1 r]
  have ei := vals_refs rv
  have hz2 : its.length ≤ sizeLine := by rw [← rv.length]; exact hz
  have hbar : ∀ v ∈ its, IsBarV s.heap v (barAt H (backV v)) ∧ (barAt H (backV v)).low := fun v hv => by
    rw [ei] at hv
    obtain ⟨b, hbm, rfl⟩ := List.mem_map.mp hv
    have e1 : barAt H (backV (Value.ref b.1)) = b.2 := barAt_of (hb b hbm).1
    rw [e1]
    exact ⟨isBar_of I (hb b hbm).1, (hb b hbm).2⟩
  refine sorted_tupH (swo_code fun v => barAt H (backV v)) ht hz2 (fun h2 h₁ a' ext hat => ?_) fun out h1 h2 => ?_
  · refine bars_sortableO (by omega) (fun v hv => ⟨(hbar v hv).1.keeps fun c oo e _ => ext c oo e, (hbar v hv).2⟩) fun oo e => ?_
    have e' : some oo = some (seqObj "list" its.toArray 0) := e.symm.trans hat
    cases e'
    intro c
    exact absurd (Value.type.inj c) (by decide)
  · obtain ⟨ep, he'⟩ := PyProof.Rows.sortedAll_at s.heap its out.toArray
    have pm2 : out.Perm (bs.map fun b => Value.ref b.1) := by rw [← ei]; exact h2.perm
    have href : ∀ v ∈ out, ∃ b ∈ bs, v = Value.ref b.1 := fun v hv => by
      obtain ⟨b, hbm, e⟩ := List.mem_map.mp (pm2.mem_iff.mp hv)
      exact ⟨b, hbm, e.symm⟩
    have e1 : out.map backV = (out.map (adB H)).map fun k => V.ref k.1 := by
      rw [List.map_map]
      refine List.map_congr_left fun v hv => ?_
      obtain ⟨b, _, rfl⟩ := href v hv
      rfl
    have pk : (out.map (adB H)).Perm bs := by
      have z := pm2.map (adB H)
      have y : (bs.map fun b => Value.ref b.1).map (adB H) = bs := by
        rw [List.map_map]
        conv => rhs; rw [← List.map_id bs]
        exact List.map_congr_left fun b hbm => adB_of (hb b hbm).1
      rw [y] at z
      exact z
    have pw : (out.map (adB H)).Pairwise fun x y => x.2.code ≤ y.2.code := by
      rw [List.pairwise_map]
      refine h1.imp fun {x y} z => ?_
      have z := of_decide_eq_false z
      show (barAt H (backV x)).code ≤ (barAt H (backV y)).code
      omega
    refine ⟨.ref _, upd H (s.heap.objs.size + 1) (.lst (out.map backV)), I.laid (t' := s.toks) (fun _ _ => PyProof.Rows.sortedAll_old) (Nat.le_succ _) ⟨?_, out, ep, L2.vals_back fun v hv => by
      obtain ⟨b, _, e⟩ := href v hv
      exact ⟨b.1, e⟩, he'⟩, rfl, ?_⟩
    · rw [List.length_map, h2.perm.length_eq]
      exact hz2
    · have qq := q (out.map (adB H)) (s.heap.objs.size + 1) pk pw (I.hok.fresh (Nat.le_succ _))
      rw [← e1] at qq
      exact qq
end DL

set_option Elab.async false
set_option maxRecDepth 100000
set_option maxHeartbeats 1000000
namespace DL
open PySem L2 HT TL RZ
theorem catA_any {K : PySem.W.Frag} {H : Hp} {a b : Addr} {xs ys : List V} {Q : VK} (ha : SqT K H a xs) (hb : SqT K H b ys) (hz : xs.length + ys.length ≤ 2000) (k : ∀ (c : Addr) (H' : Hp), Same H H' → SqT K H' c (xs ++ ys) → Q (.ref c) H') : rCatA K (.ref a) (.ref b) H Q := by
  refine ⟨a, b, xs, ys, rfl, rfl, ha, hb, ?_, fun z => k b H (Same.refl _) (by rw [z]; exact hb), fun _ z => k a H (Same.refl _) (by rw [z, List.append_nil]; exact ha), fun _ _ p hp => k p _ (same_upd hp) (SqT.of' upd_same)⟩
  have : (2000 : Nat) ≤ sizeLine := by decide
  omega
theorem eqvU_lnil (xs : List PyData) : PyData.eqv (.list xs) (.list []) = xs.isEmpty := by
  cases xs <;> simp [PyData.eqv, PyData.eqvAll]
theorem TupsAt.but {H H' : Hp} {p D : Addr} {xs : List V} {ss : List NEnt} (T : TupsAt H p ss) (hD : H D = some (.lst xs)) (hp : p ≠ D) (B : But D H H') : TupsAt H' p ss :=
  ⟨B _ _ hp T.at', fun x hx => B.tupL hD (T.el x hx), fun x hx b hb => B.tupL hD (T.bar x hx b hb)⟩
theorem asc_strict {l : List Bar} (h : l.Pairwise fun x y => x.code ≤ y.code) (nd : l.Nodup) (lo : ∀ b ∈ l, b.low) : l.Pairwise fun x y => x.code < y.code := by
  have := h.and nd
  refine List.Pairwise.imp_of_mem (fun {a b} ha hb z => ?_) this
  obtain ⟨h1, h2⟩ := z
  rcases Int.lt_or_eq_of_le h1 with q | q
  · exact q
  · exact absurd (Bar.code_inj (lo a ha) (lo b hb) q) h2
theorem tupsU_of (ss : List NEnt) : tupsU ss = (nsB ss).map fun bs => .tuple (bs.map barD) := by
  unfold tupsU nsB
  rw [List.map_map]
  refine List.map_congr_left fun n _ => ?_
  show _ = PyData.tuple ((n.2.map (·.2)).map barD)
  rw [List.map_map]
  rfl
theorem eqU_lists {K : PySem.W.Frag} {H : Hp} {x y : Addr} {a b : List NEnt} {Q : VK} (A : TupsAt H x a) (B : TupsAt H y b) (e : nsB a = nsB b) (h : Q (.bl true) H) : rEqD K (.ref x) (.ref y) H Q := by
  refine ⟨.list (tupsU a), .list (tupsU b), .lst (SqL.of A.at') (dpAllU_tups A.el A.bar), .lst (SqL.of B.at') (dpAllU_tups B.el B.bar), dok_shaped (dokU_tups a) (by decide), dok_shaped (dokU_tups b) (by decide), ?_⟩
  rw [tupsU_of, tupsU_of, e, ← tupsU_of, eqv_self (dokU_tups b)]
  exact h
theorem most_of {v : Int} (h0 : 0 ≤ v) (h4 : v < 4) : ∃ m : Nat, atI [V.int 0, V.int 1, V.int 1, V.int 2] v = some (.int m) ∧ m ≤ 2 := by
  have : v = 0 ∨ v = 1 ∨ v = 2 ∨ v = 3 := by omega
  rcases this with rfl | rfl | rfl | rfl
  · exact ⟨0, rfl, by decide⟩
  · exact ⟨1, rfl, by decide⟩
  · exact ⟨1, rfl, by decide⟩
  · exact ⟨2, rfl, by decide⟩
def spLaw (K : PySem.W.Frag) : Sp := fun vs H Q _ => ∃ (a : Addr) (ns : List Int), vs = [.ref a] ∧ SqL K H a (ns.map V.int) ∧ ns.length ≤ 63 ∧ ∀ H', Q (.bl true) H'
theorem boot_min16 : bootBuiltins ("min" : Str) = some (.builtin "min") := by decide +kernel
section
variable {P : Program} {w : World} {K : PySem.W.Frag} {mg : Str → Option Value} {base : Heap}
abbrev nLaw : List Str := ["_law_script", "_law_row", "_law_d", "_law_many", "_law_most", "_law_pairs", "_law_one", "_law_bars", "_law_due", "_law_size", "_law_some", "_law_told", "_law_other", "_law_bar"]
theorem scLaw : FnScope nLaw ["_law_script"] (defScope s_law) := ⟨rfl, rfl, rfl, by decide +kernel, rfl, by decide +kernel, by decide +kernel⟩
theorem ok_law {f fT fP fM fB fU fG fGd C : Addr} {fd dT dP dM dB dU dG dGd : FuncData} (F : Fun K "law" "law" s_law f fd) (T : Bt mg) (zM : mg "min" = none)
    (GT : FnOk P w K mg base CX0 1 fT dT ["_law_row", "_law_many"] (spTaken K)) (gT : mg "_law_taken" = some (.ref fT)) (kT : PySem.W.keepIn K (.ref fT) = true) (bT : Binds K dT ["_law_row", "_law_many"] [])
    (GP : FnOk P w K mg base CX0 2 fP dP ["_law_row", "_law_most"] (spParts K)) (gP : mg "_law_parts" = some (.ref fP)) (kP : PySem.W.keepIn K (.ref fP) = true) (bP : Binds K dP ["_law_row", "_law_most"] [])
    (GM : FnOk P w K mg base CX0 7 fM dM ["_law_d"] (spMade C)) (gM : mg "_law_made" = some (.ref fM)) (kM : PySem.W.keepIn K (.ref fM) = true) (bM : Binds K dM ["_law_d"] [])
    (GB : FnOk P w K mg base CX0 1 fB dB ["_law_many"] spLawBars) (gB : mg "_law_all_bars" = some (.ref fB)) (kB : PySem.W.keepIn K (.ref fB) = true) (bB : Binds K dB ["_law_many"] [])
    (GU : FnOk P w K mg base CX0 1 fU dU ["_law_things", "_law_size"] (spSubs K)) (gU : mg "_law_subsets" = some (.ref fU)) (kU : PySem.W.keepIn K (.ref fU) = true) (bU : Binds K dU ["_law_things", "_law_size"] [])
    (GG : FnOk P w K mg base CX0 5 fG dG ["_law_d", "_law_pairs"] spLawGood) (gG : mg "_law_good" = some (.ref fG)) (kG : PySem.W.keepIn K (.ref fG) = true) (bG : Binds K dG ["_law_d", "_law_pairs"] [])
    (GGd : FnOk P w K mg base CX0 16 fGd dGd ["cabinet", "pairs", "most"] (spGuard0 C)) (gGd : mg "guards" = some (.ref fGd)) (kGd : PySem.W.keepIn K (.ref fGd) = true) (bGd : Binds K dGd ["cabinet", "pairs", "most"] []) :
    FnOk P w K mg base CX0 20 f fd ["_law_script"] (spLaw K) := by
  refine F.ok scLaw (fun vs H Q E h => ?_) (fun cdv A outer s H vs Q E hr h => ?_)
  · obtain ⟨a, ns, rfl, _⟩ := h
    rfl
  · obtain ⟨a, ns, rfl, hS, hlen, k⟩ := h
    have hu : _ + 64 < cLine := hr.units
    have hu1 := hu_of hr
    have hu2 := hr.un
    rw [Nat.add_assoc] at hu2
    have hu3 := Nat.lt_of_le_of_lt (Nat.add_le_add_left (by decide : 65 ≤ 16 * 19 + 200) _) hu2
    refine ⟨_, pss_cons (ps_set (i := 1) scLaw.nd rfl (Or.inr rfl) (pe_lst (pa_cons (pv 0) (pa_cons pe_int (pa_cons pe_int (pa_cons pe_int pa_nil))))))
      (pss_cons (ps_set (i := 2) scLaw.nd rfl (Or.inr rfl) (pe_call GP (hr.mono (by decide)) rfl gP kP bP .nil pass0 (pa_cons (pv 1) (pa_cons pe_int pa_nil))))
      (pss_cons (ps_par3 (i := 3) (j := 4) (l := 5) (by rfl) scLaw.nd rfl rfl rfl (by decide) (by decide) (by decide) rfl rfl rfl (pa_cons (pe_ix ix_list (pv 2) pe_int (fun _ _ => rfl)) (pa_cons (pe_ix ix_list (pe_lst (pa_cons pe_int (pa_cons pe_int (pa_cons pe_int (pa_cons pe_int pa_nil))))) (pe_call GT (hr.mono (by decide)) rfl gT kT bT .nil pass0 (pa_cons (pv 1) (pa_cons pe_int pa_nil))) (fun _ _ => rfl)) (pa_cons (pe_lst pa_nil) pa_nil))) (by rfl))
      (C8.pss_cut (ps_if (PW.pt (pw_and (pt_cmpR op_eq (pv 3) pe_int (nomark _)) (pw_and1 (pt_cmpR op_gt (pe_call GT (hr.mono (by decide)) rfl gT kT bT .nil pass0 (pa_cons (pv 1) (pa_cons pe_int pa_nil))) pe_int (nomark _)))))
        (pss_one (ps_set (i := 4) scLaw.nd rfl (Or.inl rfl) (pe_callB (call_min2 rfl) (by rfl) zM boot_min16 (pa_cons (pv 4) (pa_cons pe_int pa_nil))))) pss_nil)
      (pss_cons (ps_for PassesOwn.never rfl (pi_range1 (by rfl) T.range (pa_cons (pv 3) pa_nil)) (pg_name (i := 6) scLaw.nd rfl (Or.inr rfl))
        (pss_one (ps_set (i := 5) scLaw.nd rfl (Or.inl rfl) (pe_op op_cat (pv 5) (pe_lc (own := [("_law_other", 12)]) (g := gName 12) (by rfl) scLaw.nd (pi_range2 (by rfl) T.range (pa_cons (pe_op op_add (pv 6) pe_int) (pa_cons (pv 3) pa_nil))) (blkOk_by (N := nLaw) (sc := defScope s_law) (by decide +kernel)) (fun _ _ _ _ _ => pg_name (i := 12) scLaw.nd rfl (by first | exact Or.inl rfl | exact Or.inr rfl))
          (fun _ _ _ _ _ => pts_one (pt_cmpR op_eq (pe_call GT (hr.mono (by decide)) rfl gT kT bT .nil pass0 (pa_cons (pv 1) (pa_cons pe_int pa_nil))) pe_int (nomark _))) (fun _ _ _ _ _ => pe_tup (pa_cons (pv 6) (pa_cons (pv 12) pa_nil))))))))
      (pss_cons (ps_par (i := 7) (j := 8) (by rfl) scLaw.nd rfl rfl (by decide) rfl rfl (pa_cons (pe_lc (own := [("_law_bar", 13)]) (g := gName 13) (by rfl) scLaw.nd (pi_list (pe_call GB (hr.mono (by decide)) rfl gB kB bB .nil pass0 (pa_cons (pv 3) pa_nil))) (blkOk_by (N := nLaw) (sc := defScope s_law) (by decide +kernel)) (fun _ _ _ _ _ => pg_name (i := 13) scLaw.nd rfl (by first | exact Or.inl rfl | exact Or.inr rfl))
          (fun _ _ _ _ _ => pts_one (pt_cmpR (op_notInDT (K := K) rfl hu3) (pv 13) (pe_ix (ix_listK (K := K) rfl) (pv 2) pe_int (fun _ _ => rfl)) (by rfl))) (fun _ _ _ _ _ => pv 13)) (pa_cons (pe_lst pa_nil) pa_nil)) (by rfl))
      (pss_cons (ps_for PassesOwn.never rfl (pi_range1 (by rfl) T.range (pa_cons (pe_op op_add (pv 4) pe_int) pa_nil)) (pg_name (i := 9) scLaw.nd rfl (Or.inl rfl))
        (pss_one (ps_if (pt_cmpR (op_eqD hu) (pv 8) (pe_lst pa_nil) (nomark _))
          (pss_one (ps_for PassesOwn.never rfl (pi_list (pe_call GU (hr.mono (by decide)) rfl gU kU bU .nil pass0 (pa_cons (pv 7) (pa_cons (pv 9) pa_nil)))) (pg_name (i := 10) scLaw.nd rfl (Or.inl rfl))
            (pss_one (ps_if (pt_val (pe_call GG (hr.mono (by decide)) rfl gG kG bG .nil pass0 (pa_cons (pe_lst (pa_cons (pv 3) (pa_cons (pe_tupleOf (by rfl) T.tuple (pe_callB cr_sortTB (by rfl) T.sorted (by decide +kernel) (pa_cons (pe_op op_catA (pe_ix ix_list (pv 2) pe_int (fun _ _ => rfl)) (pv 10)) pa_nil))) pa_nil))) (pa_cons (pv 5) pa_nil))))
              (pss_one (ps_expr (pe_bm PySem.F.plainAttrs_list PySem.F.slot_list_append PySem.F.type_list_append mt_append (pv 8) (pa_cons (pv 10) pa_nil)))) pss_nil)))) pss_nil)))
      (pss_cons (ps_set (i := 11) scLaw.nd rfl (Or.inl rfl) (pe_call GGd (hr.mono (by decide)) rfl gGd kGd bGd .nil pass0 (pa_cons (pe_call GM (hr.mono (by decide)) rfl gM kM bM .nil pass0 (pa_cons (pv 2) pa_nil)) (pa_cons (pv 5) (pa_cons (pv 4) pa_nil)))))
      (pss_one (ps_ret (pe_and (pe_cmpR (op_eqD hu) (pv 11) (pv 8) (nomark _))
        (pe_one (pe_cmpR (op_eqD hu) (pe_call GGd (hr.mono (by decide)) rfl gGd kGd bGd .nil pass0 (pa_cons (pe_call GM (hr.mono (by decide)) rfl gM kM bM .nil pass0 (pa_cons (pv 2) pa_nil)) (pa_cons (pe_tupleOf (by rfl) T.tuple (pv 5)) (pa_cons (pv 4) pa_nil)))) (pv 8) (nomark _))))))))))))), ?_⟩
    refine ⟨_, rfl, (by show 4 ≤ sizeLine; decide), fun r hr0 => ?_⟩
    have R0 : RowOk (upd H r (.lst [.ref a, .int 0, .int 216, .int 0])) r a := ⟨⟨0, 216, 0, upd_same, by decide, by decide, by decide, by decide⟩⟩
    have S0 : SqL K (upd H r (.lst [.ref a, .int 0, .int 216, .int 0])) a (ns.map V.int) := (same_upd hr0).seq hS
    generalize (upd H r (.lst [.ref a, .int 0, .int 216, .int 0])) = H0 at R0 S0 ⊢
    refine ⟨_, rfl, ⟨⟨r, a, ns, 3, rfl, R0, S0, by decide, by decide, fun p t n ks H2 hp0 ht0 n1 n3 hp hB O h13 R2 B2 => ?_⟩⟩⟩
    obtain ⟨N, rfl⟩ : ∃ N : Nat, n = N := ⟨n.toNat, by omega⟩
    refine ⟨_, rfl, p, _, 0, .int N, rfl, rfl, SqL.of hp, atI_nat (j := 0) rfl, (by show 4 ≤ sizeLine; decide), fun l hl => ?_⟩
    have sl := same_upd (o := .lst [.int 0, .int 1, .int 1, .int 2]) hl
    have nlr : l ≠ r := by
      obtain ⟨_, _, _, q, _⟩ := id R2.h
      exact (ne_of_none q hl).symm
    have S2 := B2.seqR R0 S0
    have hpr : p ≠ r := by
      obtain ⟨_, _, _, q, _⟩ := id R0.h
      exact (ne_of_none q hp0).symm
    have hRtup : ∀ {H' : Hp}, RowOk H' r a → ∀ {b : Addr} {xs : List V}, H' b = some (.tup xs) → b ≠ r := fun R b xs hb => by
      obtain ⟨_, _, _, q, _⟩ := id R.h
      exact ne_of hb q (by intro z; cases z)
    refine ⟨_, rfl, ⟨⟨r, a, ns, 4, rfl, R2.same sl, sl.seq S2, by decide, by decide, fun v H3 v0 v1 R3 B3 => ?_⟩⟩⟩
    obtain ⟨m0, hm0, m02⟩ := most_of v0 v1
    have B03 : But r H2 H3 := (sbut sl).trans B3
    refine ⟨l, _, v, .int m0, rfl, rfl, SqL.of (B3 _ _ nlr upd_same), hm0, ?_⟩
    refine ⟨(by show 0 ≤ sizeLine; decide), fun pl hpl => ?_⟩
    obtain ⟨s4, f4⟩ := new_at (o := .lst []) hpl
    have R4 := R3.same s4
    have hplr : pl ≠ r := by
      obtain ⟨_, _, _, q, _⟩ := id R3.h
      exact (ne_of_none q hpl).symm
    generalize upd H3 pl (.lst []) = H4 at s4 f4 R4 ⊢
    have B24 : But r H2 H4 := B03.trans (sbut s4)
    have hB4 : BarsAt H4 t ks := ⟨B24 _ _ (hRtup R2 hB.tu) hB.tu, fun k hk => B24 _ _ (hRtup R2 (hB.el k hk)) (hB.el k hk)⟩
    have hp4 := B24 _ _ hpr hp
    have S4 := B24.seqR R2 S2
    clear hp hB B03 B24 S2 S0 R0 B2 sl hl hp0 ht0 nlr hpl s4 B3 R3 R2
    refine ⟨_, _, _, rfl, ?_⟩
    refine ⟨fun σ' H' => ∃ m : Nat, σ' = [some (.ref a), some (.ref r), some (.ref p), some (.int N), some (.int m), some (.ref pl), none, none, none, none, none, none, none, none] ∧ m ≤ 2 ∧ RowOk H' r a ∧ But r H4 H', ?_, ?_⟩
    · refine ⟨_, rfl, rfl, _, rfl, ?_⟩
      cases e : decide (V.int (N : Int) = V.int 3) with
      | false => exact iteF (iteF ⟨m0, rfl, m02, R4, But.refl _ _⟩)
      | true =>
        refine iteT ?_
        refine ⟨_, rfl, ⟨⟨r, a, ns, 3, rfl, R4, S4, by decide, by decide, fun v2 H5 w0 w1 R5 B5 => ?_⟩⟩⟩
        refine ⟨_, _, rfl, rfl, _, rfl, ?_⟩
        cases e2 : decide ((0 : Int) < v2) with
        | false => exact iteF ⟨m0, rfl, m02, R5, B5⟩
        | true =>
          refine iteT ⟨_, rfl, _, _, rfl, ?_⟩
          have h012 : m0 = 0 ∨ m0 = 1 ∨ m0 = 2 := by omega
          rcases h012 with rfl | rfl | rfl
          · exact ⟨0, rfl, by decide, R5, B5⟩
          · exact ⟨1, rfl, by decide, R5, B5⟩
          · exact ⟨1, rfl, by decide, R5, B5⟩
    · rintro σ' H5 ⟨m, rfl, m2, R5, B5⟩
      have hpl5 := B5 _ _ hplr f4
      have N3 : N ≤ 3 := by omega
      refine ⟨_, rfl, _, rfl, by omega, by omega, ?_⟩
      rw [Int.toNat_natCast]
      refine for_range (lo := 0) (n := N) (fun i σ H' => ∃ (u6 : Option V) (pq : Addr) (qe : List (Addr × Int × Int)), σ = [some (.ref a), some (.ref r), some (.ref p), some (.int N), some (.int m), some (.ref pq), u6, none, none, none, none, none, none, none] ∧ RowOk H' r a ∧ But r H4 H' ∧ pq ≠ r ∧
          H' pq = some (.lst (qe.map fun e => V.ref e.1)) ∧ (∀ e ∈ qe, H' e.1 = some (.tup [.int e.2.1, .int e.2.2]) ∧ 0 ≤ e.2.1 ∧ e.2.1 < e.2.2 ∧ e.2.2 < N) ∧ qe.length ≤ 3 * i)
        ⟨_, pl, [], rfl, R5, B5, hplr, hpl5, fun e he => (by cases he), Nat.zero_le _⟩ ?_ ?_
      · rintro i σ J1 hi ⟨u6, pq, qe, rfl, R6, B6, npq, hq6, hqe, lqe⟩
        have ei : (0 : Int) + (i : Nat) = (i : Int) := by omega
        rw [ei]
        refine ⟨_, rfl, _, rfl, _, _, rfl, rfl, _, rfl, _, _, rfl, ⟨by omega, by omega, by omega, by omega⟩, fun D hD => ?_⟩
        have en : ((N : Int) - ((i : Int) + 1)).toNat = N - (i + 1) := by omega
        rw [en]
        have nDr : D ≠ r := by
          obtain ⟨_, _, _, q, _⟩ := id R6.h
          exact (ne_of_none q hD).symm
        refine lc_it (walk_range (lo := (i : Int) + 1) (n := N - (i + 1))) (fun j H' => RowOk H' r a ∧ But r J1 H' ∧ ∃ cs : List (Addr × Int × Int), H' D = some (.lst (cs.map fun e => V.ref e.1)) ∧ (∀ e ∈ cs, e.1 ≠ D ∧ e.1 ≠ r ∧ H' e.1 = some (.tup [.int e.2.1, .int e.2.2]) ∧ 0 ≤ e.2.1 ∧ e.2.1 < e.2.2 ∧ e.2.2 < N) ∧ cs.length ≤ j)
          ⟨R6.same (same_upd hD), sbut (same_upd hD), [], upd_same, fun e he => (by cases he), Nat.le_refl _⟩ (fun _ _ _ _ => trivial) ?_ ?_
        · rintro j x J2 J2' hj ⟨R7, B7, cs, hD7, hcs, lcs⟩ ⟨rfl, ex⟩
          have ex : x = V.int ((i : Int) + 1 + (j : Nat)) := ex
          subst ex
          refine ⟨rfl, ?_⟩
          refine ⟨_, rfl, ⟨⟨r, a, ns, 2, rfl, R7, (B6.trans B7).seqR R4 S4, by decide, by decide, fun v J3 w0 w1 R8 B8 => ?_⟩⟩⟩
          have hD8 := B8 _ _ nDr hD7
          have hcs8 : ∀ e ∈ cs, e.1 ≠ D ∧ e.1 ≠ r ∧ J3 e.1 = some (.tup [.int e.2.1, .int e.2.2]) ∧ 0 ≤ e.2.1 ∧ e.2.1 < e.2.2 ∧ e.2.2 < N := fun e he => by
            obtain ⟨h1, h2, h3, h4⟩ := hcs e he
            exact ⟨h1, h2, B8 _ _ h2 h3, h4⟩
          refine ⟨rfl, _, rfl, ?_⟩
          cases e : decide (V.int v = V.int 0) with
          | false => exact iteF ⟨R8, B7.trans B8, cs, hD8, hcs8, by omega⟩
          | true =>
            refine iteT ⟨_, rfl, _, rfl, (by show 2 ≤ sizeLine; decide), fun tt htt => ?_⟩
            obtain ⟨s9, f9⟩ := new_at (o := .tup [.int (i : Int), .int ((i : Int) + 1 + (j : Nat))]) htt
            generalize upd J3 tt (.tup [.int (i : Int), .int ((i : Int) + 1 + (j : Nat))]) = J4 at s9 f9 ⊢
            have hD9 := s9 _ _ hD8
            have nt : tt ≠ D := (ne_of_none hD8 htt).symm
            have ntr : tt ≠ r := hRtup (R8.same s9) f9
            refine ⟨_, hD9, by rw [List.length_map]; exact small1000 (by omega), ?_, fun b o hb eb => ?_, cs ++ [(tt, (i : Int), (i : Int) + 1 + (j : Nat))], ?_, fun e he => ?_, by rw [List.length_append]; show cs.length + 1 ≤ _; omega⟩
            · obtain ⟨_, _, _, q, rest⟩ := id (R8.same s9).h
              exact ⟨⟨_, _, _, by rw [upd_ne nDr.symm]; exact q, rest⟩⟩
            · rw [upd_ne (ne_of_none eb hD)]
              exact s9 _ _ (B8 _ _ hb (B7 _ _ hb eb))
            · rw [upd_same, List.map_append]
              rfl
            · rcases List.mem_append.mp he with h | h
              · obtain ⟨h1, h2, h3, h4⟩ := hcs8 e h
                exact ⟨h1, h2, by rw [upd_ne h1]; exact s9 _ _ h3, h4⟩
              · rw [List.mem_singleton.mp h]
                exact ⟨nt, ntr, by rw [upd_ne nt]; exact f9, by show (0 : Int) ≤ (i : Int); omega, by show (i : Int) < (i : Int) + 1 + (j : Nat); omega, by show (i : Int) + 1 + (j : Nat) < N; omega⟩
        · rintro J2 ⟨R7, B7, cs, hD7, hcs, lcs⟩
          have hq7 := B7 _ _ npq hq6
          refine ⟨pq, D, _, _, rfl, rfl, hq7, hD7, ?_, fun c hc => ?_⟩
          · rw [List.length_map, List.length_map]
            have : (2000 : Nat) ≤ sizeLine := by decide
            omega
          · obtain ⟨s8, f8⟩ := new_at (o := .lst ((qe.map fun e => V.ref e.1) ++ cs.map fun e => V.ref e.1)) hc
            have ncr : c ≠ r := by
              obtain ⟨_, _, _, q, _⟩ := id R7.h
              exact (ne_of_none q hc).symm
            refine ⟨_, c, qe ++ cs, rfl, R7.same s8, (B6.trans B7).trans (sbut s8), ncr, by rw [List.map_append]; exact f8, fun e he => ?_, by rw [List.length_append]; omega⟩
            rcases List.mem_append.mp he with h | h
            · obtain ⟨h1, h2⟩ := hqe e h
              exact ⟨s8 _ _ (B7 _ _ (hRtup R6 h1) h1), h2⟩
            · obtain ⟨h1, h2, h3, h4⟩ := hcs e h
              exact ⟨s8 _ _ h3, h4⟩
      · rintro σ J1 ⟨u6, pq, qe, rfl, R6, B6, npq, hq6, hqe, lqe⟩
        have TT : PrsAt J1 pq N qe := ⟨.inl hq6, fun e he => (hqe e he).1, fun e he => (hqe e he).2, by omega⟩
        have hp6 := B6 _ _ hpr hp4
        have hB6 : BarsAt J1 t ks := ⟨B6 _ _ (hRtup R4 hB4.tu) hB4.tu, fun k hk => B6 _ _ (hRtup R4 (hB4.el k hk)) (hB4.el k hk)⟩
        have l100 : ks.length ≤ 100 := by omega
        have N1 : 1 ≤ N := by omega
        clear R6 B6 npq hqe lqe hp4 hB4 S4 hpl5 R5 B5 R4 f4 hpr hRtup hplr
        refine ⟨_, rfl, ⟨⟨N, rfl, by omega, fun pa ab J2 hpa s2 B2 e2 => ?_⟩⟩⟩
        have hB2 := hB6.same s2
        have hp2 := s2 _ _ hp6
        have lab : ab.length ≤ 24 := by
          rw [← List.length_map (f := (·.2)), e2]
          exact all3_len N3
        refine ⟨pa, rfl, ⟨_, SqL.of B2.at'⟩, fun ps hps => ?_⟩
        refine lc_pick (walk_lst (K := K) (a := pa) (l := ab) (f := fun k => V.ref k.1)) ab rfl (by omega) (fun k => !decide (k.2 ∈ ks.map (·.2))) (fun k => V.ref k.1) hps (fun H' s => SqL.of (s _ _ B2.at')) ?_ ?_
        · rintro j x b J3 J3' Tk Nk eb s3 ⟨rfl, b', eb', rfl⟩ kT kF
          rw [eb] at eb'
          cases eb'
          have hbm := List.mem_of_getElem? eb
          refine ⟨rfl, ?_⟩
          refine ⟨_, rfl, _, rfl, p, _, 1, .ref t, rfl, rfl, SqL.of (s3 _ _ hp2), atI_nat (j := 1) rfl, notin_bars (s3 _ _ (B2.el b hbm)) (.inr (SqT.of' (s3 _ _ hB2.tu))) (fun k hk => s3 _ _ (hB2.el k hk)) ⟨_, rfl, ?_⟩⟩
          cases e : !decide (b.2 ∈ ks.map (·.2)) with
          | true => exact iteT ⟨_, rfl, kT _ e (Same.refl _)⟩
          | false => exact iteF (kF _ e (Same.refl _))
        intro J3 s3 hps3
        obtain ⟨sp, esp⟩ : ∃ sp, sp = ab.filter fun k => !decide (k.2 ∈ ks.map (·.2)) := ⟨_, rfl⟩
        rw [← esp] at hps3
        have lsp : sp.length ≤ 24 := by
          rw [esp]
          exact Nat.le_trans (List.length_filter_le _ _) lab
        have spm : sp.map (·.2) = spareB N (ks.map (·.2)) := by
          rw [esp, map_filter (fun k : Addr × Bar => k.2) (fun b => !decide (b ∈ ks.map (·.2))) ab, e2]
          rfl
        have spt : ∀ k ∈ sp, J3 k.1 = some (.tup k.2.vs) ∧ k.2.ok N := fun k hk => by
          rw [esp] at hk
          have h1 := (List.mem_filter.mp hk).1
          exact ⟨s3 _ _ (B2.el k h1), allB_mem.mp (by rw [← e2]; exact List.mem_map_of_mem h1)⟩
        have spa : sp.Pairwise fun a b => kc a < kc b := by
          have := spare_asc (n := N) (by omega) (ks.map (·.2))
          rw [← spm, List.pairwise_map] at this
          exact this
        have TT3 := (TT.same s2).same s3
        have hpq3 := s3 _ _ (s2 _ _ hq6)
        have hp3 := s3 _ _ hp2
        have hB3 := hB2.same s3
        clear esp lab e2 B2 hps s3 s2 TT hq6 hp2 hB2 hp6 hB6 hpa
        refine ⟨(by show 0 ≤ sizeLine; decide), fun du hdu => ?_⟩
        have npq : pq ≠ du := ne_of_none hpq3 hdu
        have nps : ps ≠ du := ne_of_none hps3 hdu
        have npd : p ≠ du := ne_of_none hp3 hdu
        obtain ⟨s4, f4⟩ := new_at (o := .lst []) hdu
        generalize upd J3 du (.lst []) = J4 at s4 f4 ⊢
        have TT4 := TT3.same s4
        have hpq4 := s4 _ _ hpq3
        have hp4 := s4 _ _ hp3
        have hB4 := hB3.same s4
        have hps4 := s4 _ _ hps3
        have spt4 : ∀ k ∈ sp, J4 k.1 = some (.tup k.2.vs) ∧ k.2.ok N := fun k hk => ⟨s4 _ _ (spt k hk).1, (spt k hk).2⟩
        clear TT3 hpq3 hp3 hB3 hps3 spt s4 hdu
        refine ⟨_, _, rfl, ?_⟩
        obtain ⟨QS, eQS⟩ : ∃ QS, QS = qe.map (·.2) := ⟨_, rfl⟩
        obtain ⟨bs, ebs⟩ : ∃ bs, bs = ks.map (·.2) := ⟨_, rfl⟩
        obtain ⟨FF, eFF⟩ : ∃ FF : Nat → List (List Bar), FF = fun j => (subsL Bar.code (spareB N bs) j).filter fun S => gOK (bs ++ S) N QS := ⟨_, rfl⟩
        refine ⟨_, rfl, _, _, rfl, rfl, ?_⟩
        refine ⟨_, rfl, by omega, by omega, ?_⟩
        have em : (((m : Nat) : Int) + 1).toNat = m + 1 := by omega
        rw [em]
        refine for_range (lo := 0) (n := m + 1) (fun i σ H' => ∃ (u9 u10 : Option V) (ds : List NEnt), σ = [some (.ref a), some (.ref r), some (.ref p), some (.int N), some (.int m), some (.ref pq), u6, some (.ref ps), some (.ref du), u9, u10, none, none, none] ∧ But du J4 H' ∧ TupsAt H' du ds ∧ nsB ds = firstNe FF i)
          ⟨_, _, [], rfl, But.refl _ _, ⟨f4, fun x hx => (by cases hx), fun x hx => (by cases hx)⟩, rfl⟩ ?_ ?_
        · rintro i σ J5 hi ⟨u9, u10, ds, rfl, B5, D5, e5⟩
          refine ⟨_, rfl, (by show 0 ≤ sizeLine; decide), fun e0 he0 => ?_⟩
          obtain ⟨s6, f6⟩ := new_at (o := .lst []) he0
          generalize upd J5 e0 (.lst []) = J6 at s6 f6 ⊢
          have D6 := D5.same s6
          have B6 : But du J4 J6 := B5.trans (sbut s6)
          refine ⟨.list (tupsU ds), .list [], .lst (SqL.of D6.at') (dpAllU_tups D6.el D6.bar), .lst (SqL.of f6) .nil, dok_shaped (dokU_tups ds) (by decide), by decide, _, rfl, ?_⟩
          rw [eqvU_lnil]
          have efn : firstNe FF (i + 1) = if (firstNe FF i).isEmpty = true then FF i else firstNe FF i := rfl
          cases ecs : ds with
          | cons x0 xs0 =>
            refine iteF ⟨_, _, ds, rfl, B6, D6, ?_⟩
            rw [efn, ← e5, ecs]
            rfl
          | nil =>
            rw [ecs] at e5 D6
            have e5 : firstNe FF i = [] := e5.symm
            refine iteT ?_
            have hsz : ∀ j, j ≤ i → (subsL kc sp j).length ≤ 600 := fun j hj => by
              have h2 := subs_two (κ := kc) sp j (by omega)
              have h3 : sp.length * sp.length ≤ 24 * 24 := Nat.mul_le_mul lsp lsp
              omega
            have hps6 := B6 _ _ nps hps4
            have spt6 : ∀ k ∈ sp, J6 k.1 = some (.tup k.2.vs) ∧ k.2.ok N := fun k hk => ⟨B6.tupL f4 (spt4 k hk).1, (spt4 k hk).2⟩
            refine ⟨_, rfl, _, rfl, ⟨⟨ps, i, sp, by rw [show (0 : Int) + (i : Nat) = (i : Int) by omega]; rfl, .inl (SqL.of hps6), fun k hk => ⟨(spt6 k hk).1, (spt6 k hk).2.low (by omega)⟩, spa, by omega, by omega, hsz, fun pU ss J7 hpU s7 U7 e7 => ?_⟩⟩⟩
            have nU : pU ≠ du := (ne_of_none D6.at' hpU).symm
            have D7 := D6.same s7
            have B7 : But du J4 J7 := B6.trans (sbut s7)
            have lss : ss.length ≤ 600 := by
              rw [← List.length_map (f := (·.2)), e7]
              exact hsz i (Nat.le_refl _)
            have ess : nsB ss = subsL Bar.code (spareB N bs) i := by
              have h1 : nsB ss = (ss.map (·.2)).map (List.map (·.2)) := by
                unfold nsB
                rw [List.map_map]
                rfl
              rw [h1, e7, subs_map (κ := kc) (κ' := Bar.code) (·.2) (fun _ => rfl) sp i, spm, ebs]
            refine ⟨pU, rfl, ⟨_, SqL.of U7.at'⟩, ?_⟩
            refine for_list (K := K) (a := pU) (xs := ss.map fun x => V.ref x.1) (fun j σ H' => ∃ (u10 : Option V) (ds : List NEnt), σ = [some (.ref a), some (.ref r), some (.ref p), some (.int N), some (.int m), some (.ref pq), u6, some (.ref ps), some (.ref du), some (.int ((0 : Int) + (i : Nat))), u10, none, none, none] ∧ But du J4 H' ∧ But du J7 H' ∧ TupsAt H' du ds ∧ nsB ds = ((nsB ss).take j).filter (fun S => gOK (bs ++ S) N QS))
              ⟨_, [], rfl, B7, But.refl _ _, D7, rfl⟩ (fun j σ H' _ h => by
                obtain ⟨_, _, _, _, B, _⟩ := h
                exact SqL.of (U7.but D7.at' nU B).at') ?_ ?_
            · rintro j x σ J8 hx ⟨u10, ds, rfl, B8, B78, D8, e8⟩
              rw [List.getElem?_map] at hx
              cases ex : ss[j]? with
              | none => rw [ex] at hx; cases hx
              | some x0 =>
              rw [ex] at hx
              cases hx
              have hxm := List.mem_of_getElem? ex
              have U8 := U7.but D7.at' nU B78
              have hp8 := B8 _ _ npd hp4
              have hB8 : BarsAt J8 t ks := ⟨B8.tupL f4 hB4.tu, fun k hk => B8.tupL f4 (hB4.el k hk)⟩
              have hpq8 := B8 _ _ npq hpq4
              have TT8 : PrsAt J8 pq N qe := ⟨.inl hpq8, fun e he => B8.tupL f4 (TT4.el e he), TT4.ok, TT4.few⟩
              have hxs : x0.2 ∈ subsL kc sp i := by rw [← e7]; exact List.mem_map_of_mem hxm
              obtain ⟨xl, xa, xm⟩ := subs_mem.mp hxs
              have hS : x0.2.map (·.2) ∈ subsL Bar.code (spareB N bs) i := by rw [← ess]; exact List.mem_map.mpr ⟨x0, hxm, rfl⟩
              obtain ⟨_, Sa, Sm⟩ := subs_mem.mp hS
              refine ⟨_, rfl, _, rfl, p, _, 1, .ref t, rfl, rfl, SqL.of hp8, atI_nat (j := 1) rfl, _, rfl, catA_any (SqT.of' hB8.tu) (SqT.of' (U8.el x0 hxm)) (by rw [List.length_map, List.length_map]; omega) fun cc J9 s9 hcc => ?_⟩
              have hcat : ∀ b ∈ ks ++ x0.2, J9 b.1 = some (.tup b.2.vs) ∧ b.2.ok N := fun b hb => by
                rcases List.mem_append.mp hb with h | h
                · exact ⟨s9 _ _ (hB8.el b h), O.ok _ (List.mem_map_of_mem h)⟩
                · exact ⟨s9 _ _ (U8.bar x0 hxm b h), (spt4 b (xm b h)).2⟩
              refine ⟨cc, ks ++ x0.2, rfl, by rw [List.map_append]; exact hcc, fun b hb => ⟨(hcat b hb).1, (hcat b hb).2.low (by omega)⟩, fun kz pz pm pw hpz => ?_⟩
              obtain ⟨s10, f10⟩ := new_at (o := .lst (kz.map fun k => V.ref k.1)) hpz
              generalize upd J9 pz (.lst (kz.map fun k => V.ref k.1)) = J10 at s10 f10 ⊢
              refine .inl ⟨pz, _, rfl, SqL.of f10, fun tz htz => ?_⟩
              obtain ⟨s11, f11⟩ := new_at (o := .tup (kz.map fun k => V.ref k.1)) htz
              generalize upd J10 tz (.tup (kz.map fun k => V.ref k.1)) = J11 at s11 f11 ⊢
              refine ⟨(by show 2 ≤ sizeLine; decide), fun dz hdz => ?_⟩
              obtain ⟨s12, f12⟩ := new_at (o := .lst [.int N, .ref tz]) hdz
              generalize upd J11 dz (.lst [.int N, .ref tz]) = J12 at s12 f12 ⊢
              have s8c := ((s9.trans s10).trans s11).trans s12
              have hkz : ∀ b ∈ kz, J12 b.1 = some (.tup b.2.vs) ∧ b.2.ok N := fun b hb => by
                obtain ⟨h1, h2⟩ := hcat b (pm.mem_iff.mp hb)
                exact ⟨s12 _ _ (s11 _ _ (s10 _ _ h1)), h2⟩
              have ndc : ((ks ++ x0.2).map (·.2)).Nodup := by
                rw [List.map_append, List.nodup_append]
                refine ⟨asc_nodup O, Sa.imp fun {a b} h z => (by rw [z] at h; omega), fun b hb c hc e => ?_⟩
                subst e
                have := (List.mem_filter.mp (Sm b hc)).2
                rw [ebs, decide_eq_true hb] at this
                cases this
              have Oz : OkBars N (kz.map (·.2)) := by
                refine ⟨fun b hb => ?_, asc_strict (by rw [List.pairwise_map]; exact pw) ((pm.map (·.2)).nodup_iff.mpr ndc) fun b hb => ?_⟩
                · obtain ⟨k', hk', rfl⟩ := List.mem_map.mp hb
                  exact (hkz k' hk').2
                · obtain ⟨k', hk', rfl⟩ := List.mem_map.mp hb
                  exact (hkz k' hk').2.low (by omega)
              have lkz : kz.length ≤ 100 := by
                rw [pm.length_eq, List.length_append]
                omega
              have egc : gOK (kz.map (·.2)) N (qe.map (·.2)) = gOK (bs ++ x0.2.map (·.2)) N QS := by
                rw [← eQS]
                refine gOK_congr fun b => ?_
                rw [(pm.map (·.2)).mem_iff, List.map_append, ebs]
              refine ⟨_, rfl, ⟨⟨dz, pq, kz.map (·.2), N, qe, rfl, ⟨⟨tz, kz, [], f12, ⟨s12 _ _ f11, fun b hb => (hkz b hb).1⟩, rfl, Oz, by omega, by omega, by rw [List.length_map]; exact lkz⟩⟩, TT8.same s8c, s8c _ _ hpq8, fun J13 s13 => ?_⟩⟩⟩
              rw [egc]
              have s813 := s8c.trans s13
              have D13 := D8.same s813
              have B13 := B8.trans (sbut s813)
              have B713 := B78.trans (sbut s813)
              have hx13 := s813 _ _ (U8.el x0 hxm)
              have hxb13 : ∀ b ∈ x0.2, J13 b.1 = some (.tup b.2.vs) := fun b hb => s813 _ _ (U8.bar x0 hxm b hb)
              have etk : (nsB ss).take (j + 1) = (nsB ss).take j ++ [x0.2.map (·.2)] := by
                have h1 : (nsB ss)[j]? = some (x0.2.map (·.2)) := by
                  unfold nsB
                  rw [List.getElem?_map, ex]
                  rfl
                obtain ⟨hl, e⟩ := List.getElem?_eq_some_iff.mp h1
                rw [List.take_succ_eq_append_getElem hl, e]
              refine ⟨_, rfl, ?_⟩
              cases eg : gOK (bs ++ x0.2.map (·.2)) N QS with
              | false =>
                refine iteF ⟨_, ds, rfl, B13, B713, D13, ?_⟩
                rw [etk, List.filter_append, ← e8, List.filter_cons, if_neg (by rw [eg]; exact Bool.false_ne_true)]
                exact (List.append_nil _).symm
              | true =>
                have lds : ds.length ≤ 600 := by
                  have h1 := congrArg List.length e8
                  have h2 := List.length_filter_le (fun S : List Bar => gOK (bs ++ S) N QS) ((nsB ss).take j)
                  rw [List.length_take] at h2
                  have h3 : (nsB ss).length = ss.length := List.length_map ..
                  have h4 : (nsB ds).length = ds.length := List.length_map ..
                  omega
                refine iteT ⟨_, rfl, .inl ⟨rfl, _, SqL.of D13.at'⟩, _, rfl, du, _, _, rfl, rfl, D13.at', by rw [List.length_map]; exact small1000 (by omega), ?_⟩
                have nx : ∀ {b : Addr} {xs : List V}, J13 b = some (.tup xs) → b ≠ du := fun hb => ne_of hb D13.at' (by intro z; cases z)
                refine ⟨_, ds ++ [x0], rfl, fun b o hb eb => ?_, fun b o hb eb => ?_, ⟨?_, fun y hy => ?_, fun y hy b hb => ?_⟩, ?_⟩
                · rw [upd_ne hb]
                  exact B13 _ _ hb eb
                · rw [upd_ne hb]
                  exact B713 _ _ hb eb
                · rw [upd_same, List.map_append]
                  rfl
                · rcases List.mem_append.mp hy with h | h
                  · rw [upd_ne (nx (D13.el y h))]
                    exact D13.el y h
                  · rw [List.mem_singleton.mp h, upd_ne (nx hx13)]
                    exact hx13
                · rcases List.mem_append.mp hy with h | h
                  · rw [upd_ne (nx (D13.bar y h b hb))]
                    exact D13.bar y h b hb
                  · rw [List.mem_singleton.mp h] at hb
                    rw [upd_ne (nx (hxb13 b hb))]
                    exact hxb13 b hb
                · rw [etk, List.filter_append, ← e8, List.filter_cons, if_pos eg]
                  unfold nsB
                  rw [List.map_append]
                  rfl
            · rintro σ J8 ⟨u10, ds, rfl, B8, B78, D8, e8⟩
              rw [List.length_map, List.take_of_length_le (by show (ss.map _).length ≤ _; rw [List.length_map]; exact Nat.le_refl _), ess] at e8
              refine ⟨_, _, ds, rfl, B8, D8, ?_⟩
              rw [e8, efn, e5, eFF]
              rfl
        · rintro σ J5 ⟨u9, u10, ds, rfl, B5, D5, e5⟩
          have eg : nsB ds = gList (ks.map (·.2)) N (qe.map (·.2)) m := by
            rw [e5, eFF, ebs, eQS]
            rfl
          have npd2 := B5 _ _ npd hp4
          have hB5 : BarsAt J5 t ks := ⟨B5.tupL f4 hB4.tu, fun k hk => B5.tupL f4 (hB4.el k hk)⟩
          have hpq5 := B5 _ _ npq hpq4
          have TT5 : PrsAt J5 pq N qe := ⟨.inl hpq5, fun e he => B5.tupL f4 (TT4.el e he), TT4.ok, TT4.few⟩
          refine ⟨_, rfl, ⟨⟨p, t, N, ks, [], rfl, npd2, n1, by omega, hB5, O, fun c J6 hc0 hcab s6 => ?_⟩⟩⟩
          refine ⟨_, rfl, _, rfl, ⟨⟨c, pq, ks.map (·.2), N, m, qe, rfl, ⟨⟨t, ks, hcab, hB5.same s6, rfl, O, n1, by omega, by rw [List.length_map]; exact l100⟩⟩, N3, TT5.same s6, m2, fun p1 ss1 J7 s7 T7 e7 => ?_⟩⟩⟩
          have s57 := s6.trans s7
          refine ⟨_, rfl, _, rfl, eqU_lists T7 (D5.same s57) (by rw [e7, eg]) ⟨_, rfl, iteT ?_⟩⟩
          refine ⟨_, rfl, ⟨⟨p, t, N, ks, [], rfl, s57 _ _ npd2, n1, by omega, hB5.same s57, O, fun c2 J8 hc2 hcab2 s8 => ?_⟩⟩⟩
          have s58 := s57.trans s8
          refine ⟨_, rfl, .inl ⟨pq, _, rfl, SqL.of (s58 _ _ hpq5), fun tq htq => ?_⟩⟩
          obtain ⟨s9, f9⟩ := new_at (o := .tup (qe.map fun e => V.ref e.1)) htq
          generalize upd J8 tq (.tup (qe.map fun e => V.ref e.1)) = J9 at s9 f9 ⊢
          have s59 := s58.trans s9
          obtain ⟨dx2, hc28⟩ := hcab2
          refine ⟨_, rfl, ⟨⟨c2, tq, ks.map (·.2), N, m, qe, rfl, ⟨⟨t, ks, ⟨dx2, s9 _ _ hc28⟩, hB5.same s59, rfl, O, n1, by omega, by rw [List.length_map]; exact l100⟩⟩, N3, ⟨.inr f9, fun e he => s59 _ _ (TT5.el e he), TT5.ok, TT5.few⟩, m2, fun p2 ss2 J10 s10 T10 e10 => ?_⟩⟩⟩
          refine ⟨_, rfl, eqU_lists T10 (D5.same (s59.trans s10)) (by rw [e10, eg]) ?_⟩
          exact k J10
end
end DL

set_option Elab.async false
set_option maxRecDepth 100000
set_option maxHeartbeats 8000000
namespace DL
open PySem L2 HT TL
/-! ### what the top has written -/
theorem all_mk {l : PySem.W.OpenLaw} {w : World} {K : PySem.W.Frag} {h : Heap} {mg : Str → Option Value} {fa : Addr} (X : K.In h) (G : h.Ns mainGlobals mg) (hfa : mg "law" = some (.ref fa))
    {f_is_integer : Addr} {od_is_integer an_is_integer : Option Addr} {sl_is_integer : Array (Option Value)} {oc_is_integer kV_is_integer dc_is_integer pm_is_integer cd_is_integer ct_is_integer : Value}
    {f_is_drawer_count : Addr} {od_is_drawer_count an_is_drawer_count : Option Addr} {sl_is_drawer_count : Array (Option Value)} {oc_is_drawer_count kV_is_drawer_count dc_is_drawer_count pm_is_drawer_count cd_is_drawer_count ct_is_drawer_count : Value}
    {f_is_drawer : Addr} {od_is_drawer an_is_drawer : Option Addr} {sl_is_drawer : Array (Option Value)} {oc_is_drawer kV_is_drawer dc_is_drawer pm_is_drawer cd_is_drawer ct_is_drawer : Value}
    {f_is_bar : Addr} {od_is_bar an_is_bar : Option Addr} {sl_is_bar : Array (Option Value)} {oc_is_bar kV_is_bar dc_is_bar pm_is_bar cd_is_bar ct_is_bar : Value}
    {f_check_drawers : Addr} {od_check_drawers an_check_drawers : Option Addr} {sl_check_drawers : Array (Option Value)} {oc_check_drawers kV_check_drawers dc_check_drawers pm_check_drawers cd_check_drawers ct_check_drawers : Value}
    {f_check_bars : Addr} {od_check_bars an_check_bars : Option Addr} {sl_check_bars : Array (Option Value)} {oc_check_bars kV_check_bars dc_check_bars pm_check_bars cd_check_bars ct_check_bars : Value}
    {f__law_taken : Addr} {od__law_taken an__law_taken : Option Addr} {sl__law_taken : Array (Option Value)} {oc__law_taken kV__law_taken dc__law_taken pm__law_taken cd__law_taken ct__law_taken : Value}
    {f__law_parts : Addr} {od__law_parts an__law_parts : Option Addr} {sl__law_parts : Array (Option Value)} {oc__law_parts kV__law_parts dc__law_parts pm__law_parts cd__law_parts ct__law_parts : Value}
    {f__law_made : Addr} {od__law_made an__law_made : Option Addr} {sl__law_made : Array (Option Value)} {oc__law_made kV__law_made dc__law_made pm__law_made cd__law_made ct__law_made : Value}
    {f_hinders : Addr} {od_hinders an_hinders : Option Addr} {sl_hinders : Array (Option Value)} {oc_hinders kV_hinders dc_hinders pm_hinders cd_hinders ct_hinders : Value}
    {f_moved : Addr} {od_moved an_moved : Option Addr} {sl_moved : Array (Option Value)} {oc_moved kV_moved dc_moved pm_moved cd_moved ct_moved : Value}
    {f_bars_against : Addr} {od_bars_against an_bars_against : Option Addr} {sl_bars_against : Array (Option Value)} {oc_bars_against kV_bars_against dc_bars_against pm_bars_against cd_bars_against ct_bars_against : Value}
    {f_goes : Addr} {od_goes an_goes : Option Addr} {sl_goes : Array (Option Value)} {oc_goes kV_goes dc_goes pm_goes cd_goes ct_goes : Value}
    {f_free_drawers : Addr} {od_free_drawers an_free_drawers : Option Addr} {sl_free_drawers : Array (Option Value)} {oc_free_drawers kV_free_drawers dc_free_drawers pm_free_drawers cd_free_drawers ct_free_drawers : Value}
    {f__law_hold : Addr} {od__law_hold an__law_hold : Option Addr} {sl__law_hold : Array (Option Value)} {oc__law_hold kV__law_hold dc__law_hold pm__law_hold cd__law_hold ct__law_hold : Value}
    {f__law_free : Addr} {od__law_free an__law_free : Option Addr} {sl__law_free : Array (Option Value)} {oc__law_free kV__law_free dc__law_free pm__law_free cd__law_free ct__law_free : Value}
    {f__law_moved : Addr} {od__law_moved an__law_moved : Option Addr} {sl__law_moved : Array (Option Value)} {oc__law_moved kV__law_moved dc__law_moved pm__law_moved cd__law_moved ct__law_moved : Value}
    {f_check_cabinet : Addr} {od_check_cabinet an_check_cabinet : Option Addr} {sl_check_cabinet : Array (Option Value)} {oc_check_cabinet kV_check_cabinet dc_check_cabinet pm_check_cabinet cd_check_cabinet ct_check_cabinet : Value}
    {f_first_standing : Addr} {od_first_standing an_first_standing : Option Addr} {sl_first_standing : Array (Option Value)} {oc_first_standing kV_first_standing dc_first_standing pm_first_standing cd_first_standing ct_first_standing : Value}
    {f_fits : Addr} {od_fits an_fits : Option Addr} {sl_fits : Array (Option Value)} {oc_fits kV_fits dc_fits pm_fits cd_fits ct_fits : Value}
    {f_rows_from : Addr} {od_rows_from an_rows_from : Option Addr} {sl_rows_from : Array (Option Value)} {oc_rows_from kV_rows_from dc_rows_from pm_rows_from cd_rows_from ct_rows_from : Value}
    {f_first_rows : Addr} {od_first_rows an_first_rows : Option Addr} {sl_first_rows : Array (Option Value)} {oc_first_rows kV_first_rows dc_first_rows pm_first_rows cd_first_rows ct_first_rows : Value}
    {f__law_rows : Addr} {od__law_rows an__law_rows : Option Addr} {sl__law_rows : Array (Option Value)} {oc__law_rows kV__law_rows dc__law_rows pm__law_rows cd__law_rows ct__law_rows : Value}
    {f_is_set : Addr} {od_is_set an_is_set : Option Addr} {sl_is_set : Array (Option Value)} {oc_is_set kV_is_set dc_is_set pm_is_set cd_is_set ct_is_set : Value}
    {f_open_pattern : Addr} {od_open_pattern an_open_pattern : Option Addr} {sl_open_pattern : Array (Option Value)} {oc_open_pattern kV_open_pattern dc_open_pattern pm_open_pattern cd_open_pattern ct_open_pattern : Value}
    {f_any_fits : Addr} {od_any_fits an_any_fits : Option Addr} {sl_any_fits : Array (Option Value)} {oc_any_fits kV_any_fits dc_any_fits pm_any_fits cd_any_fits ct_any_fits : Value}
    {f_is_pair : Addr} {od_is_pair an_is_pair : Option Addr} {sl_is_pair : Array (Option Value)} {oc_is_pair kV_is_pair dc_is_pair pm_is_pair cd_is_pair ct_is_pair : Value}
    {f_check_pairs : Addr} {od_check_pairs an_check_pairs : Option Addr} {sl_check_pairs : Array (Option Value)} {oc_check_pairs kV_check_pairs dc_check_pairs pm_check_pairs cd_check_pairs ct_check_pairs : Value}
    {f_check_number : Addr} {od_check_number an_check_number : Option Addr} {sl_check_number : Array (Option Value)} {oc_check_number kV_check_number dc_check_number pm_check_number cd_check_number ct_check_number : Value}
    {f_check_few_drawers : Addr} {od_check_few_drawers an_check_few_drawers : Option Addr} {sl_check_few_drawers : Array (Option Value)} {oc_check_few_drawers kV_check_few_drawers dc_check_few_drawers pm_check_few_drawers cd_check_few_drawers ct_check_few_drawers : Value}
    {f_all_bars : Addr} {od_all_bars an_all_bars : Option Addr} {sl_all_bars : Array (Option Value)} {oc_all_bars kV_all_bars dc_all_bars pm_all_bars cd_all_bars ct_all_bars : Value}
    {f_reached_pulls : Addr} {od_reached_pulls an_reached_pulls : Option Addr} {sl_reached_pulls : Array (Option Value)} {oc_reached_pulls kV_reached_pulls dc_reached_pulls pm_reached_pulls cd_reached_pulls ct_reached_pulls : Value}
    {f_reached_beside : Addr} {od_reached_beside an_reached_beside : Option Addr} {sl_reached_beside : Array (Option Value)} {oc_reached_beside kV_reached_beside dc_reached_beside pm_reached_beside cd_reached_beside ct_reached_beside : Value}
    {f_is_guarded : Addr} {od_is_guarded an_is_guarded : Option Addr} {sl_is_guarded : Array (Option Value)} {oc_is_guarded kV_is_guarded dc_is_guarded pm_is_guarded cd_is_guarded ct_is_guarded : Value}
    {f_guards : Addr} {od_guards an_guards : Option Addr} {sl_guards : Array (Option Value)} {oc_guards kV_guards dc_guards pm_guards cd_guards ct_guards : Value}
    {f__law_all_bars : Addr} {od__law_all_bars an__law_all_bars : Option Addr} {sl__law_all_bars : Array (Option Value)} {oc__law_all_bars kV__law_all_bars dc__law_all_bars pm__law_all_bars cd__law_all_bars ct__law_all_bars : Value}
    {f__law_subsets : Addr} {od__law_subsets an__law_subsets : Option Addr} {sl__law_subsets : Array (Option Value)} {oc__law_subsets kV__law_subsets dc__law_subsets pm__law_subsets cd__law_subsets ct__law_subsets : Value}
    {f__law_good : Addr} {od__law_good an__law_good : Option Addr} {sl__law_good : Array (Option Value)} {oc__law_good kV__law_good dc__law_good pm__law_good cd__law_good ct__law_good : Value}
    {f_law : Addr} {od_law an_law : Option Addr} {sl_law : Array (Option Value)} {oc_law kV_law dc_law pm_law cd_law ct_law : Value}
    {C : Addr}
    {f_Cabinet___init__ : Addr} {od_Cabinet___init__ an_Cabinet___init__ : Option Addr} {sl_Cabinet___init__ : Array (Option Value)} {oc_Cabinet___init__ kV_Cabinet___init__ dc_Cabinet___init__ pm_Cabinet___init__ cd_Cabinet___init__ ct_Cabinet___init__ : Value}
    {p_drawers : Addr} {rest_drawers : List Value}
    {f_Cabinet_drawers : Addr} {od_Cabinet_drawers an_Cabinet_drawers : Option Addr} {sl_Cabinet_drawers : Array (Option Value)} {oc_Cabinet_drawers kV_Cabinet_drawers dc_Cabinet_drawers pm_Cabinet_drawers cd_Cabinet_drawers ct_Cabinet_drawers : Value}
    {p_bars : Addr} {rest_bars : List Value}
    {f_Cabinet_bars : Addr} {od_Cabinet_bars an_Cabinet_bars : Option Addr} {sl_Cabinet_bars : Array (Option Value)} {oc_Cabinet_bars kV_Cabinet_bars dc_Cabinet_bars pm_Cabinet_bars cd_Cabinet_bars ct_Cabinet_bars : Value}
    {tM : Tok}
    {fW : Addr}
    {ddW : Option Addr} {tW1 tW2 : Tok} {nW : Nat} {slW : Array (Option Value)}
    {fS : Addr}
    {esS : Array DictEntry} {nS : Nat}
    {tS1 : Tok}
    {tS2 : Tok}
    {tMG : Tok}
    {tMA : Tok}
    (a_is_integer : PySem.W.nsIn K mainGlobals "is_integer" = some (some (.ref f_is_integer)))
    (l_is_integer : K.lookup f_is_integer = some ⟨oc_is_integer, od_is_integer, .func (PySem.W.fnOf "is_integer" "is_integer" (defArgs sIsInt) (defBody sIsInt) (defScope sIsInt) .none kV_is_integer dc_is_integer pm_is_integer an_is_integer cd_is_integer ct_is_integer), sl_is_integer⟩)
    (c_is_integer : PySem.W.codeIn K cd_is_integer "is_integer" = true)
    (k_is_integer : PySem.W.keepIn K (.ref f_is_integer) = true)
    (a_is_drawer_count : PySem.W.nsIn K mainGlobals "is_drawer_count" = some (some (.ref f_is_drawer_count)))
    (l_is_drawer_count : K.lookup f_is_drawer_count = some ⟨oc_is_drawer_count, od_is_drawer_count, .func (PySem.W.fnOf "is_drawer_count" "is_drawer_count" (defArgs sIsCount) (defBody sIsCount) (defScope sIsCount) .none kV_is_drawer_count dc_is_drawer_count pm_is_drawer_count an_is_drawer_count cd_is_drawer_count ct_is_drawer_count), sl_is_drawer_count⟩)
    (c_is_drawer_count : PySem.W.codeIn K cd_is_drawer_count "is_drawer_count" = true)
    (k_is_drawer_count : PySem.W.keepIn K (.ref f_is_drawer_count) = true)
    (a_is_drawer : PySem.W.nsIn K mainGlobals "is_drawer" = some (some (.ref f_is_drawer)))
    (l_is_drawer : K.lookup f_is_drawer = some ⟨oc_is_drawer, od_is_drawer, .func (PySem.W.fnOf "is_drawer" "is_drawer" (defArgs sIsDrawer) (defBody sIsDrawer) (defScope sIsDrawer) .none kV_is_drawer dc_is_drawer pm_is_drawer an_is_drawer cd_is_drawer ct_is_drawer), sl_is_drawer⟩)
    (c_is_drawer : PySem.W.codeIn K cd_is_drawer "is_drawer" = true)
    (k_is_drawer : PySem.W.keepIn K (.ref f_is_drawer) = true)
    (a_is_bar : PySem.W.nsIn K mainGlobals "is_bar" = some (some (.ref f_is_bar)))
    (l_is_bar : K.lookup f_is_bar = some ⟨oc_is_bar, od_is_bar, .func (PySem.W.fnOf "is_bar" "is_bar" (defArgs sIsBar) (defBody sIsBar) (defScope sIsBar) .none kV_is_bar dc_is_bar pm_is_bar an_is_bar cd_is_bar ct_is_bar), sl_is_bar⟩)
    (c_is_bar : PySem.W.codeIn K cd_is_bar "is_bar" = true)
    (k_is_bar : PySem.W.keepIn K (.ref f_is_bar) = true)
    (a_check_drawers : PySem.W.nsIn K mainGlobals "check_drawers" = some (some (.ref f_check_drawers)))
    (l_check_drawers : K.lookup f_check_drawers = some ⟨oc_check_drawers, od_check_drawers, .func (PySem.W.fnOf "check_drawers" "check_drawers" (defArgs sCheckDrawers) (defBody sCheckDrawers) (defScope sCheckDrawers) .none kV_check_drawers dc_check_drawers pm_check_drawers an_check_drawers cd_check_drawers ct_check_drawers), sl_check_drawers⟩)
    (c_check_drawers : PySem.W.codeIn K cd_check_drawers "check_drawers" = true)
    (k_check_drawers : PySem.W.keepIn K (.ref f_check_drawers) = true)
    (a_check_bars : PySem.W.nsIn K mainGlobals "check_bars" = some (some (.ref f_check_bars)))
    (l_check_bars : K.lookup f_check_bars = some ⟨oc_check_bars, od_check_bars, .func (PySem.W.fnOf "check_bars" "check_bars" (defArgs sCheckBars) (defBody sCheckBars) (defScope sCheckBars) .none kV_check_bars dc_check_bars pm_check_bars an_check_bars cd_check_bars ct_check_bars), sl_check_bars⟩)
    (c_check_bars : PySem.W.codeIn K cd_check_bars "check_bars" = true)
    (k_check_bars : PySem.W.keepIn K (.ref f_check_bars) = true)
    (a__law_taken : PySem.W.nsIn K mainGlobals "_law_taken" = some (some (.ref f__law_taken)))
    (l__law_taken : K.lookup f__law_taken = some ⟨oc__law_taken, od__law_taken, .func (PySem.W.fnOf "_law_taken" "_law_taken" (defArgs sTaken) (defBody sTaken) (defScope sTaken) .none kV__law_taken dc__law_taken pm__law_taken an__law_taken cd__law_taken ct__law_taken), sl__law_taken⟩)
    (c__law_taken : PySem.W.codeIn K cd__law_taken "_law_taken" = true)
    (k__law_taken : PySem.W.keepIn K (.ref f__law_taken) = true)
    (a__law_parts : PySem.W.nsIn K mainGlobals "_law_parts" = some (some (.ref f__law_parts)))
    (l__law_parts : K.lookup f__law_parts = some ⟨oc__law_parts, od__law_parts, .func (PySem.W.fnOf "_law_parts" "_law_parts" (defArgs sParts) (defBody sParts) (defScope sParts) .none kV__law_parts dc__law_parts pm__law_parts an__law_parts cd__law_parts ct__law_parts), sl__law_parts⟩)
    (c__law_parts : PySem.W.codeIn K cd__law_parts "_law_parts" = true)
    (k__law_parts : PySem.W.keepIn K (.ref f__law_parts) = true)
    (a__law_made : PySem.W.nsIn K mainGlobals "_law_made" = some (some (.ref f__law_made)))
    (l__law_made : K.lookup f__law_made = some ⟨oc__law_made, od__law_made, .func (PySem.W.fnOf "_law_made" "_law_made" (defArgs sMade) (defBody sMade) (defScope sMade) .none kV__law_made dc__law_made pm__law_made an__law_made cd__law_made ct__law_made), sl__law_made⟩)
    (c__law_made : PySem.W.codeIn K cd__law_made "_law_made" = true)
    (k__law_made : PySem.W.keepIn K (.ref f__law_made) = true)
    (a_hinders : PySem.W.nsIn K mainGlobals "hinders" = some (some (.ref f_hinders)))
    (l_hinders : K.lookup f_hinders = some ⟨oc_hinders, od_hinders, .func (PySem.W.fnOf "hinders" "hinders" (defArgs s_hinders) (defBody s_hinders) (defScope s_hinders) .none kV_hinders dc_hinders pm_hinders an_hinders cd_hinders ct_hinders), sl_hinders⟩)
    (c_hinders : PySem.W.codeIn K cd_hinders "hinders" = true)
    (k_hinders : PySem.W.keepIn K (.ref f_hinders) = true)
    (a_moved : PySem.W.nsIn K mainGlobals "moved" = some (some (.ref f_moved)))
    (l_moved : K.lookup f_moved = some ⟨oc_moved, od_moved, .func (PySem.W.fnOf "moved" "moved" (defArgs s_moved) (defBody s_moved) (defScope s_moved) .none kV_moved dc_moved pm_moved an_moved cd_moved ct_moved), sl_moved⟩)
    (c_moved : PySem.W.codeIn K cd_moved "moved" = true)
    (k_moved : PySem.W.keepIn K (.ref f_moved) = true)
    (a_bars_against : PySem.W.nsIn K mainGlobals "bars_against" = some (some (.ref f_bars_against)))
    (l_bars_against : K.lookup f_bars_against = some ⟨oc_bars_against, od_bars_against, .func (PySem.W.fnOf "bars_against" "bars_against" (defArgs s_bars_against) (defBody s_bars_against) (defScope s_bars_against) .none kV_bars_against dc_bars_against pm_bars_against an_bars_against cd_bars_against ct_bars_against), sl_bars_against⟩)
    (c_bars_against : PySem.W.codeIn K cd_bars_against "bars_against" = true)
    (k_bars_against : PySem.W.keepIn K (.ref f_bars_against) = true)
    (a_goes : PySem.W.nsIn K mainGlobals "goes" = some (some (.ref f_goes)))
    (l_goes : K.lookup f_goes = some ⟨oc_goes, od_goes, .func (PySem.W.fnOf "goes" "goes" (defArgs s_goes) (defBody s_goes) (defScope s_goes) .none kV_goes dc_goes pm_goes an_goes cd_goes ct_goes), sl_goes⟩)
    (c_goes : PySem.W.codeIn K cd_goes "goes" = true)
    (k_goes : PySem.W.keepIn K (.ref f_goes) = true)
    (a_free_drawers : PySem.W.nsIn K mainGlobals "free_drawers" = some (some (.ref f_free_drawers)))
    (l_free_drawers : K.lookup f_free_drawers = some ⟨oc_free_drawers, od_free_drawers, .func (PySem.W.fnOf "free_drawers" "free_drawers" (defArgs s_free_drawers) (defBody s_free_drawers) (defScope s_free_drawers) .none kV_free_drawers dc_free_drawers pm_free_drawers an_free_drawers cd_free_drawers ct_free_drawers), sl_free_drawers⟩)
    (c_free_drawers : PySem.W.codeIn K cd_free_drawers "free_drawers" = true)
    (k_free_drawers : PySem.W.keepIn K (.ref f_free_drawers) = true)
    (a__law_hold : PySem.W.nsIn K mainGlobals "_law_hold" = some (some (.ref f__law_hold)))
    (l__law_hold : K.lookup f__law_hold = some ⟨oc__law_hold, od__law_hold, .func (PySem.W.fnOf "_law_hold" "_law_hold" (defArgs s__law_hold) (defBody s__law_hold) (defScope s__law_hold) .none kV__law_hold dc__law_hold pm__law_hold an__law_hold cd__law_hold ct__law_hold), sl__law_hold⟩)
    (c__law_hold : PySem.W.codeIn K cd__law_hold "_law_hold" = true)
    (k__law_hold : PySem.W.keepIn K (.ref f__law_hold) = true)
    (a__law_free : PySem.W.nsIn K mainGlobals "_law_free" = some (some (.ref f__law_free)))
    (l__law_free : K.lookup f__law_free = some ⟨oc__law_free, od__law_free, .func (PySem.W.fnOf "_law_free" "_law_free" (defArgs s__law_free) (defBody s__law_free) (defScope s__law_free) .none kV__law_free dc__law_free pm__law_free an__law_free cd__law_free ct__law_free), sl__law_free⟩)
    (c__law_free : PySem.W.codeIn K cd__law_free "_law_free" = true)
    (k__law_free : PySem.W.keepIn K (.ref f__law_free) = true)
    (a__law_moved : PySem.W.nsIn K mainGlobals "_law_moved" = some (some (.ref f__law_moved)))
    (l__law_moved : K.lookup f__law_moved = some ⟨oc__law_moved, od__law_moved, .func (PySem.W.fnOf "_law_moved" "_law_moved" (defArgs s__law_moved) (defBody s__law_moved) (defScope s__law_moved) .none kV__law_moved dc__law_moved pm__law_moved an__law_moved cd__law_moved ct__law_moved), sl__law_moved⟩)
    (c__law_moved : PySem.W.codeIn K cd__law_moved "_law_moved" = true)
    (k__law_moved : PySem.W.keepIn K (.ref f__law_moved) = true)
    (a_check_cabinet : PySem.W.nsIn K mainGlobals "check_cabinet" = some (some (.ref f_check_cabinet)))
    (l_check_cabinet : K.lookup f_check_cabinet = some ⟨oc_check_cabinet, od_check_cabinet, .func (PySem.W.fnOf "check_cabinet" "check_cabinet" (defArgs s_check_cabinet) (defBody s_check_cabinet) (defScope s_check_cabinet) .none kV_check_cabinet dc_check_cabinet pm_check_cabinet an_check_cabinet cd_check_cabinet ct_check_cabinet), sl_check_cabinet⟩)
    (c_check_cabinet : PySem.W.codeIn K cd_check_cabinet "check_cabinet" = true)
    (k_check_cabinet : PySem.W.keepIn K (.ref f_check_cabinet) = true)
    (a_first_standing : PySem.W.nsIn K mainGlobals "first_standing" = some (some (.ref f_first_standing)))
    (l_first_standing : K.lookup f_first_standing = some ⟨oc_first_standing, od_first_standing, .func (PySem.W.fnOf "first_standing" "first_standing" (defArgs s_first_standing) (defBody s_first_standing) (defScope s_first_standing) .none kV_first_standing dc_first_standing pm_first_standing an_first_standing cd_first_standing ct_first_standing), sl_first_standing⟩)
    (c_first_standing : PySem.W.codeIn K cd_first_standing "first_standing" = true)
    (k_first_standing : PySem.W.keepIn K (.ref f_first_standing) = true)
    (a_fits : PySem.W.nsIn K mainGlobals "fits" = some (some (.ref f_fits)))
    (l_fits : K.lookup f_fits = some ⟨oc_fits, od_fits, .func (PySem.W.fnOf "fits" "fits" (defArgs s_fits) (defBody s_fits) (defScope s_fits) .none kV_fits dc_fits pm_fits an_fits cd_fits ct_fits), sl_fits⟩)
    (c_fits : PySem.W.codeIn K cd_fits "fits" = true)
    (k_fits : PySem.W.keepIn K (.ref f_fits) = true)
    (a_rows_from : PySem.W.nsIn K mainGlobals "rows_from" = some (some (.ref f_rows_from)))
    (l_rows_from : K.lookup f_rows_from = some ⟨oc_rows_from, od_rows_from, .func (PySem.W.fnOf "rows_from" "rows_from" (defArgs s_rows_from) (defBody s_rows_from) (defScope s_rows_from) .none kV_rows_from dc_rows_from pm_rows_from an_rows_from cd_rows_from ct_rows_from), sl_rows_from⟩)
    (c_rows_from : PySem.W.codeIn K cd_rows_from "rows_from" = true)
    (k_rows_from : PySem.W.keepIn K (.ref f_rows_from) = true)
    (a_first_rows : PySem.W.nsIn K mainGlobals "first_rows" = some (some (.ref f_first_rows)))
    (l_first_rows : K.lookup f_first_rows = some ⟨oc_first_rows, od_first_rows, .func (PySem.W.fnOf "first_rows" "first_rows" (defArgs s_first_rows) (defBody s_first_rows) (defScope s_first_rows) .none kV_first_rows dc_first_rows pm_first_rows an_first_rows cd_first_rows ct_first_rows), sl_first_rows⟩)
    (c_first_rows : PySem.W.codeIn K cd_first_rows "first_rows" = true)
    (k_first_rows : PySem.W.keepIn K (.ref f_first_rows) = true)
    (a__law_rows : PySem.W.nsIn K mainGlobals "_law_rows" = some (some (.ref f__law_rows)))
    (l__law_rows : K.lookup f__law_rows = some ⟨oc__law_rows, od__law_rows, .func (PySem.W.fnOf "_law_rows" "_law_rows" (defArgs s__law_rows) (defBody s__law_rows) (defScope s__law_rows) .none kV__law_rows dc__law_rows pm__law_rows an__law_rows cd__law_rows ct__law_rows), sl__law_rows⟩)
    (c__law_rows : PySem.W.codeIn K cd__law_rows "_law_rows" = true)
    (k__law_rows : PySem.W.keepIn K (.ref f__law_rows) = true)
    (a_is_set : PySem.W.nsIn K mainGlobals "is_set" = some (some (.ref f_is_set)))
    (l_is_set : K.lookup f_is_set = some ⟨oc_is_set, od_is_set, .func (PySem.W.fnOf "is_set" "is_set" (defArgs s_is_set) (defBody s_is_set) (defScope s_is_set) .none kV_is_set dc_is_set pm_is_set an_is_set cd_is_set ct_is_set), sl_is_set⟩)
    (c_is_set : PySem.W.codeIn K cd_is_set "is_set" = true)
    (k_is_set : PySem.W.keepIn K (.ref f_is_set) = true)
    (a_open_pattern : PySem.W.nsIn K mainGlobals "open_pattern" = some (some (.ref f_open_pattern)))
    (l_open_pattern : K.lookup f_open_pattern = some ⟨oc_open_pattern, od_open_pattern, .func (PySem.W.fnOf "open_pattern" "open_pattern" (defArgs s_open_pattern) (defBody s_open_pattern) (defScope s_open_pattern) .none kV_open_pattern dc_open_pattern pm_open_pattern an_open_pattern cd_open_pattern ct_open_pattern), sl_open_pattern⟩)
    (c_open_pattern : PySem.W.codeIn K cd_open_pattern "open_pattern" = true)
    (k_open_pattern : PySem.W.keepIn K (.ref f_open_pattern) = true)
    (a_any_fits : PySem.W.nsIn K mainGlobals "any_fits" = some (some (.ref f_any_fits)))
    (l_any_fits : K.lookup f_any_fits = some ⟨oc_any_fits, od_any_fits, .func (PySem.W.fnOf "any_fits" "any_fits" (defArgs s_any_fits) (defBody s_any_fits) (defScope s_any_fits) .none kV_any_fits dc_any_fits pm_any_fits an_any_fits cd_any_fits ct_any_fits), sl_any_fits⟩)
    (c_any_fits : PySem.W.codeIn K cd_any_fits "any_fits" = true)
    (k_any_fits : PySem.W.keepIn K (.ref f_any_fits) = true)
    (a_is_pair : PySem.W.nsIn K mainGlobals "is_pair" = some (some (.ref f_is_pair)))
    (l_is_pair : K.lookup f_is_pair = some ⟨oc_is_pair, od_is_pair, .func (PySem.W.fnOf "is_pair" "is_pair" (defArgs s_is_pair) (defBody s_is_pair) (defScope s_is_pair) .none kV_is_pair dc_is_pair pm_is_pair an_is_pair cd_is_pair ct_is_pair), sl_is_pair⟩)
    (c_is_pair : PySem.W.codeIn K cd_is_pair "is_pair" = true)
    (k_is_pair : PySem.W.keepIn K (.ref f_is_pair) = true)
    (a_check_pairs : PySem.W.nsIn K mainGlobals "check_pairs" = some (some (.ref f_check_pairs)))
    (l_check_pairs : K.lookup f_check_pairs = some ⟨oc_check_pairs, od_check_pairs, .func (PySem.W.fnOf "check_pairs" "check_pairs" (defArgs s_check_pairs) (defBody s_check_pairs) (defScope s_check_pairs) .none kV_check_pairs dc_check_pairs pm_check_pairs an_check_pairs cd_check_pairs ct_check_pairs), sl_check_pairs⟩)
    (c_check_pairs : PySem.W.codeIn K cd_check_pairs "check_pairs" = true)
    (k_check_pairs : PySem.W.keepIn K (.ref f_check_pairs) = true)
    (a_check_number : PySem.W.nsIn K mainGlobals "check_number" = some (some (.ref f_check_number)))
    (l_check_number : K.lookup f_check_number = some ⟨oc_check_number, od_check_number, .func (PySem.W.fnOf "check_number" "check_number" (defArgs s_check_number) (defBody s_check_number) (defScope s_check_number) .none kV_check_number dc_check_number pm_check_number an_check_number cd_check_number ct_check_number), sl_check_number⟩)
    (c_check_number : PySem.W.codeIn K cd_check_number "check_number" = true)
    (k_check_number : PySem.W.keepIn K (.ref f_check_number) = true)
    (a_check_few_drawers : PySem.W.nsIn K mainGlobals "check_few_drawers" = some (some (.ref f_check_few_drawers)))
    (l_check_few_drawers : K.lookup f_check_few_drawers = some ⟨oc_check_few_drawers, od_check_few_drawers, .func (PySem.W.fnOf "check_few_drawers" "check_few_drawers" (defArgs s_check_few_drawers) (defBody s_check_few_drawers) (defScope s_check_few_drawers) .none kV_check_few_drawers dc_check_few_drawers pm_check_few_drawers an_check_few_drawers cd_check_few_drawers ct_check_few_drawers), sl_check_few_drawers⟩)
    (c_check_few_drawers : PySem.W.codeIn K cd_check_few_drawers "check_few_drawers" = true)
    (k_check_few_drawers : PySem.W.keepIn K (.ref f_check_few_drawers) = true)
    (a_all_bars : PySem.W.nsIn K mainGlobals "all_bars" = some (some (.ref f_all_bars)))
    (l_all_bars : K.lookup f_all_bars = some ⟨oc_all_bars, od_all_bars, .func (PySem.W.fnOf "all_bars" "all_bars" (defArgs s_all_bars) (defBody s_all_bars) (defScope s_all_bars) .none kV_all_bars dc_all_bars pm_all_bars an_all_bars cd_all_bars ct_all_bars), sl_all_bars⟩)
    (c_all_bars : PySem.W.codeIn K cd_all_bars "all_bars" = true)
    (k_all_bars : PySem.W.keepIn K (.ref f_all_bars) = true)
    (a_reached_pulls : PySem.W.nsIn K mainGlobals "reached_pulls" = some (some (.ref f_reached_pulls)))
    (l_reached_pulls : K.lookup f_reached_pulls = some ⟨oc_reached_pulls, od_reached_pulls, .func (PySem.W.fnOf "reached_pulls" "reached_pulls" (defArgs s_reached_pulls) (defBody s_reached_pulls) (defScope s_reached_pulls) .none kV_reached_pulls dc_reached_pulls pm_reached_pulls an_reached_pulls cd_reached_pulls ct_reached_pulls), sl_reached_pulls⟩)
    (c_reached_pulls : PySem.W.codeIn K cd_reached_pulls "reached_pulls" = true)
    (k_reached_pulls : PySem.W.keepIn K (.ref f_reached_pulls) = true)
    (a_reached_beside : PySem.W.nsIn K mainGlobals "reached_beside" = some (some (.ref f_reached_beside)))
    (l_reached_beside : K.lookup f_reached_beside = some ⟨oc_reached_beside, od_reached_beside, .func (PySem.W.fnOf "reached_beside" "reached_beside" (defArgs s_reached_beside) (defBody s_reached_beside) (defScope s_reached_beside) .none kV_reached_beside dc_reached_beside pm_reached_beside an_reached_beside cd_reached_beside ct_reached_beside), sl_reached_beside⟩)
    (c_reached_beside : PySem.W.codeIn K cd_reached_beside "reached_beside" = true)
    (k_reached_beside : PySem.W.keepIn K (.ref f_reached_beside) = true)
    (a_is_guarded : PySem.W.nsIn K mainGlobals "is_guarded" = some (some (.ref f_is_guarded)))
    (l_is_guarded : K.lookup f_is_guarded = some ⟨oc_is_guarded, od_is_guarded, .func (PySem.W.fnOf "is_guarded" "is_guarded" (defArgs s_is_guarded) (defBody s_is_guarded) (defScope s_is_guarded) .none kV_is_guarded dc_is_guarded pm_is_guarded an_is_guarded cd_is_guarded ct_is_guarded), sl_is_guarded⟩)
    (c_is_guarded : PySem.W.codeIn K cd_is_guarded "is_guarded" = true)
    (k_is_guarded : PySem.W.keepIn K (.ref f_is_guarded) = true)
    (a_guards : PySem.W.nsIn K mainGlobals "guards" = some (some (.ref f_guards)))
    (l_guards : K.lookup f_guards = some ⟨oc_guards, od_guards, .func (PySem.W.fnOf "guards" "guards" (defArgs s_guards) (defBody s_guards) (defScope s_guards) .none kV_guards dc_guards pm_guards an_guards cd_guards ct_guards), sl_guards⟩)
    (c_guards : PySem.W.codeIn K cd_guards "guards" = true)
    (k_guards : PySem.W.keepIn K (.ref f_guards) = true)
    (a__law_all_bars : PySem.W.nsIn K mainGlobals "_law_all_bars" = some (some (.ref f__law_all_bars)))
    (l__law_all_bars : K.lookup f__law_all_bars = some ⟨oc__law_all_bars, od__law_all_bars, .func (PySem.W.fnOf "_law_all_bars" "_law_all_bars" (defArgs s__law_all_bars) (defBody s__law_all_bars) (defScope s__law_all_bars) .none kV__law_all_bars dc__law_all_bars pm__law_all_bars an__law_all_bars cd__law_all_bars ct__law_all_bars), sl__law_all_bars⟩)
    (c__law_all_bars : PySem.W.codeIn K cd__law_all_bars "_law_all_bars" = true)
    (k__law_all_bars : PySem.W.keepIn K (.ref f__law_all_bars) = true)
    (a__law_subsets : PySem.W.nsIn K mainGlobals "_law_subsets" = some (some (.ref f__law_subsets)))
    (l__law_subsets : K.lookup f__law_subsets = some ⟨oc__law_subsets, od__law_subsets, .func (PySem.W.fnOf "_law_subsets" "_law_subsets" (defArgs s__law_subsets) (defBody s__law_subsets) (defScope s__law_subsets) .none kV__law_subsets dc__law_subsets pm__law_subsets an__law_subsets cd__law_subsets ct__law_subsets), sl__law_subsets⟩)
    (c__law_subsets : PySem.W.codeIn K cd__law_subsets "_law_subsets" = true)
    (k__law_subsets : PySem.W.keepIn K (.ref f__law_subsets) = true)
    (a__law_good : PySem.W.nsIn K mainGlobals "_law_good" = some (some (.ref f__law_good)))
    (l__law_good : K.lookup f__law_good = some ⟨oc__law_good, od__law_good, .func (PySem.W.fnOf "_law_good" "_law_good" (defArgs s__law_good) (defBody s__law_good) (defScope s__law_good) .none kV__law_good dc__law_good pm__law_good an__law_good cd__law_good ct__law_good), sl__law_good⟩)
    (c__law_good : PySem.W.codeIn K cd__law_good "_law_good" = true)
    (k__law_good : PySem.W.keepIn K (.ref f__law_good) = true)
    (a_law : PySem.W.nsIn K mainGlobals "law" = some (some (.ref f_law)))
    (l_law : K.lookup f_law = some ⟨oc_law, od_law, .func (PySem.W.fnOf "law" "law" (defArgs s_law) (defBody s_law) (defScope s_law) .none kV_law dc_law pm_law an_law cd_law ct_law), sl_law⟩)
    (c_law : PySem.W.codeIn K cd_law "law" = true)
    (k_law : PySem.W.keepIn K (.ref f_law) = true)
    (aC : PySem.W.nsIn K mainGlobals "Cabinet" = some (some (.ref C)))
    (pg : PySem.W.plainGet K C Str.empty = true)
    (hd : PySem.W.hasDictIn K C = true)
    (po : PySem.W.plainOver K C = true)
    (sa : PySem.W.findIn K (.ref C) "__setattr__" = some (some (.builtin "object.__setattr__")))
    (mk : PySem.W.makesIn K C = true)
    (kc : PySem.W.keepIn K (.ref C) = true)
    (nD : PySem.W.findIn K (.ref C) "_drawers" = some none)
    (nB : PySem.W.findIn K (.ref C) "_bars" = some none)
    (a_Cabinet___init__ : PySem.W.findIn K (.ref C) "__init__" = some (some (.ref f_Cabinet___init__)))
    (l_Cabinet___init__ : K.lookup f_Cabinet___init__ = some ⟨oc_Cabinet___init__, od_Cabinet___init__, .func (PySem.W.fnOf "__init__" "Cabinet.__init__" (defArgs sInit) (defBody sInit) (defScope sInit) .none kV_Cabinet___init__ dc_Cabinet___init__ pm_Cabinet___init__ an_Cabinet___init__ cd_Cabinet___init__ ct_Cabinet___init__), sl_Cabinet___init__⟩)
    (c_Cabinet___init__ : PySem.W.codeIn K cd_Cabinet___init__ "Cabinet.__init__" = true)
    (k_Cabinet___init__ : PySem.W.keepIn K (.ref f_Cabinet___init__) = true)
    (i_init : PySem.W.isFn K (.ref f_Cabinet___init__) = true)
    (pa_drawers : PySem.W.findIn K (.ref C) "drawers" = some (some (.ref p_drawers)))
    (pg_drawers : PySem.W.specialIn K (.ref p_drawers) "__get__" = some (some (.builtin "property.__get__")))
    (pt_drawers : PySem.W.takesIn K (.ref p_drawers) = some true)
    (pr_drawers : PySem.W.recIn K p_drawers "property" = some (.ref f_Cabinet_drawers :: rest_drawers))
    (l_Cabinet_drawers : K.lookup f_Cabinet_drawers = some ⟨oc_Cabinet_drawers, od_Cabinet_drawers, .func (PySem.W.fnOf "drawers" "Cabinet.drawers" (defArgs sDrawers) (defBody sDrawers) (defScope sDrawers) .none kV_Cabinet_drawers dc_Cabinet_drawers pm_Cabinet_drawers an_Cabinet_drawers cd_Cabinet_drawers ct_Cabinet_drawers), sl_Cabinet_drawers⟩)
    (c_Cabinet_drawers : PySem.W.codeIn K cd_Cabinet_drawers "Cabinet.drawers" = true)
    (k_Cabinet_drawers : PySem.W.keepIn K (.ref f_Cabinet_drawers) = true)
    (pa_bars : PySem.W.findIn K (.ref C) "bars" = some (some (.ref p_bars)))
    (pg_bars : PySem.W.specialIn K (.ref p_bars) "__get__" = some (some (.builtin "property.__get__")))
    (pt_bars : PySem.W.takesIn K (.ref p_bars) = some true)
    (pr_bars : PySem.W.recIn K p_bars "property" = some (.ref f_Cabinet_bars :: rest_bars))
    (l_Cabinet_bars : K.lookup f_Cabinet_bars = some ⟨oc_Cabinet_bars, od_Cabinet_bars, .func (PySem.W.fnOf "bars" "Cabinet.bars" (defArgs sBars) (defBody sBars) (defScope sBars) .none kV_Cabinet_bars dc_Cabinet_bars pm_Cabinet_bars an_Cabinet_bars cd_Cabinet_bars ct_Cabinet_bars), sl_Cabinet_bars⟩)
    (c_Cabinet_bars : PySem.W.codeIn K cd_Cabinet_bars "Cabinet.bars" = true)
    (k_Cabinet_bars : PySem.W.keepIn K (.ref f_Cabinet_bars) = true)
    (ci1 : PySem.W.findIn K (.ref C) "__class__" = some (some (.builtin "object.__class__")))
    (ci2 : PySem.W.specialIn K (.builtin "object.__class__") "__get__" = some (some (.builtin "getset_descriptor.__get__")))
    (ci3 : PySem.W.takesIn K (.builtin "object.__class__") = some true)
    (ci4 : PySem.W.mroIn K C (.type "object") = some true)
    (ci5 : PySem.W.kitOne K (.ref C) (.ref C) = some true)
    (z_isinstance : PySem.W.nsIn K mainGlobals "isinstance" = some none)
    (z_int : PySem.W.nsIn K mainGlobals "int" = some none)
    (z_bool : PySem.W.nsIn K mainGlobals "bool" = some none)
    (z_tuple : PySem.W.nsIn K mainGlobals "tuple" = some none)
    (z_len : PySem.W.nsIn K mainGlobals "len" = some none)
    (z_enumerate : PySem.W.nsIn K mainGlobals "enumerate" = some none)
    (z_range : PySem.W.nsIn K mainGlobals "range" = some none)
    (z_sorted : PySem.W.nsIn K mainGlobals "sorted" = some none)
    (z_any : PySem.W.nsIn K mainGlobals "any" = some none)
    (z_list : PySem.W.nsIn K mainGlobals "list" = some none)
    (z_all : PySem.W.nsIn K mainGlobals "all" = some none)
    (z_zip : PySem.W.nsIn K mainGlobals "zip" = some none)
    (z_min : PySem.W.nsIn K mainGlobals "min" = some none)
    (aM : PySem.W.nsIn K mainGlobals "MOST_DRAWERS" = some (some (.int 7 tM)))
    (aW : PySem.W.nsIn K mainGlobals "WORDS" = some (some (.ref fW)))
    (lW : K.lookup fW = some ⟨.type "tuple", ddW, .seq #[.str "open" tW1, .str "shut" tW2] nW, slW⟩)
    (aS : PySem.W.nsIn K mainGlobals "SIGNS" = some (some (.ref fS)))
    (lS : K.lookup fS = some ⟨.type "dict", none, .dict esS nS, #[]⟩)
    (kS : PySem.W.KeysLit w.params esS.toList)
    (oS : PySem.W.nsIn K fS "open" = some (some (.str "o" tS1)))
    (sS : PySem.W.nsIn K fS "shut" = some (some (.str "s" tS2)))
    (aCM : PySem.W.nsIn K mainGlobals "combinations" = some (some (.type "itertools.combinations")))
    (aMG : PySem.W.nsIn K mainGlobals "MOST_GUARDED" = some (some (.int 4 tMG)))
    (aMA : PySem.W.nsIn K mainGlobals "MOST_ADDED" = some (some (.int 2 tMA)))
    : ∃ fd : FuncData, (∀ (s : Shared) (v : Value), BindsTo s fd ⟨[v], []⟩ [("_law_script", v)]) ∧ ∀ base : Heap, K.In base → base.Ns mainGlobals mg → FnOk l.prog w K mg base CX0 20 fa fd ["_law_script"] (spLaw K) := by
  have e := hfa.symm.trans (PySem.W.mg_of X G a_law)
  cases e
  have F_is_integer := fun_mk (st := sIsInt) l_is_integer c_is_integer k_is_integer
  have b_is_integer := F_is_integer.binds (ps := ["value"]) fun _ _ _ _ _ _ us hl => match us, hl with | [_], _ => rfl
  have g_is_integer := PySem.W.mg_of X G a_is_integer
  have F_is_drawer_count := fun_mk (st := sIsCount) l_is_drawer_count c_is_drawer_count k_is_drawer_count
  have b_is_drawer_count := F_is_drawer_count.binds (ps := ["value"]) fun _ _ _ _ _ _ us hl => match us, hl with | [_], _ => rfl
  have g_is_drawer_count := PySem.W.mg_of X G a_is_drawer_count
  have F_is_drawer := fun_mk (st := sIsDrawer) l_is_drawer c_is_drawer k_is_drawer
  have b_is_drawer := F_is_drawer.binds (ps := ["drawers", "value"]) fun _ _ _ _ _ _ us hl => match us, hl with | [_, _], _ => rfl
  have g_is_drawer := PySem.W.mg_of X G a_is_drawer
  have F_is_bar := fun_mk (st := sIsBar) l_is_bar c_is_bar k_is_bar
  have b_is_bar := F_is_bar.binds (ps := ["drawers", "value"]) fun _ _ _ _ _ _ us hl => match us, hl with | [_, _], _ => rfl
  have g_is_bar := PySem.W.mg_of X G a_is_bar
  have F_check_drawers := fun_mk (st := sCheckDrawers) l_check_drawers c_check_drawers k_check_drawers
  have b_check_drawers := F_check_drawers.binds (ps := ["drawers"]) fun _ _ _ _ _ _ us hl => match us, hl with | [_], _ => rfl
  have g_check_drawers := PySem.W.mg_of X G a_check_drawers
  have F_check_bars := fun_mk (st := sCheckBars) l_check_bars c_check_bars k_check_bars
  have b_check_bars := F_check_bars.binds (ps := ["drawers", "bars"]) fun _ _ _ _ _ _ us hl => match us, hl with | [_, _], _ => rfl
  have g_check_bars := PySem.W.mg_of X G a_check_bars
  have F__law_taken := fun_mk (st := sTaken) l__law_taken c__law_taken k__law_taken
  have b__law_taken := F__law_taken.binds (ps := ["_law_row", "_law_many"]) fun _ _ _ _ _ _ us hl => match us, hl with | [_, _], _ => rfl
  have g__law_taken := PySem.W.mg_of X G a__law_taken
  have F__law_parts := fun_mk (st := sParts) l__law_parts c__law_parts k__law_parts
  have b__law_parts := F__law_parts.binds (ps := ["_law_row", "_law_most"]) fun _ _ _ _ _ _ us hl => match us, hl with | [_, _], _ => rfl
  have g__law_parts := PySem.W.mg_of X G a__law_parts
  have F__law_made := fun_mk (st := sMade) l__law_made c__law_made k__law_made
  have b__law_made := F__law_made.binds (ps := ["_law_d"]) fun _ _ _ _ _ _ us hl => match us, hl with | [_], _ => rfl
  have g__law_made := PySem.W.mg_of X G a__law_made
  have F_hinders := fun_mk (st := s_hinders) l_hinders c_hinders k_hinders
  have b_hinders := F_hinders.binds (ps := ["bar", "standing", "drawer"]) fun _ _ _ _ _ _ us hl => match us, hl with | [_, _, _], _ => rfl
  have g_hinders := PySem.W.mg_of X G a_hinders
  have F_moved := fun_mk (st := s_moved) l_moved c_moved k_moved
  have b_moved := F_moved.binds (ps := ["standing", "drawer"]) fun _ _ _ _ _ _ us hl => match us, hl with | [_, _], _ => rfl
  have g_moved := PySem.W.mg_of X G a_moved
  have F_bars_against := fun_mk (st := s_bars_against) l_bars_against c_bars_against k_bars_against
  have b_bars_against := F_bars_against.binds (ps := ["cabinet", "standing", "drawer"]) fun _ _ _ _ _ _ us hl => match us, hl with | [_, _, _], _ => rfl
  have g_bars_against := PySem.W.mg_of X G a_bars_against
  have F_goes := fun_mk (st := s_goes) l_goes c_goes k_goes
  have b_goes := F_goes.binds (ps := ["cabinet", "standing", "drawer"]) fun _ _ _ _ _ _ us hl => match us, hl with | [_, _, _], _ => rfl
  have g_goes := PySem.W.mg_of X G a_goes
  have F_free_drawers := fun_mk (st := s_free_drawers) l_free_drawers c_free_drawers k_free_drawers
  have b_free_drawers := F_free_drawers.binds (ps := ["cabinet", "standing"]) fun _ _ _ _ _ _ us hl => match us, hl with | [_, _], _ => rfl
  have g_free_drawers := PySem.W.mg_of X G a_free_drawers
  have F__law_hold := fun_mk (st := s__law_hold) l__law_hold c__law_hold k__law_hold
  have b__law_hold := F__law_hold.binds (ps := ["_law_bar", "_law_standing", "_law_drawer"]) fun _ _ _ _ _ _ us hl => match us, hl with | [_, _, _], _ => rfl
  have g__law_hold := PySem.W.mg_of X G a__law_hold
  have F__law_free := fun_mk (st := s__law_free) l__law_free c__law_free k__law_free
  have b__law_free := F__law_free.binds (ps := ["_law_d", "_law_standing"]) fun _ _ _ _ _ _ us hl => match us, hl with | [_, _], _ => rfl
  have g__law_free := PySem.W.mg_of X G a__law_free
  have F__law_moved := fun_mk (st := s__law_moved) l__law_moved c__law_moved k__law_moved
  have b__law_moved := F__law_moved.binds (ps := ["_law_standing", "_law_drawer"]) fun _ _ _ _ _ _ us hl => match us, hl with | [_, _], _ => rfl
  have g__law_moved := PySem.W.mg_of X G a__law_moved
  have F_check_cabinet := fun_mk (st := s_check_cabinet) l_check_cabinet c_check_cabinet k_check_cabinet
  have b_check_cabinet := F_check_cabinet.binds (ps := ["cabinet"]) fun _ _ _ _ _ _ us hl => match us, hl with | [_], _ => rfl
  have g_check_cabinet := PySem.W.mg_of X G a_check_cabinet
  have F_first_standing := fun_mk (st := s_first_standing) l_first_standing c_first_standing k_first_standing
  have b_first_standing := F_first_standing.binds (ps := ["drawers"]) fun _ _ _ _ _ _ us hl => match us, hl with | [_], _ => rfl
  have g_first_standing := PySem.W.mg_of X G a_first_standing
  have F_fits := fun_mk (st := s_fits) l_fits c_fits k_fits
  have b_fits := F_fits.binds (ps := ["standing", "pattern"]) fun _ _ _ _ _ _ us hl => match us, hl with | [_, _], _ => rfl
  have g_fits := PySem.W.mg_of X G a_fits
  have F_rows_from := fun_mk (st := s_rows_from) l_rows_from c_rows_from k_rows_from
  have b_rows_from := F_rows_from.binds (ps := ["cabinet", "standing"]) fun _ _ _ _ _ _ us hl => match us, hl with | [_, _], _ => rfl
  have g_rows_from := PySem.W.mg_of X G a_rows_from
  have F_first_rows := fun_mk (st := s_first_rows) l_first_rows c_first_rows k_first_rows
  have b_first_rows := F_first_rows.binds (ps := ["cabinet"]) fun _ _ _ _ _ _ us hl => match us, hl with | [_], _ => rfl
  have g_first_rows := PySem.W.mg_of X G a_first_rows
  have F__law_rows := fun_mk (st := s__law_rows) l__law_rows c__law_rows k__law_rows
  have b__law_rows := F__law_rows.binds (ps := ["_law_d", "_law_begin"]) fun _ _ _ _ _ _ us hl => match us, hl with | [_, _], _ => rfl
  have g__law_rows := PySem.W.mg_of X G a__law_rows
  have F_is_set := fun_mk (st := s_is_set) l_is_set c_is_set k_is_set
  have b_is_set := F_is_set.binds (ps := ["drawers", "value"]) fun _ _ _ _ _ _ us hl => match us, hl with | [_, _], _ => rfl
  have g_is_set := PySem.W.mg_of X G a_is_set
  have F_open_pattern := fun_mk (st := s_open_pattern) l_open_pattern c_open_pattern k_open_pattern
  have b_open_pattern := F_open_pattern.binds (ps := ["cabinet", "some"]) fun _ _ _ _ _ _ us hl => match us, hl with | [_, _], _ => rfl
  have g_open_pattern := PySem.W.mg_of X G a_open_pattern
  have F_any_fits := fun_mk (st := s_any_fits) l_any_fits c_any_fits k_any_fits
  have b_any_fits := F_any_fits.binds (ps := ["standings", "pattern"]) fun _ _ _ _ _ _ us hl => match us, hl with | [_, _], _ => rfl
  have g_any_fits := PySem.W.mg_of X G a_any_fits
  have F_is_pair := fun_mk (st := s_is_pair) l_is_pair c_is_pair k_is_pair
  have b_is_pair := F_is_pair.binds (ps := ["drawers", "value"]) fun _ _ _ _ _ _ us hl => match us, hl with | [_, _], _ => rfl
  have g_is_pair := PySem.W.mg_of X G a_is_pair
  have F_check_pairs := fun_mk (st := s_check_pairs) l_check_pairs c_check_pairs k_check_pairs
  have b_check_pairs := F_check_pairs.binds (ps := ["cabinet", "pairs"]) fun _ _ _ _ _ _ us hl => match us, hl with | [_, _], _ => rfl
  have g_check_pairs := PySem.W.mg_of X G a_check_pairs
  have F_check_number := fun_mk (st := s_check_number) l_check_number c_check_number k_check_number
  have b_check_number := F_check_number.binds (ps := ["value", "least", "most"]) fun _ _ _ _ _ _ us hl => match us, hl with | [_, _, _], _ => rfl
  have g_check_number := PySem.W.mg_of X G a_check_number
  have F_check_few_drawers := fun_mk (st := s_check_few_drawers) l_check_few_drawers c_check_few_drawers k_check_few_drawers
  have b_check_few_drawers := F_check_few_drawers.binds (ps := ["cabinet", "most"]) fun _ _ _ _ _ _ us hl => match us, hl with | [_, _], _ => rfl
  have g_check_few_drawers := PySem.W.mg_of X G a_check_few_drawers
  have F_all_bars := fun_mk (st := s_all_bars) l_all_bars c_all_bars k_all_bars
  have b_all_bars := F_all_bars.binds (ps := ["drawers"]) fun _ _ _ _ _ _ us hl => match us, hl with | [_], _ => rfl
  have g_all_bars := PySem.W.mg_of X G a_all_bars
  have F_reached_pulls := fun_mk (st := s_reached_pulls) l_reached_pulls c_reached_pulls k_reached_pulls
  have b_reached_pulls := F_reached_pulls.binds (ps := ["cabinet"]) fun _ _ _ _ _ _ us hl => match us, hl with | [_], _ => rfl
  have g_reached_pulls := PySem.W.mg_of X G a_reached_pulls
  have F_reached_beside := fun_mk (st := s_reached_beside) l_reached_beside c_reached_beside k_reached_beside
  have b_reached_beside := F_reached_beside.binds (ps := ["cabinet", "pulls", "added"]) fun _ _ _ _ _ _ us hl => match us, hl with | [_, _, _], _ => rfl
  have g_reached_beside := PySem.W.mg_of X G a_reached_beside
  have F_is_guarded := fun_mk (st := s_is_guarded) l_is_guarded c_is_guarded k_is_guarded
  have b_is_guarded := F_is_guarded.binds (ps := ["cabinet", "pulls", "added", "apart"]) fun _ _ _ _ _ _ us hl => match us, hl with | [_, _, _, _], _ => rfl
  have g_is_guarded := PySem.W.mg_of X G a_is_guarded
  have F_guards := fun_mk (st := s_guards) l_guards c_guards k_guards
  have b_guards := F_guards.binds (ps := ["cabinet", "pairs", "most"]) fun _ _ _ _ _ _ us hl => match us, hl with | [_, _, _], _ => rfl
  have g_guards := PySem.W.mg_of X G a_guards
  have F__law_all_bars := fun_mk (st := s__law_all_bars) l__law_all_bars c__law_all_bars k__law_all_bars
  have b__law_all_bars := F__law_all_bars.binds (ps := ["_law_many"]) fun _ _ _ _ _ _ us hl => match us, hl with | [_], _ => rfl
  have g__law_all_bars := PySem.W.mg_of X G a__law_all_bars
  have F__law_subsets := fun_mk (st := s__law_subsets) l__law_subsets c__law_subsets k__law_subsets
  have b__law_subsets := F__law_subsets.binds (ps := ["_law_things", "_law_size"]) fun _ _ _ _ _ _ us hl => match us, hl with | [_, _], _ => rfl
  have g__law_subsets := PySem.W.mg_of X G a__law_subsets
  have F__law_good := fun_mk (st := s__law_good) l__law_good c__law_good k__law_good
  have b__law_good := F__law_good.binds (ps := ["_law_d", "_law_pairs"]) fun _ _ _ _ _ _ us hl => match us, hl with | [_, _], _ => rfl
  have g__law_good := PySem.W.mg_of X G a__law_good
  have F_law := fun_mk (st := s_law) l_law c_law k_law
  have b_law := F_law.binds (ps := ["_law_script"]) fun _ _ _ _ _ _ us hl => match us, hl with | [_], _ => rfl
  have g_law := PySem.W.mg_of X G a_law
  have F_Cabinet___init__ := fun_mk (st := sInit) l_Cabinet___init__ c_Cabinet___init__ k_Cabinet___init__
  have b_Cabinet___init__ := F_Cabinet___init__.binds (ps := ["self", "drawers", "bars"]) fun _ _ _ _ _ _ us hl => match us, hl with | [_, _, _], _ => rfl
  have F_Cabinet_drawers := fun_mk (st := sDrawers) l_Cabinet_drawers c_Cabinet_drawers k_Cabinet_drawers
  have b_Cabinet_drawers := F_Cabinet_drawers.binds (ps := ["self"]) fun _ _ _ _ _ _ us hl => match us, hl with | [_], _ => rfl
  have F_Cabinet_bars := fun_mk (st := sBars) l_Cabinet_bars c_Cabinet_bars k_Cabinet_bars
  have b_Cabinet_bars := F_Cabinet_bars.binds (ps := ["self"]) fun _ _ _ _ _ _ us hl => match us, hl with | [_], _ => rfl
  have TC : CabT K mg C := ⟨⟨pg, hd, po, sa⟩, nD, nB, PySem.W.mg_of X G aC⟩
  have MC : Mk K C f_Cabinet___init__ := ⟨mk, a_Cabinet___init__, i_init, kc⟩
  have IC : CabI K mg C := ⟨⟨pg, hd, po, sa⟩, PySem.W.mg_of X G aC, ci1, ci2, ci3, ci4, ci5⟩
  have TB : Bt mg := ⟨PySem.W.mg_none_of X G z_isinstance, PySem.W.mg_none_of X G z_int, PySem.W.mg_none_of X G z_bool, PySem.W.mg_none_of X G z_tuple, PySem.W.mg_none_of X G z_len, PySem.W.mg_none_of X G z_enumerate, PySem.W.mg_none_of X G z_range, PySem.W.mg_none_of X G z_sorted⟩
  have n_isinstance := PySem.W.mg_none_of X G z_isinstance
  have n_int := PySem.W.mg_none_of X G z_int
  have n_bool := PySem.W.mg_none_of X G z_bool
  have n_tuple := PySem.W.mg_none_of X G z_tuple
  have n_len := PySem.W.mg_none_of X G z_len
  have n_enumerate := PySem.W.mg_none_of X G z_enumerate
  have n_range := PySem.W.mg_none_of X G z_range
  have n_sorted := PySem.W.mg_none_of X G z_sorted
  have n_any := PySem.W.mg_none_of X G z_any
  have n_list := PySem.W.mg_none_of X G z_list
  have n_all := PySem.W.mg_none_of X G z_all
  have n_zip := PySem.W.mg_none_of X G z_zip
  have n_min := PySem.W.mg_none_of X G z_min
  have gM := PySem.W.mg_of X G aM
  have gW := PySem.W.mg_of X G aW
  have hW : ∀ H, SqT K H fW [.str "open", .str "shut"] := fun H => .inr ⟨_, _, _, lW, rfl, rfl, by show 2 ≤ sizeLine; decide, .cons ⟨_, rfl⟩ (.cons ⟨_, rfl⟩ .nil)⟩
  have gS := PySem.W.mg_of X G aS
  have TS : SgT K w mg fS := ⟨gS, ⟨esS, nS, _, lS, kS, oS, _, rfl⟩, ⟨esS, nS, _, lS, kS, sS, _, rfl⟩⟩
  have gCM := PySem.W.mg_of X G aCM
  have gMG := PySem.W.mg_of X G aMG
  have gMA := PySem.W.mg_of X G aMA
  refine ⟨PySem.W.fnOf "law" "law" (defArgs s_law) (defBody s_law) (defScope s_law) .none kV_law dc_law pm_law an_law cd_law ct_law, fun s v => .of_eq rfl, fun base hKX hGX => ?_⟩
  have OD := ok_getD (P := l.prog) (w := w) (base := base) F_Cabinet_drawers TC
  have OB := ok_getB (P := l.prog) (w := w) (base := base) F_Cabinet_bars TC
  have CP : CabP l.prog w K mg base C := ⟨TC.cl, ⟨_, _, _, ⟨pa_drawers, pg_drawers, pt_drawers, ⟨_, pr_drawers⟩⟩, OD, b_Cabinet_drawers⟩, ⟨_, _, _, ⟨pa_bars, pg_bars, pt_bars, ⟨_, pr_bars⟩⟩, OB, b_Cabinet_bars⟩⟩
  have O__law_taken := ok_taken (P := l.prog) (w := w) (base := base) F__law_taken TB
  have O__law_parts := ok_parts F__law_parts TB O__law_taken g__law_taken k__law_taken b__law_taken
  have O_is_integer := ok_isInt (P := l.prog) (w := w) (base := base) F_is_integer TB
  have O_is_drawer_count := ok_isCount F_is_drawer_count TB O_is_integer g_is_integer k_is_integer b_is_integer ⟨_, gM⟩
  have O_check_drawers := ok_checkDrawers F_check_drawers O_is_drawer_count g_is_drawer_count k_is_drawer_count b_is_drawer_count
  have O_is_drawer := ok_isDrawer F_is_drawer TB O_is_integer g_is_integer k_is_integer b_is_integer
  have O_is_bar := ok_isBar F_is_bar TB O_is_drawer g_is_drawer k_is_drawer b_is_drawer ⟨fW, gW, hW⟩
  have O_check_bars := ok_checkBars F_check_bars TB O_is_bar g_is_bar k_is_bar b_is_bar
  have O_Cabinet___init__ := ok_init F_Cabinet___init__ TC O_check_drawers g_check_drawers k_check_drawers b_check_drawers O_check_bars g_check_bars k_check_bars b_check_bars
  have O__law_made := ok_made F__law_made TC MC O_Cabinet___init__ b_Cabinet___init__
  have O__law_all_bars := ok_lawBars (P := l.prog) (w := w) (base := base) F__law_all_bars TB
  have O__law_subsets := ok_subs (P := l.prog) (w := w) (base := base) F__law_subsets TB
  have O__law_hold := ok_lawHold (P := l.prog) (w := w) (mg := mg) (base := base) F__law_hold
  have O__law_free := ok_lawFree F__law_free TB O__law_hold g__law_hold k__law_hold b__law_hold n_any
  have O__law_moved := ok_lawMoved (P := l.prog) (w := w) (base := base) F__law_moved TB
  have O__law_rows := ok_lawRows F__law_rows O__law_free g__law_free k__law_free b__law_free O__law_moved g__law_moved k__law_moved b__law_moved
  have O__law_good := ok_lawGood F__law_good TB n_list n_any O__law_rows g__law_rows k__law_rows b__law_rows
  have O_check_cabinet := ok_ckCab (P := l.prog) (w := w) (base := base) F_check_cabinet TB IC
  have O_check_few_drawers := ok_few0 F_check_few_drawers CP
  have O_is_set := ok_isSet F_is_set TB n_all n_zip O_is_drawer g_is_drawer k_is_drawer b_is_drawer
  have O_is_pair := ok_isPair F_is_pair TB O_is_set g_is_set k_is_set b_is_set
  have O_check_pairs := ok_ckPr0 F_check_pairs TB n_list CP O_is_pair g_is_pair k_is_pair b_is_pair
  have O_check_number := ok_ckNum0 F_check_number O_is_integer g_is_integer k_is_integer b_is_integer
  have O_all_bars := ok_allBars (P := l.prog) (w := w) (base := base) F_all_bars TB ⟨fW, gW, hW⟩
  have O_hinders := ok_hinders (P := l.prog) (base := base) F_hinders TS
  have O_bars_against := ok_against F_bars_against CP O_hinders g_hinders k_hinders b_hinders
  have O_goes := ok_goes F_goes O_bars_against g_bars_against k_bars_against b_bars_against
  have O_free_drawers := ok_freeDrawers F_free_drawers TB CP O_goes g_goes k_goes b_goes
  have O_moved := ok_moved (P := l.prog) (base := base) F_moved TS
  have O_rows_from := ok_rowsFrom F_rows_from TB O_free_drawers g_free_drawers k_free_drawers b_free_drawers O_moved g_moved k_moved b_moved
  have O_first_standing := ok_first (P := l.prog) (base := base) F_first_standing TS
  have O_first_rows := ok_firstRows F_first_rows CP O_rows_from g_rows_from k_rows_from b_rows_from O_first_standing g_first_standing k_first_standing b_first_standing
  have O_reached_pulls := ok_reachedPulls F_reached_pulls O_first_rows g_first_rows k_first_rows b_first_rows O_free_drawers g_free_drawers k_free_drawers b_free_drawers O_moved g_moved k_moved b_moved
  have O_open_pattern := ok_openPat F_open_pattern TB TS CP
  have O_reached_beside := ok_reBe F_reached_beside CP n_any n_list O_first_standing g_first_standing k_first_standing b_first_standing O_hinders g_hinders k_hinders b_hinders
  have O_fits := ok_fits (P := l.prog) (w := w) (base := base) F_fits n_zip n_all
  have O_any_fits := ok_anyFits F_any_fits n_any O_fits g_fits k_fits b_fits
  have O_is_guarded := ok_isG F_is_guarded TB CP n_any n_all O_reached_beside g_reached_beside k_reached_beside b_reached_beside O_any_fits g_any_fits k_any_fits b_any_fits O_open_pattern g_open_pattern k_open_pattern b_open_pattern
  have O_guards := ok_guard0 F_guards TB CP gCM ⟨_, gMG⟩ ⟨_, gMA⟩ O_check_cabinet g_check_cabinet k_check_cabinet b_check_cabinet O_check_few_drawers g_check_few_drawers k_check_few_drawers b_check_few_drawers O_check_pairs g_check_pairs k_check_pairs b_check_pairs O_check_number g_check_number k_check_number b_check_number O_all_bars g_all_bars k_all_bars b_all_bars O_reached_pulls g_reached_pulls k_reached_pulls b_reached_pulls O_open_pattern g_open_pattern k_open_pattern b_open_pattern O_is_guarded g_is_guarded k_is_guarded b_is_guarded
  exact ok_law F_law TB n_min O__law_taken g__law_taken k__law_taken b__law_taken O__law_parts g__law_parts k__law_parts b__law_parts O__law_made g__law_made k__law_made b__law_made O__law_all_bars g__law_all_bars k__law_all_bars b__law_all_bars O__law_subsets g__law_subsets k__law_subsets b__law_subsets O__law_good g__law_good k__law_good b__law_good O_guards g_guards k_guards b_guards
theorem walk {l : PySem.W.OpenLaw} {q : Program} {loose : List Str} {XP : (Str → Option Value) → Heap → Prop} {YP : World → Heap → Prop} {d : DefRec} {K : Params → PySem.W.Frag} (hn : l.most = some 63) (hdf : d.params.defaults = [])
    (hY : ∀ (w : World) (h : Heap), YP w h → (K w.params).In h)
    (F : ∀ (w : World) (mg : Str → Option Value) (fa : Addr) (h : Heap), (K w.params).In h → h.Ns mainGlobals mg → mg d.name = some (.ref fa) →
      ∃ fd : FuncData, (∀ (s : Shared) (u : Value), BindsTo s fd ⟨[u], []⟩ [("_law_script", u)]) ∧ ∀ base : Heap, (K w.params).In base → base.Ns mainGlobals mg → FnOk l.prog w (K w.params) mg base CX0 20 fa fd ["_law_script"] (spLaw (K w.params))) :
    PySem.W.WalkO q loose XP YP l.row.toRowW d [] (fun f vs => PySem.call f vs) :=
  L2.walk_of (n := 63) (k := 20) (x := "_law_script") (CX := fun _ => CX0) (sp := fun w => spLaw (K w.params)) hn (by decide) hdf ⟨rfl, by decide, by decide⟩ hY F (fun _ _ a ns hl _ hS => ⟨a, ns, rfl, hS, hl, fun _ => rfl⟩) fun _ _ _ _ _ z => z
end DL


set_option Elab.async false
set_option linter.all false
set_option maxRecDepth 100000
set_option maxHeartbeats 2000000
/-! A head whose facts are read off by a Hook: functions by their parts, the rest by Bools. -/
namespace HX
open PySem PySem.Spec PyProof.Rows L2
abbrev Fr := PySem.W.Frag
/-! ### what the Hook looks at -/
def fdA (K : Fr) (f : Addr) : Option FuncData := match K.lookup f with
  | some ⟨_, _, .func fd, _⟩ => some fd
  | _ => none
abbrev FnL : Type := Option (Str × Str × Arguments × FuncBody × Scope × Addr × List Str × Value × Addr)
def fnL (K : Fr) (f : Addr) : FnL := (fdA K f).map fun fd => (fd.name, fd.qualname, fd.params, fd.body, fd.scope, fd.globals, fd.closure.map (·.1), fd.defaults, fd.builtins)
/-- a def: its address, its parts; own: it holds its class in a cell -/
structure FD where
  ad : Fr → Addr
  name : Str
  qual : Str
  params : Arguments
  body : List Stmt
  scope : Scope
  own : List Str := []
def FD.val (d : FD) : FnL := some (d.name, d.qual, d.params, .stmts d.body, d.scope, mainGlobals, d.own, .none, builtinsNs)
def codeB (K : Fr) (f : Addr) (q : Str) : Bool := match fdA K f with
  | some fd => PySem.W.codeIn K fd.code q
  | none => false
theorem fdA_ok {K : Fr} {f : Addr} {fd : FuncData} (h : fdA K f = some fd) : ∃ oc od sl, K.lookup f = some ⟨oc, od, .func fd, sl⟩ := by
  unfold fdA at h
  cases q : K.lookup f with
  | none => rw [q] at h; cases h
  | some o =>
    obtain ⟨oc, od, dt, sl⟩ := o
    rw [q] at h
    cases dt with
    | func fd' =>
      injection h with h
      subst h
      exact ⟨oc, od, sl, rfl⟩
    | _ => cases h
theorem fnL_ok {K : Fr} {d : FD} (e : fnL K (d.ad K) = d.val) : ∃ fd, fdA K (d.ad K) = some fd ∧ fd.name = d.name ∧ fd.qualname = d.qual ∧ fd.params = d.params ∧ fd.body = .stmts d.body ∧ fd.scope = d.scope ∧ fd.globals = mainGlobals ∧ fd.closure.map (·.1) = d.own ∧ fd.defaults = .none ∧ fd.builtins = builtinsNs := by
  unfold fnL FD.val at e
  cases q : fdA K (d.ad K) with
  | none => rw [q] at e; cases e
  | some fd =>
    rw [q] at e
    simp only [Option.map_some, Option.some.injEq, Prod.mk.injEq] at e
    obtain ⟨h1, h2, h3, h4, h5, h6, h7, h8, h9⟩ := e
    exact ⟨fd, rfl, h1, h2, h3, h4, h5, h6, h7, h8, h9⟩
/-- a def without a cell -/
theorem fd_plain {K : Fr} {d : FD} (ho : d.own = []) (e : fnL K (d.ad K) = d.val) (c : codeB K (d.ad K) d.qual = true) :
    ∃ (od an : Option Addr) (sl : Array (Option Value)) (oc kV dc pm cd ct : Value), K.lookup (d.ad K) = some ⟨oc, od, .func (PySem.W.fnOf d.name d.qual d.params d.body d.scope .none kV dc pm an cd ct), sl⟩ ∧ PySem.W.codeIn K cd d.qual = true := by
  obtain ⟨fd, hf, h1, h2, h3, h4, h5, h6, h7, h8, h9⟩ := fnL_ok e
  obtain ⟨oc, od, sl, hl⟩ := fdA_ok hf
  unfold codeB at c
  rw [hf] at c
  obtain ⟨n1, n2, n3, n4, n5, n6, n7, n8, n9, n10, n11, n12, n13, n14, n15⟩ := fd
  simp only at h1 h2 h3 h4 h5 h6 h7 h8 h9 c
  rw [ho] at h7
  obtain rfl : n7 = [] := List.map_eq_nil_iff.mp h7
  subst h1 h2 h3 h4 h5 h6 h8 h9
  exact ⟨od, n12, sl, oc, n9, n10, n11, n13, n14, hl, c⟩
/-! ### a def with super(): its code's file, its cell -/
/-! ### an own error's class under another own one -/
/-! ### names, values -/
def intB (K : Fr) (a : Addr) (x : Str) (i : Int) : Bool := match PySem.W.nsIn K a x with
  | some (some (.int j _)) => decide (j = i)
  | _ => false
theorem int_ok {K : Fr} {a : Addr} {x : Str} {i : Int} (h : intB K a x i = true) : ∃ t, PySem.W.nsIn K a x = some (some (.int i t)) := by
  unfold intB at h
  split at h
  · rename_i j t e
    rw [of_decide_eq_true h] at e
    exact ⟨t, e⟩
  · cases h
def strB (K : Fr) (a : Addr) (x z : Str) : Bool := match PySem.W.nsIn K a x with
  | some (some (.str y _)) => decide (y = z)
  | _ => false
theorem str_ok {K : Fr} {a : Addr} {x z : Str} (h : strB K a x z = true) : ∃ t, PySem.W.nsIn K a x = some (some (.str z t)) := by
  unfold strB at h
  split at h
  · rename_i j t e
    rw [of_decide_eq_true h] at e
    exact ⟨t, e⟩
  · cases h
def tup2B (K : Fr) (a : Addr) (x y : Str) : Bool := match K.lookup a with
  | some ⟨.type c, _, .seq ⟨[.str p _, .str q _]⟩ _, _⟩ => decide (c = "tuple") && (decide (p = x) && decide (q = y))
  | _ => false
theorem tup2_ok {K : Fr} {a : Addr} {x y : Str} (h : tup2B K a x y = true) : ∃ dd t1 t2 n sl, K.lookup a = some ⟨.type "tuple", dd, .seq #[.str x t1, .str y t2] n, sl⟩ := by
  unfold tup2B at h
  split at h
  · rename_i c dd p t1 q t2 n sl e
    simp only [Bool.and_eq_true, decide_eq_true_eq] at h
    obtain ⟨rfl, rfl, rfl⟩ := h
    exact ⟨dd, t1, t2, n, sl, e⟩
  · cases h
/-- a property's def -/
def prA (K : Fr) (p : Addr) : Addr := match PySem.W.recIn K p "property" with
  | some (.ref f :: _) => f
  | _ => 0
def prR (K : Fr) (p : Addr) : List Value := match PySem.W.recIn K p "property" with
  | some (_ :: r) => r
  | _ => []
def prB (K : Fr) (p : Addr) : Bool := match PySem.W.recIn K p "property" with
  | some (.ref _ :: _) => true
  | _ => false
theorem pr_ok {K : Fr} {p : Addr} (h : prB K p = true) : PySem.W.recIn K p "property" = some (.ref (prA K p) :: prR K p) := by
  unfold prB at h
  unfold prA prR
  split at h
  · rename_i f r e
    rw [e]
  · cases h
/-- a dict's keys, with their hashes -/
def keyO (e : DictEntry) : Option (Str × Int) := match e.key with
  | .str x _ => some (x, e.hash)
  | _ => none
def dicO (K : Fr) (a : Addr) : Option (List (Option (Str × Int))) := match K.lookup a with
  | some ⟨.type c, none, .dict es _, ⟨[]⟩⟩ => (match c == "dict" with
    | true => some (es.toList.map keyO)
    | false => none)
  | _ => none
theorem dic_ok {K : Fr} {a : Addr} {P : Params} {ks : List Str} (h : dicO K a = some (ks.map fun x => some (x, PyData.keyHash P x))) : ∃ es n, K.lookup a = some ⟨.type "dict", none, .dict es n, #[]⟩ ∧ PySem.W.KeysLit P es.toList := by
  unfold dicO at h
  split at h
  · rename_i c es n e
    split at h
    · rename_i hc
      injection h with h
      rw [beq_iff_eq.mp hc] at e
      refine ⟨es, n, e, ?_⟩
      generalize es.toList = l at h
      clear e
      induction l generalizing ks with
      | nil => trivial
      | cons d l ih =>
        cases ks with
        | nil => cases h
        | cons k ks =>
          rw [List.map_cons, List.map_cons] at h
          injection h with h1 h2
          refine ⟨?_, ih h2⟩
          unfold keyO at h1
          split at h1
          · rename_i x t ek
            injection h1 with h1
            injection h1 with h1 h3
            subst h1
            exact ⟨_, t, ek, h3⟩
          · cases h1
    · cases h
  · cases h
/-! ### the Hook -/
def memN (a : Nat) : List Nat → Bool
  | [] => false
  | b :: r => match Nat.beq a b with
    | true => true
    | false => memN a r
/-- of these the ones that are not there yet -/
def newN : List Nat → List Nat → List Nat → List Nat
  | [], _, acc => acc
  | a :: r, seen, acc => match memN a seen with
    | true => newN r seen acc
    | false => (match memN a acc with
      | true => newN r seen acc
      | false => newN r seen (a :: acc))
/-- the objects that matter to the facts: a dict's values, a def's code and cells, a class's names and bases, a property's defs -/
def refsX (o : Obj) : List Addr := match o.data with
  | .dict es _ => es.toList.flatMap fun e => He.refV e.val
  | .func fd => He.refV fd.code ++ fd.closure.map (·.2)
  | .cls cd => cd.ns :: cd.mro.flatMap He.refV
  | .fields vs => (match o.cls with
    | .type c => (match c == "property" with
      | true => vs.toList.flatMap He.refV
      | false => [])
    | _ => [])
  | _ => []
def outX (g : Addr → Option Obj) : List Addr → List Addr
  | [] => []
  | a :: r => (match g a with
    | some o => refsX o
    | none => []) ++ outX g r
def walkX (g : Addr → Option Obj) : Nat → List Addr → List Addr → List Addr
  | 0, seen, _ => seen
  | n + 1, seen, front => (fun nw => walkX g n (seen ++ nw) nw) (newN (outX g front) seen [])
def asX (g : Addr → Option Obj) (n : Nat) : List Addr := walkX g n [mainGlobals, cStatics] [mainGlobals, cStatics]
abbrev AlX : Type := Bool × List FnL × Option (List (Option (Str × Int)))
structure Look where
  bs : Fr → List Bool
  fn : List FD
  di : Fr → Addr
  ks : List Str
def Look.obs (L : Look) (K : Fr) : AlX := ((L.bs K).all id, L.fn.map fun d => fnL K (d.ad K), dicO K (L.di K))
def Look.val (L : Look) (w : World) : AlX := (true, L.fn.map FD.val, some (L.ks.map fun x => some (x, PyData.keyHash w.params x)))
def Look.hook (n : Nat) (L : Look) : PySem.W.Hook where
  α := AlX
  obs := fun s => L.obs (He.frG s.heap.get? (asX s.heap.get? n))
  val := fun w => L.val w
  says := fun w h => ∃ K : Fr, K.In h ∧ L.obs K = L.val w
  of := fun _ _ e => ⟨_, He.frG_in, e⟩
  keeps := fun _ _ _ ⟨K, hK, c⟩ k => ⟨K, PySem.W.Frag.In.keeps hK k, c⟩
def Look.ob (n : Nat) (L : Look) (s : PySem.W.SharedT) : AlX := L.obs (He.frG (HandSHeadRun.getT s) (asX (HandSHeadRun.getT s) n))
theorem Look.ob_eq (n : Nat) (L : Look) (s : PySem.W.SharedT) : L.ob n s = (L.hook n).obs s.abs := by
  have e : HandSHeadRun.getT s = s.abs.heap.get? := funext (HandSHeadRun.getT_eq s)
  show L.obs (He.frG (HandSHeadRun.getT s) (asX (HandSHeadRun.getT s) n)) = L.obs (He.frG s.abs.heap.get? (asX s.abs.heap.get? n))
  rw [e]
section
variable {L : Look} {K : Fr} {w : World}
theorem Look.bit (c : L.obs K = L.val w) (i : Nat) {b : Bool} (h : (L.bs K)[i]? = some b) : b = true := by
  have c1 : (L.bs K).all id = true := congrArg (fun z : AlX => z.1) c
  exact List.all_eq_true.mp c1 b (List.mem_of_getElem? h)
theorem Look.eq (c : L.obs K = L.val w) (i : Nat) {p : Prop} [Decidable p] (h : (L.bs K)[i]? = some (decide p)) : p := of_decide_eq_true (Look.bit c i h)
theorem Look.def_ (c : L.obs K = L.val w) (i : Nat) {d : FD} (h : L.fn[i]? = some d) : fnL K (d.ad K) = d.val := by
  have e : L.fn.map (fun d => fnL K (d.ad K)) = L.fn.map FD.val := congrArg (fun z : AlX => z.2.1) c
  have e2 : (L.fn.map fun d => fnL K (d.ad K))[i]? = (L.fn.map FD.val)[i]? := by rw [e]
  rw [List.getElem?_map, List.getElem?_map, h] at e2
  exact Option.some.inj e2
theorem Look.dic (c : L.obs K = L.val w) : ∃ es n, K.lookup (L.di K) = some ⟨.type "dict", none, .dict es n, #[]⟩ ∧ PySem.W.KeysLit w.params es.toList := dic_ok (congrArg (fun z : AlX => z.2.2) c)
end
end HX

set_option Elab.async false
set_option linter.all false
set_option maxRecDepth 100000
set_option maxHeartbeats 0
namespace HDG
open PySem PySem.Spec PyProof.Rows L2 DL
abbrev R : PySem.W.OpenRow := PySem.W.OpenLaw.row PySem.Challenge.rw_drawerlocks_k16_whole_guards
def l0 : List PySem.Str := [PySem.Str.ofString "__name__", PySem.Str.ofString "DrawerError", PySem.Str.ofString "BadDrawers", PySem.Str.ofString "BadBars", PySem.Str.ofString "BadCabinet", PySem.Str.ofString "BadPairs", PySem.Str.ofString "BadNumber", PySem.Str.ofString "TooMany", PySem.Str.ofString "MOST_DRAWERS", PySem.Str.ofString "WORDS", PySem.Str.ofString "SIGNS", PySem.Str.ofString "is_integer", PySem.Str.ofString "is_drawer_count", PySem.Str.ofString "is_drawer", PySem.Str.ofString "is_set", PySem.Str.ofString "is_pair", PySem.Str.ofString "is_bar", PySem.Str.ofString "all_bars", PySem.Str.ofString "first_standing", PySem.Str.ofString "fits", PySem.Str.ofString "hinders", PySem.Str.ofString "moved", PySem.Str.ofString "Cabinet", PySem.Str.ofString "free_drawers", PySem.Str.ofString "goes", PySem.Str.ofString "bars_against", PySem.Str.ofString "check_drawers", PySem.Str.ofString "check_bars", PySem.Str.ofString "check_cabinet", PySem.Str.ofString "check_few_drawers", PySem.Str.ofString "check_number", PySem.Str.ofString "first_rows", PySem.Str.ofString "reached_pulls", PySem.Str.ofString "rows_from", PySem.Str.ofString "any_fits"]
def l1 : List PySem.Str := [PySem.Str.ofString "open_pattern", PySem.Str.ofString "MOST_GUARDED", PySem.Str.ofString "MOST_ADDED", PySem.Str.ofString "guards", PySem.Str.ofString "is_guarded", PySem.Str.ofString "reached_beside", PySem.Str.ofString "check_pairs", PySem.Str.ofString "_law_taken", PySem.Str.ofString "_law_parts", PySem.Str.ofString "_law_made", PySem.Str.ofString "_law_hold", PySem.Str.ofString "_law_free", PySem.Str.ofString "_law_moved", PySem.Str.ofString "_law_rows", PySem.Str.ofString "_law_subsets", PySem.Str.ofString "_law_all_bars", PySem.Str.ofString "_law_good"]
def loose : List PySem.Str := l0 ++ l1
def fd0 : HX.FD := ⟨fun K => He.ga K "is_integer", "is_integer", "is_integer", (defArgs sIsInt), (defBody sIsInt), (defScope sIsInt), []⟩
def fd1 : HX.FD := ⟨fun K => He.ga K "is_drawer_count", "is_drawer_count", "is_drawer_count", (defArgs sIsCount), (defBody sIsCount), (defScope sIsCount), []⟩
def fd2 : HX.FD := ⟨fun K => He.ga K "is_drawer", "is_drawer", "is_drawer", (defArgs sIsDrawer), (defBody sIsDrawer), (defScope sIsDrawer), []⟩
def fd3 : HX.FD := ⟨fun K => He.ga K "is_bar", "is_bar", "is_bar", (defArgs sIsBar), (defBody sIsBar), (defScope sIsBar), []⟩
def fd4 : HX.FD := ⟨fun K => He.ga K "check_drawers", "check_drawers", "check_drawers", (defArgs sCheckDrawers), (defBody sCheckDrawers), (defScope sCheckDrawers), []⟩
def fd5 : HX.FD := ⟨fun K => He.ga K "check_bars", "check_bars", "check_bars", (defArgs sCheckBars), (defBody sCheckBars), (defScope sCheckBars), []⟩
def fd6 : HX.FD := ⟨fun K => He.ga K "_law_taken", "_law_taken", "_law_taken", (defArgs sTaken), (defBody sTaken), (defScope sTaken), []⟩
def fd7 : HX.FD := ⟨fun K => He.ga K "_law_parts", "_law_parts", "_law_parts", (defArgs sParts), (defBody sParts), (defScope sParts), []⟩
def fd8 : HX.FD := ⟨fun K => He.ga K "_law_made", "_law_made", "_law_made", (defArgs sMade), (defBody sMade), (defScope sMade), []⟩
def fd9 : HX.FD := ⟨fun K => He.ga K "hinders", "hinders", "hinders", (defArgs s_hinders), (defBody s_hinders), (defScope s_hinders), []⟩
def fd10 : HX.FD := ⟨fun K => He.ga K "moved", "moved", "moved", (defArgs s_moved), (defBody s_moved), (defScope s_moved), []⟩
def fd11 : HX.FD := ⟨fun K => He.ga K "bars_against", "bars_against", "bars_against", (defArgs s_bars_against), (defBody s_bars_against), (defScope s_bars_against), []⟩
def fd12 : HX.FD := ⟨fun K => He.ga K "goes", "goes", "goes", (defArgs s_goes), (defBody s_goes), (defScope s_goes), []⟩
def fd13 : HX.FD := ⟨fun K => He.ga K "free_drawers", "free_drawers", "free_drawers", (defArgs s_free_drawers), (defBody s_free_drawers), (defScope s_free_drawers), []⟩
def fd14 : HX.FD := ⟨fun K => He.ga K "_law_hold", "_law_hold", "_law_hold", (defArgs s__law_hold), (defBody s__law_hold), (defScope s__law_hold), []⟩
def fd15 : HX.FD := ⟨fun K => He.ga K "_law_free", "_law_free", "_law_free", (defArgs s__law_free), (defBody s__law_free), (defScope s__law_free), []⟩
def fd16 : HX.FD := ⟨fun K => He.ga K "_law_moved", "_law_moved", "_law_moved", (defArgs s__law_moved), (defBody s__law_moved), (defScope s__law_moved), []⟩
def fd17 : HX.FD := ⟨fun K => He.ga K "check_cabinet", "check_cabinet", "check_cabinet", (defArgs s_check_cabinet), (defBody s_check_cabinet), (defScope s_check_cabinet), []⟩
def fd18 : HX.FD := ⟨fun K => He.ga K "first_standing", "first_standing", "first_standing", (defArgs s_first_standing), (defBody s_first_standing), (defScope s_first_standing), []⟩
def fd19 : HX.FD := ⟨fun K => He.ga K "fits", "fits", "fits", (defArgs s_fits), (defBody s_fits), (defScope s_fits), []⟩
def fd20 : HX.FD := ⟨fun K => He.ga K "rows_from", "rows_from", "rows_from", (defArgs s_rows_from), (defBody s_rows_from), (defScope s_rows_from), []⟩
def fd21 : HX.FD := ⟨fun K => He.ga K "first_rows", "first_rows", "first_rows", (defArgs s_first_rows), (defBody s_first_rows), (defScope s_first_rows), []⟩
def fd22 : HX.FD := ⟨fun K => He.ga K "_law_rows", "_law_rows", "_law_rows", (defArgs s__law_rows), (defBody s__law_rows), (defScope s__law_rows), []⟩
def fd23 : HX.FD := ⟨fun K => He.ga K "is_set", "is_set", "is_set", (defArgs s_is_set), (defBody s_is_set), (defScope s_is_set), []⟩
def fd24 : HX.FD := ⟨fun K => He.ga K "open_pattern", "open_pattern", "open_pattern", (defArgs s_open_pattern), (defBody s_open_pattern), (defScope s_open_pattern), []⟩
def fd25 : HX.FD := ⟨fun K => He.ga K "any_fits", "any_fits", "any_fits", (defArgs s_any_fits), (defBody s_any_fits), (defScope s_any_fits), []⟩
def fd26 : HX.FD := ⟨fun K => He.ga K "is_pair", "is_pair", "is_pair", (defArgs s_is_pair), (defBody s_is_pair), (defScope s_is_pair), []⟩
def fd27 : HX.FD := ⟨fun K => He.ga K "check_pairs", "check_pairs", "check_pairs", (defArgs s_check_pairs), (defBody s_check_pairs), (defScope s_check_pairs), []⟩
def fd28 : HX.FD := ⟨fun K => He.ga K "check_number", "check_number", "check_number", (defArgs s_check_number), (defBody s_check_number), (defScope s_check_number), []⟩
def fd29 : HX.FD := ⟨fun K => He.ga K "check_few_drawers", "check_few_drawers", "check_few_drawers", (defArgs s_check_few_drawers), (defBody s_check_few_drawers), (defScope s_check_few_drawers), []⟩
def fd30 : HX.FD := ⟨fun K => He.ga K "all_bars", "all_bars", "all_bars", (defArgs s_all_bars), (defBody s_all_bars), (defScope s_all_bars), []⟩
def fd31 : HX.FD := ⟨fun K => He.ga K "reached_pulls", "reached_pulls", "reached_pulls", (defArgs s_reached_pulls), (defBody s_reached_pulls), (defScope s_reached_pulls), []⟩
def fd32 : HX.FD := ⟨fun K => He.ga K "reached_beside", "reached_beside", "reached_beside", (defArgs s_reached_beside), (defBody s_reached_beside), (defScope s_reached_beside), []⟩
def fd33 : HX.FD := ⟨fun K => He.ga K "is_guarded", "is_guarded", "is_guarded", (defArgs s_is_guarded), (defBody s_is_guarded), (defScope s_is_guarded), []⟩
def fd34 : HX.FD := ⟨fun K => He.ga K "guards", "guards", "guards", (defArgs s_guards), (defBody s_guards), (defScope s_guards), []⟩
def fd35 : HX.FD := ⟨fun K => He.ga K "_law_all_bars", "_law_all_bars", "_law_all_bars", (defArgs s__law_all_bars), (defBody s__law_all_bars), (defScope s__law_all_bars), []⟩
def fd36 : HX.FD := ⟨fun K => He.ga K "_law_subsets", "_law_subsets", "_law_subsets", (defArgs s__law_subsets), (defBody s__law_subsets), (defScope s__law_subsets), []⟩
def fd37 : HX.FD := ⟨fun K => He.ga K "_law_good", "_law_good", "_law_good", (defArgs s__law_good), (defBody s__law_good), (defScope s__law_good), []⟩
def fd38 : HX.FD := ⟨fun K => He.ga K "law", "law", "law", (defArgs s_law), (defBody s_law), (defScope s_law), []⟩
def fd39 : HX.FD := ⟨fun K => He.ma K (He.ga K "Cabinet") "__init__", "__init__", "Cabinet.__init__", (defArgs sInit), (defBody sInit), (defScope sInit), []⟩
def fd40 : HX.FD := ⟨fun K => HX.prA K (He.ma K (He.ga K "Cabinet") "drawers"), "drawers", "Cabinet.drawers", (defArgs sDrawers), (defBody sDrawers), (defScope sDrawers), []⟩
def fd41 : HX.FD := ⟨fun K => HX.prA K (He.ma K (He.ga K "Cabinet") "bars"), "bars", "Cabinet.bars", (defArgs sBars), (defBody sBars), (defScope sBars), []⟩
def b0 (K : HX.Fr) (r : List Bool) : List Bool :=
  decide (PySem.W.nsIn K mainGlobals "is_integer" = some (some (.ref (He.ga K "is_integer")))) ::
  HX.codeB K (He.ga K "is_integer") "is_integer" ::
  PySem.W.keepIn K (.ref (He.ga K "is_integer")) ::
  decide (PySem.W.nsIn K mainGlobals "is_drawer_count" = some (some (.ref (He.ga K "is_drawer_count")))) ::
  HX.codeB K (He.ga K "is_drawer_count") "is_drawer_count" ::
  PySem.W.keepIn K (.ref (He.ga K "is_drawer_count")) ::
  decide (PySem.W.nsIn K mainGlobals "is_drawer" = some (some (.ref (He.ga K "is_drawer")))) ::
  HX.codeB K (He.ga K "is_drawer") "is_drawer" ::
  PySem.W.keepIn K (.ref (He.ga K "is_drawer")) ::
  decide (PySem.W.nsIn K mainGlobals "is_bar" = some (some (.ref (He.ga K "is_bar")))) ::
  HX.codeB K (He.ga K "is_bar") "is_bar" ::
  PySem.W.keepIn K (.ref (He.ga K "is_bar")) ::
  decide (PySem.W.nsIn K mainGlobals "check_drawers" = some (some (.ref (He.ga K "check_drawers")))) ::
  HX.codeB K (He.ga K "check_drawers") "check_drawers" ::
  PySem.W.keepIn K (.ref (He.ga K "check_drawers")) ::
  decide (PySem.W.nsIn K mainGlobals "check_bars" = some (some (.ref (He.ga K "check_bars")))) ::
  HX.codeB K (He.ga K "check_bars") "check_bars" ::
  PySem.W.keepIn K (.ref (He.ga K "check_bars")) ::
  decide (PySem.W.nsIn K mainGlobals "_law_taken" = some (some (.ref (He.ga K "_law_taken")))) ::
  HX.codeB K (He.ga K "_law_taken") "_law_taken" ::
  PySem.W.keepIn K (.ref (He.ga K "_law_taken")) ::
  decide (PySem.W.nsIn K mainGlobals "_law_parts" = some (some (.ref (He.ga K "_law_parts")))) ::
  HX.codeB K (He.ga K "_law_parts") "_law_parts" ::
  PySem.W.keepIn K (.ref (He.ga K "_law_parts")) ::
  decide (PySem.W.nsIn K mainGlobals "_law_made" = some (some (.ref (He.ga K "_law_made")))) ::
  HX.codeB K (He.ga K "_law_made") "_law_made" ::
  PySem.W.keepIn K (.ref (He.ga K "_law_made")) ::
  decide (PySem.W.nsIn K mainGlobals "hinders" = some (some (.ref (He.ga K "hinders")))) ::
  HX.codeB K (He.ga K "hinders") "hinders" ::
  PySem.W.keepIn K (.ref (He.ga K "hinders")) ::
  decide (PySem.W.nsIn K mainGlobals "moved" = some (some (.ref (He.ga K "moved")))) ::
  HX.codeB K (He.ga K "moved") "moved" ::
  PySem.W.keepIn K (.ref (He.ga K "moved")) ::
  decide (PySem.W.nsIn K mainGlobals "bars_against" = some (some (.ref (He.ga K "bars_against")))) ::
  HX.codeB K (He.ga K "bars_against") "bars_against" ::
  PySem.W.keepIn K (.ref (He.ga K "bars_against")) ::
  decide (PySem.W.nsIn K mainGlobals "goes" = some (some (.ref (He.ga K "goes")))) ::
  HX.codeB K (He.ga K "goes") "goes" ::
  PySem.W.keepIn K (.ref (He.ga K "goes")) ::
  decide (PySem.W.nsIn K mainGlobals "free_drawers" = some (some (.ref (He.ga K "free_drawers")))) ::
  r
def b1 (K : HX.Fr) (r : List Bool) : List Bool :=
  HX.codeB K (He.ga K "free_drawers") "free_drawers" ::
  PySem.W.keepIn K (.ref (He.ga K "free_drawers")) ::
  decide (PySem.W.nsIn K mainGlobals "_law_hold" = some (some (.ref (He.ga K "_law_hold")))) ::
  HX.codeB K (He.ga K "_law_hold") "_law_hold" ::
  PySem.W.keepIn K (.ref (He.ga K "_law_hold")) ::
  decide (PySem.W.nsIn K mainGlobals "_law_free" = some (some (.ref (He.ga K "_law_free")))) ::
  HX.codeB K (He.ga K "_law_free") "_law_free" ::
  PySem.W.keepIn K (.ref (He.ga K "_law_free")) ::
  decide (PySem.W.nsIn K mainGlobals "_law_moved" = some (some (.ref (He.ga K "_law_moved")))) ::
  HX.codeB K (He.ga K "_law_moved") "_law_moved" ::
  PySem.W.keepIn K (.ref (He.ga K "_law_moved")) ::
  decide (PySem.W.nsIn K mainGlobals "check_cabinet" = some (some (.ref (He.ga K "check_cabinet")))) ::
  HX.codeB K (He.ga K "check_cabinet") "check_cabinet" ::
  PySem.W.keepIn K (.ref (He.ga K "check_cabinet")) ::
  decide (PySem.W.nsIn K mainGlobals "first_standing" = some (some (.ref (He.ga K "first_standing")))) ::
  HX.codeB K (He.ga K "first_standing") "first_standing" ::
  PySem.W.keepIn K (.ref (He.ga K "first_standing")) ::
  decide (PySem.W.nsIn K mainGlobals "fits" = some (some (.ref (He.ga K "fits")))) ::
  HX.codeB K (He.ga K "fits") "fits" ::
  PySem.W.keepIn K (.ref (He.ga K "fits")) ::
  decide (PySem.W.nsIn K mainGlobals "rows_from" = some (some (.ref (He.ga K "rows_from")))) ::
  HX.codeB K (He.ga K "rows_from") "rows_from" ::
  PySem.W.keepIn K (.ref (He.ga K "rows_from")) ::
  decide (PySem.W.nsIn K mainGlobals "first_rows" = some (some (.ref (He.ga K "first_rows")))) ::
  HX.codeB K (He.ga K "first_rows") "first_rows" ::
  PySem.W.keepIn K (.ref (He.ga K "first_rows")) ::
  decide (PySem.W.nsIn K mainGlobals "_law_rows" = some (some (.ref (He.ga K "_law_rows")))) ::
  HX.codeB K (He.ga K "_law_rows") "_law_rows" ::
  PySem.W.keepIn K (.ref (He.ga K "_law_rows")) ::
  decide (PySem.W.nsIn K mainGlobals "is_set" = some (some (.ref (He.ga K "is_set")))) ::
  HX.codeB K (He.ga K "is_set") "is_set" ::
  PySem.W.keepIn K (.ref (He.ga K "is_set")) ::
  decide (PySem.W.nsIn K mainGlobals "open_pattern" = some (some (.ref (He.ga K "open_pattern")))) ::
  HX.codeB K (He.ga K "open_pattern") "open_pattern" ::
  PySem.W.keepIn K (.ref (He.ga K "open_pattern")) ::
  decide (PySem.W.nsIn K mainGlobals "any_fits" = some (some (.ref (He.ga K "any_fits")))) ::
  HX.codeB K (He.ga K "any_fits") "any_fits" ::
  PySem.W.keepIn K (.ref (He.ga K "any_fits")) ::
  decide (PySem.W.nsIn K mainGlobals "is_pair" = some (some (.ref (He.ga K "is_pair")))) ::
  HX.codeB K (He.ga K "is_pair") "is_pair" ::
  r
def b2 (K : HX.Fr) (r : List Bool) : List Bool :=
  PySem.W.keepIn K (.ref (He.ga K "is_pair")) ::
  decide (PySem.W.nsIn K mainGlobals "check_pairs" = some (some (.ref (He.ga K "check_pairs")))) ::
  HX.codeB K (He.ga K "check_pairs") "check_pairs" ::
  PySem.W.keepIn K (.ref (He.ga K "check_pairs")) ::
  decide (PySem.W.nsIn K mainGlobals "check_number" = some (some (.ref (He.ga K "check_number")))) ::
  HX.codeB K (He.ga K "check_number") "check_number" ::
  PySem.W.keepIn K (.ref (He.ga K "check_number")) ::
  decide (PySem.W.nsIn K mainGlobals "check_few_drawers" = some (some (.ref (He.ga K "check_few_drawers")))) ::
  HX.codeB K (He.ga K "check_few_drawers") "check_few_drawers" ::
  PySem.W.keepIn K (.ref (He.ga K "check_few_drawers")) ::
  decide (PySem.W.nsIn K mainGlobals "all_bars" = some (some (.ref (He.ga K "all_bars")))) ::
  HX.codeB K (He.ga K "all_bars") "all_bars" ::
  PySem.W.keepIn K (.ref (He.ga K "all_bars")) ::
  decide (PySem.W.nsIn K mainGlobals "reached_pulls" = some (some (.ref (He.ga K "reached_pulls")))) ::
  HX.codeB K (He.ga K "reached_pulls") "reached_pulls" ::
  PySem.W.keepIn K (.ref (He.ga K "reached_pulls")) ::
  decide (PySem.W.nsIn K mainGlobals "reached_beside" = some (some (.ref (He.ga K "reached_beside")))) ::
  HX.codeB K (He.ga K "reached_beside") "reached_beside" ::
  PySem.W.keepIn K (.ref (He.ga K "reached_beside")) ::
  decide (PySem.W.nsIn K mainGlobals "is_guarded" = some (some (.ref (He.ga K "is_guarded")))) ::
  HX.codeB K (He.ga K "is_guarded") "is_guarded" ::
  PySem.W.keepIn K (.ref (He.ga K "is_guarded")) ::
  decide (PySem.W.nsIn K mainGlobals "guards" = some (some (.ref (He.ga K "guards")))) ::
  HX.codeB K (He.ga K "guards") "guards" ::
  PySem.W.keepIn K (.ref (He.ga K "guards")) ::
  decide (PySem.W.nsIn K mainGlobals "_law_all_bars" = some (some (.ref (He.ga K "_law_all_bars")))) ::
  HX.codeB K (He.ga K "_law_all_bars") "_law_all_bars" ::
  PySem.W.keepIn K (.ref (He.ga K "_law_all_bars")) ::
  decide (PySem.W.nsIn K mainGlobals "_law_subsets" = some (some (.ref (He.ga K "_law_subsets")))) ::
  HX.codeB K (He.ga K "_law_subsets") "_law_subsets" ::
  PySem.W.keepIn K (.ref (He.ga K "_law_subsets")) ::
  decide (PySem.W.nsIn K mainGlobals "_law_good" = some (some (.ref (He.ga K "_law_good")))) ::
  HX.codeB K (He.ga K "_law_good") "_law_good" ::
  PySem.W.keepIn K (.ref (He.ga K "_law_good")) ::
  decide (PySem.W.nsIn K mainGlobals "law" = some (some (.ref (He.ga K "law")))) ::
  HX.codeB K (He.ga K "law") "law" ::
  PySem.W.keepIn K (.ref (He.ga K "law")) ::
  decide (PySem.W.nsIn K mainGlobals "Cabinet" = some (some (.ref (He.ga K "Cabinet")))) ::
  PySem.W.plainGet K (He.ga K "Cabinet") Str.empty ::
  PySem.W.hasDictIn K (He.ga K "Cabinet") ::
  r
def b3 (K : HX.Fr) (r : List Bool) : List Bool :=
  PySem.W.plainOver K (He.ga K "Cabinet") ::
  decide (PySem.W.findIn K (.ref (He.ga K "Cabinet")) "__setattr__" = some (some (.builtin "object.__setattr__"))) ::
  PySem.W.makesIn K (He.ga K "Cabinet") ::
  PySem.W.keepIn K (.ref (He.ga K "Cabinet")) ::
  decide (PySem.W.findIn K (.ref (He.ga K "Cabinet")) "_drawers" = some none) ::
  decide (PySem.W.findIn K (.ref (He.ga K "Cabinet")) "_bars" = some none) ::
  decide (PySem.W.findIn K (.ref (He.ga K "Cabinet")) "__init__" = some (some (.ref (He.ma K (He.ga K "Cabinet") "__init__")))) ::
  HX.codeB K (He.ma K (He.ga K "Cabinet") "__init__") "Cabinet.__init__" ::
  PySem.W.keepIn K (.ref (He.ma K (He.ga K "Cabinet") "__init__")) ::
  PySem.W.isFn K (.ref (He.ma K (He.ga K "Cabinet") "__init__")) ::
  decide (PySem.W.findIn K (.ref (He.ga K "Cabinet")) "drawers" = some (some (.ref (He.ma K (He.ga K "Cabinet") "drawers")))) ::
  decide (PySem.W.specialIn K (.ref (He.ma K (He.ga K "Cabinet") "drawers")) "__get__" = some (some (.builtin "property.__get__"))) ::
  decide (PySem.W.takesIn K (.ref (He.ma K (He.ga K "Cabinet") "drawers")) = some true) ::
  HX.prB K (He.ma K (He.ga K "Cabinet") "drawers") ::
  HX.codeB K (HX.prA K (He.ma K (He.ga K "Cabinet") "drawers")) "Cabinet.drawers" ::
  PySem.W.keepIn K (.ref (HX.prA K (He.ma K (He.ga K "Cabinet") "drawers"))) ::
  decide (PySem.W.findIn K (.ref (He.ga K "Cabinet")) "bars" = some (some (.ref (He.ma K (He.ga K "Cabinet") "bars")))) ::
  decide (PySem.W.specialIn K (.ref (He.ma K (He.ga K "Cabinet") "bars")) "__get__" = some (some (.builtin "property.__get__"))) ::
  decide (PySem.W.takesIn K (.ref (He.ma K (He.ga K "Cabinet") "bars")) = some true) ::
  HX.prB K (He.ma K (He.ga K "Cabinet") "bars") ::
  HX.codeB K (HX.prA K (He.ma K (He.ga K "Cabinet") "bars")) "Cabinet.bars" ::
  PySem.W.keepIn K (.ref (HX.prA K (He.ma K (He.ga K "Cabinet") "bars"))) ::
  decide (PySem.W.findIn K (.ref (He.ga K "Cabinet")) "__class__" = some (some (.builtin "object.__class__"))) ::
  decide (PySem.W.specialIn K (.builtin "object.__class__") "__get__" = some (some (.builtin "getset_descriptor.__get__"))) ::
  decide (PySem.W.takesIn K (.builtin "object.__class__") = some true) ::
  decide (PySem.W.mroIn K (He.ga K "Cabinet") (.type "object") = some true) ::
  decide (PySem.W.kitOne K (.ref (He.ga K "Cabinet")) (.ref (He.ga K "Cabinet")) = some true) ::
  decide (PySem.W.nsIn K mainGlobals "isinstance" = some none) ::
  decide (PySem.W.nsIn K mainGlobals "int" = some none) ::
  decide (PySem.W.nsIn K mainGlobals "bool" = some none) ::
  decide (PySem.W.nsIn K mainGlobals "tuple" = some none) ::
  decide (PySem.W.nsIn K mainGlobals "len" = some none) ::
  decide (PySem.W.nsIn K mainGlobals "enumerate" = some none) ::
  decide (PySem.W.nsIn K mainGlobals "range" = some none) ::
  decide (PySem.W.nsIn K mainGlobals "sorted" = some none) ::
  decide (PySem.W.nsIn K mainGlobals "any" = some none) ::
  decide (PySem.W.nsIn K mainGlobals "list" = some none) ::
  decide (PySem.W.nsIn K mainGlobals "all" = some none) ::
  decide (PySem.W.nsIn K mainGlobals "zip" = some none) ::
  decide (PySem.W.nsIn K mainGlobals "min" = some none) ::
  r
def b4 (K : HX.Fr) (r : List Bool) : List Bool :=
  HX.intB K mainGlobals "MOST_DRAWERS" 7 ::
  decide (PySem.W.nsIn K mainGlobals "WORDS" = some (some (.ref (He.ga K "WORDS")))) ::
  HX.tup2B K (He.ga K "WORDS") "open" "shut" ::
  decide (PySem.W.nsIn K mainGlobals "SIGNS" = some (some (.ref (He.ga K "SIGNS")))) ::
  HX.strB K (He.ga K "SIGNS") "open" "o" ::
  HX.strB K (He.ga K "SIGNS") "shut" "s" ::
  decide (PySem.W.nsIn K mainGlobals "combinations" = some (some (.type "itertools.combinations"))) ::
  HX.intB K mainGlobals "MOST_GUARDED" 4 ::
  HX.intB K mainGlobals "MOST_ADDED" 2 ::
  r
def bs (K : HX.Fr) : List Bool := b0 K (b1 K (b2 K (b3 K (b4 K ([])))))
def fn : List HX.FD := fd0 :: fd1 :: fd2 :: fd3 :: fd4 :: fd5 :: fd6 :: fd7 :: fd8 :: fd9 :: fd10 :: fd11 :: fd12 :: fd13 :: fd14 :: fd15 :: fd16 :: fd17 :: fd18 :: fd19 :: fd20 :: fd21 :: fd22 :: fd23 :: fd24 :: fd25 :: fd26 :: fd27 :: fd28 :: fd29 :: fd30 :: fd31 :: fd32 :: fd33 :: fd34 :: fd35 :: fd36 :: fd37 :: fd38 :: fd39 :: fd40 :: fd41 :: []
def L : HX.Look := ⟨bs, fn, fun K => He.ga K "SIGNS", ["open", "shut"]⟩
abbrev hk : PySem.W.Hook := HX.Look.hook 6 L
def ob (s : PySem.W.SharedT) : HX.AlX := HX.Look.ob 6 L s
theorem ob_eq (s : PySem.W.SharedT) : ob s = hk.obs s.abs := HX.Look.ob_eq 6 L s
theorem run0 (w : World) : HandSHeadRun.RunEqI R (PySem.W.view R.prog [0, 59]) hk ob 60000 loose (w.withFollow "special-get-raises" false) := by unfold HandSHeadRun.RunEqI; kernel_rfl
theorem run1 (w : World) : HandSHeadRun.RunEqI R (PySem.W.view R.prog [0, 59]) hk ob 60000 loose (w.withFollow "special-get-raises" true) := by unfold HandSHeadRun.RunEqI; kernel_rfl
theorem run (w : World) : HandSHeadRun.RunEqI R (PySem.W.view R.prog [0, 59]) hk ob 60000 loose w :=
  PySem.W.byRow2 "special-get-raises" (P := fun w => HandSHeadRun.RunEqI R (PySem.W.view R.prog [0, 59]) hk ob 60000 loose w) run0 run1 w
theorem facts {w : World} {K : HX.Fr} {h : Heap} {mg : Str → Option Value} {fa : Addr} (KX : K.In h) (G : h.Ns mainGlobals mg) (hmg : mg "law" = some (.ref fa)) (c : L.obs K = L.val w) :
    ∃ fd : FuncData, (∀ (s : Shared) (v : Value), BindsTo s fd ⟨[v], []⟩ [("_law_script", v)]) ∧ ∀ base : Heap, K.In base → base.Ns mainGlobals mg → FnOk (PySem.Challenge.rw_drawerlocks_k16_whole_guards).prog w K mg base CX0 20 fa fd ["_law_script"] (spLaw K) := by
  have a_is_integer : PySem.W.nsIn K mainGlobals "is_integer" = some (some (.ref (He.ga K "is_integer"))) := HX.Look.eq c 0 rfl
  obtain ⟨_, _, _, _, _, _, _, _, _, l_is_integer, c_is_integer⟩ := HX.fd_plain (d := fd0) rfl (HX.Look.def_ c 0 rfl) (HX.Look.bit c 1 rfl)
  have k_is_integer : PySem.W.keepIn K (.ref (He.ga K "is_integer")) = true := HX.Look.bit c 2 rfl
  have a_is_drawer_count : PySem.W.nsIn K mainGlobals "is_drawer_count" = some (some (.ref (He.ga K "is_drawer_count"))) := HX.Look.eq c 3 rfl
  obtain ⟨_, _, _, _, _, _, _, _, _, l_is_drawer_count, c_is_drawer_count⟩ := HX.fd_plain (d := fd1) rfl (HX.Look.def_ c 1 rfl) (HX.Look.bit c 4 rfl)
  have k_is_drawer_count : PySem.W.keepIn K (.ref (He.ga K "is_drawer_count")) = true := HX.Look.bit c 5 rfl
  have a_is_drawer : PySem.W.nsIn K mainGlobals "is_drawer" = some (some (.ref (He.ga K "is_drawer"))) := HX.Look.eq c 6 rfl
  obtain ⟨_, _, _, _, _, _, _, _, _, l_is_drawer, c_is_drawer⟩ := HX.fd_plain (d := fd2) rfl (HX.Look.def_ c 2 rfl) (HX.Look.bit c 7 rfl)
  have k_is_drawer : PySem.W.keepIn K (.ref (He.ga K "is_drawer")) = true := HX.Look.bit c 8 rfl
  have a_is_bar : PySem.W.nsIn K mainGlobals "is_bar" = some (some (.ref (He.ga K "is_bar"))) := HX.Look.eq c 9 rfl
  obtain ⟨_, _, _, _, _, _, _, _, _, l_is_bar, c_is_bar⟩ := HX.fd_plain (d := fd3) rfl (HX.Look.def_ c 3 rfl) (HX.Look.bit c 10 rfl)
  have k_is_bar : PySem.W.keepIn K (.ref (He.ga K "is_bar")) = true := HX.Look.bit c 11 rfl
  have a_check_drawers : PySem.W.nsIn K mainGlobals "check_drawers" = some (some (.ref (He.ga K "check_drawers"))) := HX.Look.eq c 12 rfl
  obtain ⟨_, _, _, _, _, _, _, _, _, l_check_drawers, c_check_drawers⟩ := HX.fd_plain (d := fd4) rfl (HX.Look.def_ c 4 rfl) (HX.Look.bit c 13 rfl)
  have k_check_drawers : PySem.W.keepIn K (.ref (He.ga K "check_drawers")) = true := HX.Look.bit c 14 rfl
  have a_check_bars : PySem.W.nsIn K mainGlobals "check_bars" = some (some (.ref (He.ga K "check_bars"))) := HX.Look.eq c 15 rfl
  obtain ⟨_, _, _, _, _, _, _, _, _, l_check_bars, c_check_bars⟩ := HX.fd_plain (d := fd5) rfl (HX.Look.def_ c 5 rfl) (HX.Look.bit c 16 rfl)
  have k_check_bars : PySem.W.keepIn K (.ref (He.ga K "check_bars")) = true := HX.Look.bit c 17 rfl
  have a__law_taken : PySem.W.nsIn K mainGlobals "_law_taken" = some (some (.ref (He.ga K "_law_taken"))) := HX.Look.eq c 18 rfl
  obtain ⟨_, _, _, _, _, _, _, _, _, l__law_taken, c__law_taken⟩ := HX.fd_plain (d := fd6) rfl (HX.Look.def_ c 6 rfl) (HX.Look.bit c 19 rfl)
  have k__law_taken : PySem.W.keepIn K (.ref (He.ga K "_law_taken")) = true := HX.Look.bit c 20 rfl
  have a__law_parts : PySem.W.nsIn K mainGlobals "_law_parts" = some (some (.ref (He.ga K "_law_parts"))) := HX.Look.eq c 21 rfl
  obtain ⟨_, _, _, _, _, _, _, _, _, l__law_parts, c__law_parts⟩ := HX.fd_plain (d := fd7) rfl (HX.Look.def_ c 7 rfl) (HX.Look.bit c 22 rfl)
  have k__law_parts : PySem.W.keepIn K (.ref (He.ga K "_law_parts")) = true := HX.Look.bit c 23 rfl
  have a__law_made : PySem.W.nsIn K mainGlobals "_law_made" = some (some (.ref (He.ga K "_law_made"))) := HX.Look.eq c 24 rfl
  obtain ⟨_, _, _, _, _, _, _, _, _, l__law_made, c__law_made⟩ := HX.fd_plain (d := fd8) rfl (HX.Look.def_ c 8 rfl) (HX.Look.bit c 25 rfl)
  have k__law_made : PySem.W.keepIn K (.ref (He.ga K "_law_made")) = true := HX.Look.bit c 26 rfl
  have a_hinders : PySem.W.nsIn K mainGlobals "hinders" = some (some (.ref (He.ga K "hinders"))) := HX.Look.eq c 27 rfl
  obtain ⟨_, _, _, _, _, _, _, _, _, l_hinders, c_hinders⟩ := HX.fd_plain (d := fd9) rfl (HX.Look.def_ c 9 rfl) (HX.Look.bit c 28 rfl)
  have k_hinders : PySem.W.keepIn K (.ref (He.ga K "hinders")) = true := HX.Look.bit c 29 rfl
  have a_moved : PySem.W.nsIn K mainGlobals "moved" = some (some (.ref (He.ga K "moved"))) := HX.Look.eq c 30 rfl
  obtain ⟨_, _, _, _, _, _, _, _, _, l_moved, c_moved⟩ := HX.fd_plain (d := fd10) rfl (HX.Look.def_ c 10 rfl) (HX.Look.bit c 31 rfl)
  have k_moved : PySem.W.keepIn K (.ref (He.ga K "moved")) = true := HX.Look.bit c 32 rfl
  have a_bars_against : PySem.W.nsIn K mainGlobals "bars_against" = some (some (.ref (He.ga K "bars_against"))) := HX.Look.eq c 33 rfl
  obtain ⟨_, _, _, _, _, _, _, _, _, l_bars_against, c_bars_against⟩ := HX.fd_plain (d := fd11) rfl (HX.Look.def_ c 11 rfl) (HX.Look.bit c 34 rfl)
  have k_bars_against : PySem.W.keepIn K (.ref (He.ga K "bars_against")) = true := HX.Look.bit c 35 rfl
  have a_goes : PySem.W.nsIn K mainGlobals "goes" = some (some (.ref (He.ga K "goes"))) := HX.Look.eq c 36 rfl
  obtain ⟨_, _, _, _, _, _, _, _, _, l_goes, c_goes⟩ := HX.fd_plain (d := fd12) rfl (HX.Look.def_ c 12 rfl) (HX.Look.bit c 37 rfl)
  have k_goes : PySem.W.keepIn K (.ref (He.ga K "goes")) = true := HX.Look.bit c 38 rfl
  have a_free_drawers : PySem.W.nsIn K mainGlobals "free_drawers" = some (some (.ref (He.ga K "free_drawers"))) := HX.Look.eq c 39 rfl
  obtain ⟨_, _, _, _, _, _, _, _, _, l_free_drawers, c_free_drawers⟩ := HX.fd_plain (d := fd13) rfl (HX.Look.def_ c 13 rfl) (HX.Look.bit c 40 rfl)
  have k_free_drawers : PySem.W.keepIn K (.ref (He.ga K "free_drawers")) = true := HX.Look.bit c 41 rfl
  have a__law_hold : PySem.W.nsIn K mainGlobals "_law_hold" = some (some (.ref (He.ga K "_law_hold"))) := HX.Look.eq c 42 rfl
  obtain ⟨_, _, _, _, _, _, _, _, _, l__law_hold, c__law_hold⟩ := HX.fd_plain (d := fd14) rfl (HX.Look.def_ c 14 rfl) (HX.Look.bit c 43 rfl)
  have k__law_hold : PySem.W.keepIn K (.ref (He.ga K "_law_hold")) = true := HX.Look.bit c 44 rfl
  have a__law_free : PySem.W.nsIn K mainGlobals "_law_free" = some (some (.ref (He.ga K "_law_free"))) := HX.Look.eq c 45 rfl
  obtain ⟨_, _, _, _, _, _, _, _, _, l__law_free, c__law_free⟩ := HX.fd_plain (d := fd15) rfl (HX.Look.def_ c 15 rfl) (HX.Look.bit c 46 rfl)
  have k__law_free : PySem.W.keepIn K (.ref (He.ga K "_law_free")) = true := HX.Look.bit c 47 rfl
  have a__law_moved : PySem.W.nsIn K mainGlobals "_law_moved" = some (some (.ref (He.ga K "_law_moved"))) := HX.Look.eq c 48 rfl
  obtain ⟨_, _, _, _, _, _, _, _, _, l__law_moved, c__law_moved⟩ := HX.fd_plain (d := fd16) rfl (HX.Look.def_ c 16 rfl) (HX.Look.bit c 49 rfl)
  have k__law_moved : PySem.W.keepIn K (.ref (He.ga K "_law_moved")) = true := HX.Look.bit c 50 rfl
  have a_check_cabinet : PySem.W.nsIn K mainGlobals "check_cabinet" = some (some (.ref (He.ga K "check_cabinet"))) := HX.Look.eq c 51 rfl
  obtain ⟨_, _, _, _, _, _, _, _, _, l_check_cabinet, c_check_cabinet⟩ := HX.fd_plain (d := fd17) rfl (HX.Look.def_ c 17 rfl) (HX.Look.bit c 52 rfl)
  have k_check_cabinet : PySem.W.keepIn K (.ref (He.ga K "check_cabinet")) = true := HX.Look.bit c 53 rfl
  have a_first_standing : PySem.W.nsIn K mainGlobals "first_standing" = some (some (.ref (He.ga K "first_standing"))) := HX.Look.eq c 54 rfl
  obtain ⟨_, _, _, _, _, _, _, _, _, l_first_standing, c_first_standing⟩ := HX.fd_plain (d := fd18) rfl (HX.Look.def_ c 18 rfl) (HX.Look.bit c 55 rfl)
  have k_first_standing : PySem.W.keepIn K (.ref (He.ga K "first_standing")) = true := HX.Look.bit c 56 rfl
  have a_fits : PySem.W.nsIn K mainGlobals "fits" = some (some (.ref (He.ga K "fits"))) := HX.Look.eq c 57 rfl
  obtain ⟨_, _, _, _, _, _, _, _, _, l_fits, c_fits⟩ := HX.fd_plain (d := fd19) rfl (HX.Look.def_ c 19 rfl) (HX.Look.bit c 58 rfl)
  have k_fits : PySem.W.keepIn K (.ref (He.ga K "fits")) = true := HX.Look.bit c 59 rfl
  have a_rows_from : PySem.W.nsIn K mainGlobals "rows_from" = some (some (.ref (He.ga K "rows_from"))) := HX.Look.eq c 60 rfl
  obtain ⟨_, _, _, _, _, _, _, _, _, l_rows_from, c_rows_from⟩ := HX.fd_plain (d := fd20) rfl (HX.Look.def_ c 20 rfl) (HX.Look.bit c 61 rfl)
  have k_rows_from : PySem.W.keepIn K (.ref (He.ga K "rows_from")) = true := HX.Look.bit c 62 rfl
  have a_first_rows : PySem.W.nsIn K mainGlobals "first_rows" = some (some (.ref (He.ga K "first_rows"))) := HX.Look.eq c 63 rfl
  obtain ⟨_, _, _, _, _, _, _, _, _, l_first_rows, c_first_rows⟩ := HX.fd_plain (d := fd21) rfl (HX.Look.def_ c 21 rfl) (HX.Look.bit c 64 rfl)
  have k_first_rows : PySem.W.keepIn K (.ref (He.ga K "first_rows")) = true := HX.Look.bit c 65 rfl
  have a__law_rows : PySem.W.nsIn K mainGlobals "_law_rows" = some (some (.ref (He.ga K "_law_rows"))) := HX.Look.eq c 66 rfl
  obtain ⟨_, _, _, _, _, _, _, _, _, l__law_rows, c__law_rows⟩ := HX.fd_plain (d := fd22) rfl (HX.Look.def_ c 22 rfl) (HX.Look.bit c 67 rfl)
  have k__law_rows : PySem.W.keepIn K (.ref (He.ga K "_law_rows")) = true := HX.Look.bit c 68 rfl
  have a_is_set : PySem.W.nsIn K mainGlobals "is_set" = some (some (.ref (He.ga K "is_set"))) := HX.Look.eq c 69 rfl
  obtain ⟨_, _, _, _, _, _, _, _, _, l_is_set, c_is_set⟩ := HX.fd_plain (d := fd23) rfl (HX.Look.def_ c 23 rfl) (HX.Look.bit c 70 rfl)
  have k_is_set : PySem.W.keepIn K (.ref (He.ga K "is_set")) = true := HX.Look.bit c 71 rfl
  have a_open_pattern : PySem.W.nsIn K mainGlobals "open_pattern" = some (some (.ref (He.ga K "open_pattern"))) := HX.Look.eq c 72 rfl
  obtain ⟨_, _, _, _, _, _, _, _, _, l_open_pattern, c_open_pattern⟩ := HX.fd_plain (d := fd24) rfl (HX.Look.def_ c 24 rfl) (HX.Look.bit c 73 rfl)
  have k_open_pattern : PySem.W.keepIn K (.ref (He.ga K "open_pattern")) = true := HX.Look.bit c 74 rfl
  have a_any_fits : PySem.W.nsIn K mainGlobals "any_fits" = some (some (.ref (He.ga K "any_fits"))) := HX.Look.eq c 75 rfl
  obtain ⟨_, _, _, _, _, _, _, _, _, l_any_fits, c_any_fits⟩ := HX.fd_plain (d := fd25) rfl (HX.Look.def_ c 25 rfl) (HX.Look.bit c 76 rfl)
  have k_any_fits : PySem.W.keepIn K (.ref (He.ga K "any_fits")) = true := HX.Look.bit c 77 rfl
  have a_is_pair : PySem.W.nsIn K mainGlobals "is_pair" = some (some (.ref (He.ga K "is_pair"))) := HX.Look.eq c 78 rfl
  obtain ⟨_, _, _, _, _, _, _, _, _, l_is_pair, c_is_pair⟩ := HX.fd_plain (d := fd26) rfl (HX.Look.def_ c 26 rfl) (HX.Look.bit c 79 rfl)
  have k_is_pair : PySem.W.keepIn K (.ref (He.ga K "is_pair")) = true := HX.Look.bit c 80 rfl
  have a_check_pairs : PySem.W.nsIn K mainGlobals "check_pairs" = some (some (.ref (He.ga K "check_pairs"))) := HX.Look.eq c 81 rfl
  obtain ⟨_, _, _, _, _, _, _, _, _, l_check_pairs, c_check_pairs⟩ := HX.fd_plain (d := fd27) rfl (HX.Look.def_ c 27 rfl) (HX.Look.bit c 82 rfl)
  have k_check_pairs : PySem.W.keepIn K (.ref (He.ga K "check_pairs")) = true := HX.Look.bit c 83 rfl
  have a_check_number : PySem.W.nsIn K mainGlobals "check_number" = some (some (.ref (He.ga K "check_number"))) := HX.Look.eq c 84 rfl
  obtain ⟨_, _, _, _, _, _, _, _, _, l_check_number, c_check_number⟩ := HX.fd_plain (d := fd28) rfl (HX.Look.def_ c 28 rfl) (HX.Look.bit c 85 rfl)
  have k_check_number : PySem.W.keepIn K (.ref (He.ga K "check_number")) = true := HX.Look.bit c 86 rfl
  have a_check_few_drawers : PySem.W.nsIn K mainGlobals "check_few_drawers" = some (some (.ref (He.ga K "check_few_drawers"))) := HX.Look.eq c 87 rfl
  obtain ⟨_, _, _, _, _, _, _, _, _, l_check_few_drawers, c_check_few_drawers⟩ := HX.fd_plain (d := fd29) rfl (HX.Look.def_ c 29 rfl) (HX.Look.bit c 88 rfl)
  have k_check_few_drawers : PySem.W.keepIn K (.ref (He.ga K "check_few_drawers")) = true := HX.Look.bit c 89 rfl
  have a_all_bars : PySem.W.nsIn K mainGlobals "all_bars" = some (some (.ref (He.ga K "all_bars"))) := HX.Look.eq c 90 rfl
  obtain ⟨_, _, _, _, _, _, _, _, _, l_all_bars, c_all_bars⟩ := HX.fd_plain (d := fd30) rfl (HX.Look.def_ c 30 rfl) (HX.Look.bit c 91 rfl)
  have k_all_bars : PySem.W.keepIn K (.ref (He.ga K "all_bars")) = true := HX.Look.bit c 92 rfl
  have a_reached_pulls : PySem.W.nsIn K mainGlobals "reached_pulls" = some (some (.ref (He.ga K "reached_pulls"))) := HX.Look.eq c 93 rfl
  obtain ⟨_, _, _, _, _, _, _, _, _, l_reached_pulls, c_reached_pulls⟩ := HX.fd_plain (d := fd31) rfl (HX.Look.def_ c 31 rfl) (HX.Look.bit c 94 rfl)
  have k_reached_pulls : PySem.W.keepIn K (.ref (He.ga K "reached_pulls")) = true := HX.Look.bit c 95 rfl
  have a_reached_beside : PySem.W.nsIn K mainGlobals "reached_beside" = some (some (.ref (He.ga K "reached_beside"))) := HX.Look.eq c 96 rfl
  obtain ⟨_, _, _, _, _, _, _, _, _, l_reached_beside, c_reached_beside⟩ := HX.fd_plain (d := fd32) rfl (HX.Look.def_ c 32 rfl) (HX.Look.bit c 97 rfl)
  have k_reached_beside : PySem.W.keepIn K (.ref (He.ga K "reached_beside")) = true := HX.Look.bit c 98 rfl
  have a_is_guarded : PySem.W.nsIn K mainGlobals "is_guarded" = some (some (.ref (He.ga K "is_guarded"))) := HX.Look.eq c 99 rfl
  obtain ⟨_, _, _, _, _, _, _, _, _, l_is_guarded, c_is_guarded⟩ := HX.fd_plain (d := fd33) rfl (HX.Look.def_ c 33 rfl) (HX.Look.bit c 100 rfl)
  have k_is_guarded : PySem.W.keepIn K (.ref (He.ga K "is_guarded")) = true := HX.Look.bit c 101 rfl
  have a_guards : PySem.W.nsIn K mainGlobals "guards" = some (some (.ref (He.ga K "guards"))) := HX.Look.eq c 102 rfl
  obtain ⟨_, _, _, _, _, _, _, _, _, l_guards, c_guards⟩ := HX.fd_plain (d := fd34) rfl (HX.Look.def_ c 34 rfl) (HX.Look.bit c 103 rfl)
  have k_guards : PySem.W.keepIn K (.ref (He.ga K "guards")) = true := HX.Look.bit c 104 rfl
  have a__law_all_bars : PySem.W.nsIn K mainGlobals "_law_all_bars" = some (some (.ref (He.ga K "_law_all_bars"))) := HX.Look.eq c 105 rfl
  obtain ⟨_, _, _, _, _, _, _, _, _, l__law_all_bars, c__law_all_bars⟩ := HX.fd_plain (d := fd35) rfl (HX.Look.def_ c 35 rfl) (HX.Look.bit c 106 rfl)
  have k__law_all_bars : PySem.W.keepIn K (.ref (He.ga K "_law_all_bars")) = true := HX.Look.bit c 107 rfl
  have a__law_subsets : PySem.W.nsIn K mainGlobals "_law_subsets" = some (some (.ref (He.ga K "_law_subsets"))) := HX.Look.eq c 108 rfl
  obtain ⟨_, _, _, _, _, _, _, _, _, l__law_subsets, c__law_subsets⟩ := HX.fd_plain (d := fd36) rfl (HX.Look.def_ c 36 rfl) (HX.Look.bit c 109 rfl)
  have k__law_subsets : PySem.W.keepIn K (.ref (He.ga K "_law_subsets")) = true := HX.Look.bit c 110 rfl
  have a__law_good : PySem.W.nsIn K mainGlobals "_law_good" = some (some (.ref (He.ga K "_law_good"))) := HX.Look.eq c 111 rfl
  obtain ⟨_, _, _, _, _, _, _, _, _, l__law_good, c__law_good⟩ := HX.fd_plain (d := fd37) rfl (HX.Look.def_ c 37 rfl) (HX.Look.bit c 112 rfl)
  have k__law_good : PySem.W.keepIn K (.ref (He.ga K "_law_good")) = true := HX.Look.bit c 113 rfl
  have a_law : PySem.W.nsIn K mainGlobals "law" = some (some (.ref (He.ga K "law"))) := HX.Look.eq c 114 rfl
  obtain ⟨_, _, _, _, _, _, _, _, _, l_law, c_law⟩ := HX.fd_plain (d := fd38) rfl (HX.Look.def_ c 38 rfl) (HX.Look.bit c 115 rfl)
  have k_law : PySem.W.keepIn K (.ref (He.ga K "law")) = true := HX.Look.bit c 116 rfl
  have aC : PySem.W.nsIn K mainGlobals "Cabinet" = some (some (.ref (He.ga K "Cabinet"))) := HX.Look.eq c 117 rfl
  have pg : PySem.W.plainGet K (He.ga K "Cabinet") Str.empty = true := HX.Look.bit c 118 rfl
  have hd : PySem.W.hasDictIn K (He.ga K "Cabinet") = true := HX.Look.bit c 119 rfl
  have po : PySem.W.plainOver K (He.ga K "Cabinet") = true := HX.Look.bit c 120 rfl
  have sa : PySem.W.findIn K (.ref (He.ga K "Cabinet")) "__setattr__" = some (some (.builtin "object.__setattr__")) := HX.Look.eq c 121 rfl
  have mk : PySem.W.makesIn K (He.ga K "Cabinet") = true := HX.Look.bit c 122 rfl
  have kc : PySem.W.keepIn K (.ref (He.ga K "Cabinet")) = true := HX.Look.bit c 123 rfl
  have nD : PySem.W.findIn K (.ref (He.ga K "Cabinet")) "_drawers" = some none := HX.Look.eq c 124 rfl
  have nB : PySem.W.findIn K (.ref (He.ga K "Cabinet")) "_bars" = some none := HX.Look.eq c 125 rfl
  have a_Cabinet___init__ : PySem.W.findIn K (.ref (He.ga K "Cabinet")) "__init__" = some (some (.ref (He.ma K (He.ga K "Cabinet") "__init__"))) := HX.Look.eq c 126 rfl
  obtain ⟨_, _, _, _, _, _, _, _, _, l_Cabinet___init__, c_Cabinet___init__⟩ := HX.fd_plain (d := fd39) rfl (HX.Look.def_ c 39 rfl) (HX.Look.bit c 127 rfl)
  have k_Cabinet___init__ : PySem.W.keepIn K (.ref (He.ma K (He.ga K "Cabinet") "__init__")) = true := HX.Look.bit c 128 rfl
  have i_init : PySem.W.isFn K (.ref (He.ma K (He.ga K "Cabinet") "__init__")) = true := HX.Look.bit c 129 rfl
  have pa_drawers : PySem.W.findIn K (.ref (He.ga K "Cabinet")) "drawers" = some (some (.ref (He.ma K (He.ga K "Cabinet") "drawers"))) := HX.Look.eq c 130 rfl
  have pg_drawers : PySem.W.specialIn K (.ref (He.ma K (He.ga K "Cabinet") "drawers")) "__get__" = some (some (.builtin "property.__get__")) := HX.Look.eq c 131 rfl
  have pt_drawers : PySem.W.takesIn K (.ref (He.ma K (He.ga K "Cabinet") "drawers")) = some true := HX.Look.eq c 132 rfl
  have pr_drawers := HX.pr_ok (HX.Look.bit c 133 rfl)
  obtain ⟨_, _, _, _, _, _, _, _, _, l_Cabinet_drawers, c_Cabinet_drawers⟩ := HX.fd_plain (d := fd40) rfl (HX.Look.def_ c 40 rfl) (HX.Look.bit c 134 rfl)
  have k_Cabinet_drawers : PySem.W.keepIn K (.ref (HX.prA K (He.ma K (He.ga K "Cabinet") "drawers"))) = true := HX.Look.bit c 135 rfl
  have pa_bars : PySem.W.findIn K (.ref (He.ga K "Cabinet")) "bars" = some (some (.ref (He.ma K (He.ga K "Cabinet") "bars"))) := HX.Look.eq c 136 rfl
  have pg_bars : PySem.W.specialIn K (.ref (He.ma K (He.ga K "Cabinet") "bars")) "__get__" = some (some (.builtin "property.__get__")) := HX.Look.eq c 137 rfl
  have pt_bars : PySem.W.takesIn K (.ref (He.ma K (He.ga K "Cabinet") "bars")) = some true := HX.Look.eq c 138 rfl
  have pr_bars := HX.pr_ok (HX.Look.bit c 139 rfl)
  obtain ⟨_, _, _, _, _, _, _, _, _, l_Cabinet_bars, c_Cabinet_bars⟩ := HX.fd_plain (d := fd41) rfl (HX.Look.def_ c 41 rfl) (HX.Look.bit c 140 rfl)
  have k_Cabinet_bars : PySem.W.keepIn K (.ref (HX.prA K (He.ma K (He.ga K "Cabinet") "bars"))) = true := HX.Look.bit c 141 rfl
  have ci1 : PySem.W.findIn K (.ref (He.ga K "Cabinet")) "__class__" = some (some (.builtin "object.__class__")) := HX.Look.eq c 142 rfl
  have ci2 : PySem.W.specialIn K (.builtin "object.__class__") "__get__" = some (some (.builtin "getset_descriptor.__get__")) := HX.Look.eq c 143 rfl
  have ci3 : PySem.W.takesIn K (.builtin "object.__class__") = some true := HX.Look.eq c 144 rfl
  have ci4 : PySem.W.mroIn K (He.ga K "Cabinet") (.type "object") = some true := HX.Look.eq c 145 rfl
  have ci5 : PySem.W.kitOne K (.ref (He.ga K "Cabinet")) (.ref (He.ga K "Cabinet")) = some true := HX.Look.eq c 146 rfl
  have z_isinstance : PySem.W.nsIn K mainGlobals "isinstance" = some none := HX.Look.eq c 147 rfl
  have z_int : PySem.W.nsIn K mainGlobals "int" = some none := HX.Look.eq c 148 rfl
  have z_bool : PySem.W.nsIn K mainGlobals "bool" = some none := HX.Look.eq c 149 rfl
  have z_tuple : PySem.W.nsIn K mainGlobals "tuple" = some none := HX.Look.eq c 150 rfl
  have z_len : PySem.W.nsIn K mainGlobals "len" = some none := HX.Look.eq c 151 rfl
  have z_enumerate : PySem.W.nsIn K mainGlobals "enumerate" = some none := HX.Look.eq c 152 rfl
  have z_range : PySem.W.nsIn K mainGlobals "range" = some none := HX.Look.eq c 153 rfl
  have z_sorted : PySem.W.nsIn K mainGlobals "sorted" = some none := HX.Look.eq c 154 rfl
  have z_any : PySem.W.nsIn K mainGlobals "any" = some none := HX.Look.eq c 155 rfl
  have z_list : PySem.W.nsIn K mainGlobals "list" = some none := HX.Look.eq c 156 rfl
  have z_all : PySem.W.nsIn K mainGlobals "all" = some none := HX.Look.eq c 157 rfl
  have z_zip : PySem.W.nsIn K mainGlobals "zip" = some none := HX.Look.eq c 158 rfl
  have z_min : PySem.W.nsIn K mainGlobals "min" = some none := HX.Look.eq c 159 rfl
  obtain ⟨_, aM⟩ := HX.int_ok (HX.Look.bit c 160 rfl)
  have aW : PySem.W.nsIn K mainGlobals "WORDS" = some (some (.ref (He.ga K "WORDS"))) := HX.Look.eq c 161 rfl
  obtain ⟨_, _, _, _, _, lW⟩ := HX.tup2_ok (HX.Look.bit c 162 rfl)
  have aS : PySem.W.nsIn K mainGlobals "SIGNS" = some (some (.ref (He.ga K "SIGNS"))) := HX.Look.eq c 163 rfl
  obtain ⟨_, _, lS, kS⟩ := HX.Look.dic c
  obtain ⟨_, oS⟩ := HX.str_ok (HX.Look.bit c 164 rfl)
  obtain ⟨_, sS⟩ := HX.str_ok (HX.Look.bit c 165 rfl)
  have aCM : PySem.W.nsIn K mainGlobals "combinations" = some (some (.type "itertools.combinations")) := HX.Look.eq c 166 rfl
  obtain ⟨_, aMG⟩ := HX.int_ok (HX.Look.bit c 167 rfl)
  obtain ⟨_, aMA⟩ := HX.int_ok (HX.Look.bit c 168 rfl)
  exact DL.all_mk (l := PySem.Challenge.rw_drawerlocks_k16_whole_guards) KX G hmg a_is_integer l_is_integer c_is_integer k_is_integer a_is_drawer_count l_is_drawer_count c_is_drawer_count k_is_drawer_count a_is_drawer l_is_drawer c_is_drawer k_is_drawer a_is_bar l_is_bar c_is_bar k_is_bar a_check_drawers l_check_drawers c_check_drawers k_check_drawers a_check_bars l_check_bars c_check_bars k_check_bars a__law_taken l__law_taken c__law_taken k__law_taken a__law_parts l__law_parts c__law_parts k__law_parts a__law_made l__law_made c__law_made k__law_made a_hinders l_hinders c_hinders k_hinders a_moved l_moved c_moved k_moved a_bars_against l_bars_against c_bars_against k_bars_against a_goes l_goes c_goes k_goes a_free_drawers l_free_drawers c_free_drawers k_free_drawers a__law_hold l__law_hold c__law_hold k__law_hold a__law_free l__law_free c__law_free k__law_free a__law_moved l__law_moved c__law_moved k__law_moved a_check_cabinet l_check_cabinet c_check_cabinet k_check_cabinet a_first_standing l_first_standing c_first_standing k_first_standing a_fits l_fits c_fits k_fits a_rows_from l_rows_from c_rows_from k_rows_from a_first_rows l_first_rows c_first_rows k_first_rows a__law_rows l__law_rows c__law_rows k__law_rows a_is_set l_is_set c_is_set k_is_set a_open_pattern l_open_pattern c_open_pattern k_open_pattern a_any_fits l_any_fits c_any_fits k_any_fits a_is_pair l_is_pair c_is_pair k_is_pair a_check_pairs l_check_pairs c_check_pairs k_check_pairs a_check_number l_check_number c_check_number k_check_number a_check_few_drawers l_check_few_drawers c_check_few_drawers k_check_few_drawers a_all_bars l_all_bars c_all_bars k_all_bars a_reached_pulls l_reached_pulls c_reached_pulls k_reached_pulls a_reached_beside l_reached_beside c_reached_beside k_reached_beside a_is_guarded l_is_guarded c_is_guarded k_is_guarded a_guards l_guards c_guards k_guards a__law_all_bars l__law_all_bars c__law_all_bars k__law_all_bars a__law_subsets l__law_subsets c__law_subsets k__law_subsets a__law_good l__law_good c__law_good k__law_good a_law l_law c_law k_law aC pg hd po sa mk kc nD nB a_Cabinet___init__ l_Cabinet___init__ c_Cabinet___init__ k_Cabinet___init__ i_init pa_drawers pg_drawers pt_drawers pr_drawers l_Cabinet_drawers c_Cabinet_drawers k_Cabinet_drawers pa_bars pg_bars pt_bars pr_bars l_Cabinet_bars c_Cabinet_bars k_Cabinet_bars ci1 ci2 ci3 ci4 ci5 z_isinstance z_int z_bool z_tuple z_len z_enumerate z_range z_sorted z_any z_list z_all z_zip z_min aM aW lW aS lS kS oS sS aCM aMG aMA
end HDG
open PySem PySem.W PySem.Calls PyProof.Rows
theorem PySem.Challenge.cw_drawerlocks_k16_whole_guards_holds : PySem.Challenge.rw_drawerlocks_k16_whole_guards.Holds := by
  w_on; o_law
  refine HandSHeadRun.head_imp (r := OpenLaw.row PySem.Challenge.rw_drawerlocks_k16_whole_guards) (q := view (OpenLaw.row PySem.Challenge.rw_drawerlocks_k16_whole_guards).prog [0, 59]) (H := HDG.hk) (ob := HDG.ob) (M := 60000) (loose := HDG.loose) (d := HandSHeadRun.topDef (OpenLaw.row PySem.Challenge.rw_drawerlocks_k16_whole_guards).prog 59) (kwd := []) HDG.ob_eq
    HDG.run (by kernel_rfl) (by kernel_rfl) (by kernel_rfl) (by rfl) (by first | assumption | decide +kernel) (by decide +kernel) ⟨rfl, rfl, rfl, rfl, rfl, by decide +kernel⟩ ?hw ?hc
  case hw => w_witness2
  case hc =>
    refine L2.walk_ofE (l := PySem.Challenge.rw_drawerlocks_k16_whole_guards) (n := 63) (k := 20) (x := "_law_script") (CX := L2.CX0) rfl (by decide) (by kernel_rfl) ⟨rfl, by decide, by decide⟩ ?F (fun _ _ _ _ z => z)
    intro w mg fa h Y G hmg0
    obtain ⟨K, KX, c⟩ := Y
    have hmg : mg ("law" : PySem.Str) = some (.ref fa) := by
      have e : (HandSHeadRun.topDef (OpenLaw.row PySem.Challenge.rw_drawerlocks_k16_whole_guards).prog 59).name = ("law" : PySem.Str) := by kernel_rfl
      rw [← e]
      exact hmg0
    obtain ⟨fd, hb, hF⟩ := HDG.facts (w := w) KX G hmg c
    exact ⟨K, fd, DL.spLaw K, KX, hb, fun H a ns hl _ hS => ⟨a, ns, rfl, hS, hl, fun _ => rfl⟩, hF⟩
