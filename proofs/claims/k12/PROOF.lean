import PyProof.Rows.All
import Wide.All
import OpenK.AllK
import Wide.FinOn
import HandS.ForMost
import HandS.ForExc
import HandS.TupLe
import HandS.TupAny
import HandS.SortOrd
import HandS.SortRule
import HandS.IsInst
import HandS.Conv
import HandS.Wide
import HandS.Property
import HandS.Deep
import HandS.Walk
import HandS.Zip
import HandS.Flow
import KE.GoesEnum
import PySem.Challenge.RW_drawerlocks_k12_whole_likeness
import HandS.Replace
import HandS.More
import HandS.TryOnly
import KE.GoesZip
import HandS.Star
import PyProof.Rows.SortShellAny
import KE.DataMinMax
import PyProof.Rows.StrMeet
import KE.KSuper
import KE.KExcSuper
import HandS.ClsMeth
import HandS.ExcInit
import HandS.WordsExc
import HandS.FStr
import HandS.SlotsOwn
import HandS.ExcOwn
import HandS.TryMany
import HandS.ExcField
import HandS.DictComp
import HandS.DictSubView
import HandS.Codes
import HandS.SetKeys
import HandS.SetBool
import HandS.Strs
import HandS.TupSets
import HandS.SetFor
import HandS.SortKw
import KE.GoesEnumKw
import KE.KDictZip
import PyProof.ZipIter
import HandS.ExcValue
import HandS.TupMul
import HandS.Head0
import HandS.Head1
import HandS.Head2
import HandS.HeadEnd
import HandS.HeadHook1
import HandS.HeadHook2
import KE.KExcInit
import HandS.Head3
set_option Elab.async false
set_option maxRecDepth 100000
namespace DL
open PySem PySem.Spec PyProof.Rows L2
/-! ### bars: four parts; the words as truth values (true: shut) -/
structure Bar where
  d : Int
  w : Bool
  o : Int
  t : Bool
deriving DecidableEq
def wd (b : Bool) : Str := if b = true then "shut" else "open"
theorem wd_inj : ∀ {a b : Bool}, wd a = wd b → a = b := by decide +kernel
theorem wd_lt : ∀ a b : Bool, decide ((wd a).cps.toList < (wd b).cps.toList) = (!a && b) := by decide +kernel
theorem wd_dec : ∀ a : Bool, decide (wd a = "shut") = a := by decide +kernel
def Bar.key (b : Bar) : List Key := [.inl b.d, .inr (wd b.w), .inl b.o, .inr (wd b.t)]
def Bar.vs (b : Bar) : List V := [.int b.d, .str (wd b.w), .int b.o, .str (wd b.t)]
theorem Bar.key_vs (b : Bar) : b.key.map kV = b.vs := rfl
def b2n (b : Bool) : Int := if b = true then 1 else 0
theorem b2n_le (b : Bool) : 0 ≤ b2n b ∧ b2n b ≤ 1 := by cases b <;> decide
theorem b2n_inj {a b : Bool} (h : b2n a = b2n b) : a = b := by revert h; revert a b; decide
def Bar.code (b : Bar) : Int := ((b.d * 2 + b2n b.w) * 8 + b.o) * 2 + b2n b.t
/-- the parts lie where a bar of at most eight drawers has them -/
def Bar.low (b : Bar) : Prop := 0 ≤ b.d ∧ b.d < 8 ∧ 0 ≤ b.o ∧ b.o < 8
theorem Bar.ext4 {a b : Bar} (h1 : a.d = b.d) (h2 : a.w = b.w) (h3 : a.o = b.o) (h4 : a.t = b.t) : a = b := by
  cases a; cases b; simp only at h1 h2 h3 h4; subst h1 h2 h3 h4; rfl
theorem Bar.code_inj {a b : Bar} (ha : a.low) (hb : b.low) (h : a.code = b.code) : a = b := by
  unfold Bar.low at ha hb
  unfold Bar.code at h
  have w1 := b2n_le a.w; have w2 := b2n_le b.w; have t1 := b2n_le a.t; have t2 := b2n_le b.t
  exact Bar.ext4 (by omega) (b2n_inj (by omega)) (by omega) (b2n_inj (by omega))
/-- what a < b of two such tuples comes to -/
def Bar.ltb (a b : Bar) : Bool := if a.d = b.d then (if a.w = b.w then (if a.o = b.o then (!a.t && b.t) else decide (a.o < b.o)) else (!a.w && b.w)) else decide (a.d < b.d)
theorem Bar.ltb_code {a b : Bar} (ha : a.low) (hb : b.low) : a.ltb b = decide (a.code < b.code) := by
  obtain ⟨ad, aw, ao, at'⟩ := a
  obtain ⟨bd, bw, bo, bt⟩ := b
  unfold Bar.low at ha hb
  unfold Bar.ltb Bar.code b2n
  simp only at ha hb ⊢
  by_cases h1 : ad = bd
  · rw [if_pos h1]
    by_cases h2 : aw = bw
    · rw [if_pos h2]
      by_cases h3 : ao = bo
      · rw [if_pos h3]
        subst h1 h2 h3
        cases at' <;> cases bt <;> simp <;> omega
      · rw [if_neg h3]
        subst h1 h2
        cases at' <;> cases bt <;> simp <;> omega
    · rw [if_neg h2]
      subst h1
      cases aw <;> cases bw <;> cases at' <;> cases bt <;> simp at h2 ⊢ <;> omega
  · rw [if_neg h1]
    cases aw <;> cases bw <;> cases at' <;> cases bt <;> simp <;> omega
/-- a bar read back -/
def barOf : List V → Bar
  | [.int d, .str w, .int o, .str t] => ⟨d, decide (w = "shut"), o, decide (t = "shut")⟩
  | _ => ⟨0, false, 0, false⟩
theorem barOf_vs (b : Bar) : barOf b.vs = b := by
  show (⟨b.d, decide (wd b.w = "shut"), b.o, decide (wd b.t = "shut")⟩ : Bar) = b
  rw [wd_dec, wd_dec]
/-- the bar that stands at an address of the heap -/
def barAt (H : Hp) : V → Bar
  | .ref a => (match H a with | some (.tup xs) => barOf xs | _ => ⟨0, false, 0, false⟩)
  | _ => ⟨0, false, 0, false⟩
theorem barAt_of {H : Hp} {a : Addr} {b : Bar} (h : H a = some (.tup b.vs)) : barAt H (.ref a) = b := by
  show (match H a with | some (.tup xs) => barOf xs | _ => ⟨0, false, 0, false⟩) = b
  rw [h]; exact barOf_vs b
/-! ### sorted(d), d a dict whose keys are such tuples -/
def IsBarV (h : Heap) (v : Value) (b : Bar) : Prop := ∃ a o t1 t2 t3 t4 n, v = .ref a ∧ h.get? a = some o ∧ o.cls = .type "tuple" ∧ o.data = .seq #[.int b.d t1, .str (wd b.w) t2, .int b.o t3, .str (wd b.t) t4] n
theorem IsBarV.keeps {h h' : Heap} {v : Value} {b : Bar} (p : IsBarV h v b) (k : ∀ c o, h.get? c = some o → o.cls = .type "tuple" → h'.get? c = some o) : IsBarV h' v b := by
  obtain ⟨a, o, t1, t2, t3, t4, n, e, ho, hc, hd⟩ := p
  exact ⟨a, o, t1, t2, t3, t4, n, e, k _ _ ho hc, hc, hd⟩
section
variable {prog : Program} {w : World} {A : Around} {E : Value → Shared → Prop} {s : Shared}
theorem oneLt_words (c : Bool) {p q : Str} {t u : Tok} {Q : Bool → Shared → Prop} (h : c = false) (hq : Q (decide (p.cps.toList < q.cps.toList)) s) : wpAny (model prog w) A (oneLt' c (.str p t) (.str q u)) Q E s := by
  subst h
  exact PySem.W.kat_one _ _ (PyProof.Rows.lt_str hq)
theorem bar_cmp {vs : List Value} {kb : Value → Bar} (hp : ∀ v ∈ vs, IsBarV s.heap v (kb v) ∧ (kb v).low) : SrtO.Cmp prog w A s (tuples' true) (fun p => p.1 ∈ vs) (SrtO.lt2 fun v u => decide ((kb v).code < (kb u).code)) := by
  intro p q hm hm'
  obtain ⟨h1, l1⟩ := hp _ hm
  obtain ⟨h2, l2⟩ := hp _ hm'
  show wpAny (model prog w) A (keyLt' (tuples' true) p.1 q.1) (fun r s' => s' = s ∧ r = decide ((kb p.1).code < (kb q.1).code)) (fun _ _ => False) s
  generalize kb p.1 = x at h1 l1 ⊢
  generalize kb q.1 = y at h2 l2 ⊢
  rw [← Bar.ltb_code l1 l2]
  obtain ⟨a, o, t1, t2, t3, t4, n, e, ho, hc, hd⟩ := h1
  obtain ⟨a', o', t1', t2', t3', t4', n', e', ho', hc', hd'⟩ := h2
  rw [e, e']
  refine PySem.W.kat_lt ho hd ho' hd' ?_
  show PySem.W.KatLex prog w A true (decide (4 < 4)) _ [(.int x.d t1, .int y.d t1'), (.str (wd x.w) t2, .str (wd y.w) t2'), (.int x.o t3, .int y.o t3'), (.str (wd x.t) t4, .str (wd y.t) t4')] 0 s
  refine PySem.W.kat_cons (SeqAt.EqAt.int_int x.d t1 y.d t1' prog w _ _ ?_)
  refine PySem.W.kat_go (fun e1 => ?_) (fun e1 => ?_)
  · have e1' : x.d = y.d := by simpa using e1
    refine PySem.W.kat_yes (PySem.W.kat_cons (wpAny_eqBool_str ?_))
    refine PySem.W.kat_go (fun e2 => ?_) (fun e2 => ?_)
    · have e2' : x.w = y.w := wd_inj (by simpa using e2)
      refine PySem.W.kat_yes (PySem.W.kat_cons (SeqAt.EqAt.int_int x.o t3 y.o t3' prog w _ _ ?_))
      refine PySem.W.kat_go (fun e3 => ?_) (fun e3 => ?_)
      · have e3' : x.o = y.o := by simpa using e3
        refine PySem.W.kat_yes (PySem.W.kat_cons (wpAny_eqBool_str ?_))
        refine PySem.W.kat_go (fun e4 => ?_) (fun e4 => ?_)
        · have e4' : x.t = y.t := wd_inj (by simpa using e4)
          refine PySem.W.kat_yes (PySem.W.kat_nil ⟨rfl, ?_⟩)
          unfold Bar.ltb
          rw [if_pos e1', if_pos e2', if_pos e3', e4']
          cases y.t <;> rfl
        · refine PySem.W.kat_no (oneLt_words _ rfl ⟨rfl, ?_⟩)
          unfold Bar.ltb
          rw [if_pos e1', if_pos e2', if_pos e3', wd_lt]
      · have e3' : ¬ x.o = y.o := by simpa using e3
        refine PySem.W.kat_no (PySem.W.kat_one _ _ (PyProof.Rows.lt_int ?_))
        refine (show s = s ∧ decide (x.o < y.o) = x.ltb y from ⟨rfl, ?_⟩)
        unfold Bar.ltb
        rw [if_pos e1', if_pos e2', if_neg e3']
    · have e2' : ¬ x.w = y.w := fun z => by rw [z] at e2; simp at e2
      refine PySem.W.kat_no (oneLt_words _ rfl ⟨rfl, ?_⟩)
      unfold Bar.ltb
      rw [if_pos e1', if_neg e2', wd_lt]
  · have e1' : ¬ x.d = y.d := by simpa using e1
    refine PySem.W.kat_no (oneLt_int ⟨rfl, ?_⟩)
    unfold Bar.ltb
    rw [if_neg e1']
theorem bar_firsts {h : Heap} : ∀ {vs : List Value}, (∀ v ∈ vs, ∃ b, IsBarV h v b) → ∃ fs : List Value, PySem.W.KatTups h vs fs ∧ fs.length = vs.length ∧ ∀ f ∈ fs, ∃ x t, f = Value.int x t
  | [], _ => ⟨[], PySem.W.KatTups.nil, rfl, fun _ hm => by simp at hm⟩
  | v :: vs, hp => by
    obtain ⟨fs, h1, h2, h3⟩ := bar_firsts (vs := vs) fun v' hm => hp v' (List.mem_cons_of_mem _ hm)
    obtain ⟨b, a, o, t1, t2, t3, t4, n, e, ho, hc, hd⟩ := hp v (List.mem_cons_self ..)
    subst e
    refine ⟨.int b.d t1 :: fs, PySem.W.KatTups.cons ho hc hd rfl h1, by rw [List.length_cons, List.length_cons, h2], fun f hm => ?_⟩
    rcases List.mem_cons.mp hm with rfl | hm
    · exact ⟨b.d, t1, rfl⟩
    · exact h3 f hm
theorem swo_code (kb : Value → Bar) : SrtO.Swo fun v u => decide ((kb v).code < (kb u).code) := by
  refine ⟨fun x y h => ?_, fun x y z h1 h2 => ?_⟩
  · have a := of_decide_eq_true h
    exact decide_eq_false (by omega)
  · have a := of_decide_eq_false h1
    have b := of_decide_eq_false h2
    exact decide_eq_false (by omega)
theorem bars_sortableO {a : Addr} {vs : List Value} {kb : Value → Bar} (h0 : 0 < vs.length) (hp : ∀ v ∈ vs, IsBarV s.heap v (kb v) ∧ (kb v).low) (ha : ∀ o, s.heap.get? a = some o → o.cls ≠ .type "tuple") :
    SrtO.SortableO prog w A s a vs fun v u => decide ((kb v).code < (kb u).code) := by
  intro h' keep
  have hp' : ∀ v ∈ vs, IsBarV h' v (kb v) ∧ (kb v).low := fun v hm => ⟨(hp v hm).1.keeps fun b o e c => keep b o (fun z => by subst z; exact ha o e c) e, (hp v hm).2⟩
  obtain ⟨fs, h1, h2, h3⟩ := bar_firsts fun v hm => ⟨_, (hp' v hm).1⟩
  refine ⟨tuples' true, fun Q E hq => ?_, bar_cmp hp'⟩
  refine PySem.W.kat_kind (T := .type "int") h1 (by omega) (fun f hm => ?_) (by rfl) ?_
  · obtain ⟨x, t, rfl⟩ := h3 f hm
    exact PySem.W.Looks.now
  · have e : (Value.type "int" != Value.type "tuple") = true := by first | decide +kernel | rfl | decide
    rw [e]
    exact hq
end
/-- sorted(d): the keys' own tuples, by their codes -/
def rSortB : List V → Hp → VK → Prop := fun xs H Q => ∃ (d : Addr) (kvs : List (List Key × V)) (bs : List Bar), xs = [V.ref d] ∧ Rd H d (.dT kvs) ∧ kvs.map (·.1) = bs.map Bar.key ∧ (∀ b ∈ bs, b.low) ∧
  ∀ (ks : List (Addr × Bar)) (p : Addr), (∀ k ∈ ks, H k.1 = some (.tup k.2.vs)) → (ks.map (·.2)).Perm bs → (ks.map (·.2)).Pairwise (fun x y => x.code ≤ y.code) → H p = none → Q (.ref p) (upd H p (.lst (ks.map fun k => V.ref k.1)))
theorem keys_bars : ∀ {H : Hp} {kvs : List (List Key × V)} {as : List Addr} {bs : List Bar}, IsKeys H kvs as → kvs.map (·.1) = bs.map Bar.key → (∀ a ∈ as, ∃ b ∈ bs, H a = some (.tup b.vs)) ∧ (as.map V.ref).map (barAt H) = bs := by
  intro H kvs as bs ik
  unfold IsKeys at ik
  induction ik generalizing bs with
  | nil =>
    intro e
    cases bs with
    | nil => exact ⟨fun a ha => by simp at ha, rfl⟩
    | cons b bs => simp at e
  | @cons kv a kvs' as' h t ih =>
    intro e
    cases bs with
    | nil => simp at e
    | cons b bs =>
      rw [List.map_cons, List.map_cons] at e
      injection e with e1 e2
      obtain ⟨i1, i2⟩ := ih e2
      have hb : H a = some (.tup b.vs) := by rw [h, e1]; rfl
      refine ⟨fun c hc => ?_, ?_⟩
      · rcases List.mem_cons.mp hc with rfl | hc
        · exact ⟨b, List.mem_cons_self, hb⟩
        · obtain ⟨b', m, q⟩ := i1 c hc
          exact ⟨b', List.mem_cons_of_mem _ m, q⟩
      · rw [List.map_cons, List.map_cons, i2, barAt_of hb]
section
variable {X : Cx}
theorem cr_sortB (hcalm : X.calm = true) : CallR X (.builtin "sorted") rSortB := by
  intro pins s σ H xs us Q I r h
  obtain ⟨d, kvs, bs, rfl, hd, hks, hlow, q⟩ := h
  obtain ⟨u, rfl, rx⟩ := r.one
  obtain rfl : u = Value.ref d := rx
  obtain ⟨z, hs, ks, pr, o, es, ep, ho, hx, hdt, he, hn⟩ := (show ObjOk X.prog X.w H s.heap d (.dT kvs) from hd.ok I.hok)
  have l1 : es.size = ks.length := size_of_entries he
  have l2 : kvs.length = ks.length := Paired.length pr
  refine Calls.call_function_entry PyProof.Rows.kind_sorted PyProof.Rows.plain_sorted PyProof.Rows.entry_sorted (PyProof.Rows.args_sorted1 _) ?_
  unfold Builtin.«sorted»
  refine wpAny_bind (m := checkCount "sorted" 1 1 _) (wpAny_pure ?_)
  refine wpAny_bind (PySem.W.kdu_collect (A := X.A.in1) (kdl_raw hs hx hdt) (I.ok.hd hcalm) ho (by omega) fun h' tk acc hk it => ?_)
  have ea : acc.toList = ks.map fun x => Value.ref x.2.1 := by
    have hl : acc.toList.length = ks.length := by rw [Array.length_toList, it.1]; exact l1
    apply List.ext_getElem?
    intro j
    rw [List.getElem?_map]
    cases hj : acc.toList[j]? with
    | none =>
      have h1 := List.getElem?_eq_none_iff.mp hj
      rw [List.getElem?_eq_none (by omega)]
      all_goals rfl
    | some v =>
      obtain ⟨en, hen, hv⟩ := it.2 j v (by rw [← Array.getElem?_toList]; exact hj)
      have qe := entry_at he j
      rw [hen] at qe
      cases hb : ks[j]? with
      | none =>
        rw [hb] at qe
        exact nomatch (show some en = none from qe)
      | some b =>
        rw [hb] at qe
        have e2 : en = entryOfKey (tupleKind (mixKind X.prog X.w)) b := Option.some.inj qe
        rw [hv, e2]
        all_goals rfl
  have ik : IsKeys H kvs (ks.map fun x => x.2.1) := isKeys_of pr
  obtain ⟨kb1, kb2⟩ := keys_bars ik hks
  generalize has : (ks.map fun x => x.2.1) = as at ik kb1 kb2
  have ea' : acc.toList = as.map Value.ref := by rw [ea, ← has, List.map_map]; rfl
  have hal : acc.toList.length = as.length := by rw [ea', List.length_map]
  have hasz : as.length ≤ sizeLine := by rw [← has, List.length_map]; omega
  have I1 : Inv X pins σ H { s with heap := h', toks := tk } := I.kept hk
  refine wpAny_bind (wpAny_newList ?_ (by rw [hal]; exact hasz))
  have hoL : (h'.push (seqObj "list" acc.toList.toArray 0)).get? h'.objs.size = some (seqObj "list" acc.toList.toArray 0) := Heap.get?_push_size _ rfl
  show wpAny _ _ _ _ _ { s with heap := h'.push (seqObj "list" acc.toList.toArray 0), toks := tk }
  have hbar : ∀ v ∈ acc.toList, IsBarV h' v (barAt H (backV v)) ∧ (barAt H (backV v)).low := fun v hv => by
    rw [ea'] at hv
    obtain ⟨a, ham, rfl⟩ := List.mem_map.mp hv
    obtain ⟨b, hbm, hHa⟩ := kb1 a ham
    have e1 : barAt H (backV (Value.ref a)) = b := barAt_of hHa
    rw [e1]
    refine ⟨?_, hlow b hbm⟩
    obtain ⟨_, its, rv, oo, h1, h2, n, h3⟩ := (show ObjOk X.prog X.w H h' a (.tup b.vs) from I1.hok a _ hHa)
    cases rv with
    | cons r1 rv =>
      cases rv with
      | cons r2 rv =>
        cases rv with
        | cons r3 rv =>
          cases rv with
          | cons r4 rv =>
            cases rv
            obtain ⟨t1, rfl⟩ := r1
            obtain ⟨t2, rfl⟩ := r2
            obtain ⟨t3, rfl⟩ := r3
            obtain ⟨t4, rfl⟩ := r4
            exact ⟨a, oo, t1, t2, t3, t4, n, rfl, h1, h2, h3⟩
  refine wpAny_bind (wpAny_holding (wpAny_call_entry PyProof.Rows.slot_list_sort ⟨_, hoL, rfl⟩ PyProof.Rows.entry_list_sort
    (SrtO.list_sort_ord (s := { s with heap := h'.push (seqObj "list" acc.toList.toArray 0), toks := tk }) (swo_code fun v => barAt H (backV v)) hoL (by rw [hal]; exact hasz) (fun h2 => ?_) fun out hs hb => ⟨_, rfl, ?_⟩)
    (PyProof.Rows.args_list_sort _)))
  · refine bars_sortableO (by omega) (fun v hv => ⟨(hbar v hv).1.keeps fun c oo e _ => Heap.get?_push_of_some _ e, (hbar v hv).2⟩) fun oo e => ?_
    have e' : some oo = some (seqObj "list" acc.toList.toArray 0) := e.symm.trans hoL
    cases e'
    intro c
    exact absurd (Value.type.inj c) (by decide)
  · obtain ⟨e', he'⟩ := PyProof.Rows.sortedHeap_at (vs := acc.toList) (out := out.toArray) hoL
    have pm : out.Perm (as.map Value.ref) := by rw [← ea']; exact hb.perm
    have href : ∀ v ∈ out, ∃ a, v = Value.ref a ∧ a ∈ as := fun v hv => by
      obtain ⟨a, ha, rfl⟩ := List.mem_map.mp (pm.mem_iff.mp hv)
      exact ⟨a, rfl, ha⟩
    have e1 : out.map backV = (out.map fun v => ((match v with | .ref a => a | _ => 0 : Addr), barAt H (backV v))).map fun k => V.ref k.1 := by
      rw [List.map_map]
      refine List.map_congr_left fun v hv => ?_
      obtain ⟨a, rfl, _⟩ := href v hv
      rfl
    have e2 : (out.map fun v => ((match v with | .ref a => a | _ => 0 : Addr), barAt H (backV v))).map (·.2) = out.map fun v => barAt H (backV v) := by
      rw [List.map_map]; rfl
    have pm2 : (out.map fun v => barAt H (backV v)).Perm bs := by
      have q1 := pm.map fun v => barAt H (backV v)
      have q2 : (as.map Value.ref).map (fun v => barAt H (backV v)) = bs := by
        rw [← kb2, List.map_map, List.map_map]; rfl
      rw [q2] at q1
      exact q1
    have qq := q (out.map fun v => ((match v with | .ref a => a | _ => 0 : Addr), barAt H (backV v))) h'.objs.size (fun k hk2 => by
        obtain ⟨v, hv, rfl⟩ := List.mem_map.mp hk2
        obtain ⟨a, rfl, ha⟩ := href v hv
        obtain ⟨b, _, hH⟩ := kb1 a ha
        show H a = some (.tup (barAt H (.ref a)).vs)
        rw [barAt_of hH]
        exact hH) (by rw [e2]; exact pm2) (by
        rw [e2, List.pairwise_map]
        exact hs.imp fun {x y} q => by
          have := of_decide_eq_false q
          omega) (I1.hok.fresh (Nat.le_refl _))
    rw [← e1] at qq
    refine wpAny_pure ⟨_, rfl, .ref h'.objs.size, upd H h'.objs.size (.lst (out.map backV)), I1.laid (t' := tk) (fun b u e => ?_) (Nat.le_refl _)
      (show ObjOk X.prog X.w _ _ _ (.lst (out.map backV)) from ⟨?_, out, e', vals_back fun v hv => ?_, he'⟩), rfl, qq⟩
    · have hb : b < h'.objs.size := Heap.lt_size e
      rw [PyProof.Rows.sortedHeap_old (Nat.ne_of_lt hb) (by rw [size_push']; exact Nat.lt_succ_of_lt hb)]
      exact Heap.get?_push_of_some _ e
    · rw [List.length_map, pm.length_eq, List.length_map]
      exact hasz
    · obtain ⟨a, e, _⟩ := href v hv
      exact ⟨a, e⟩
end
end DL

set_option Elab.async false
set_option maxRecDepth 100000
namespace DL
open PySem PySem.Spec PyProof.Rows L2
/-! ### bar <= bar -/
def Bar.leb (a b : Bar) : Bool := decide (a.code ≤ b.code)
def Bar.leq (a b : Bar) : Bool := if a.d = b.d then (if a.w = b.w then (if a.o = b.o then (if a.t = b.t then true else !(!b.t && a.t)) else decide (a.o ≤ b.o)) else !(!b.w && a.w)) else decide (a.d ≤ b.d)
theorem Bar.leq_code {a b : Bar} (ha : a.low) (hb : b.low) : a.leq b = a.leb b := by
  obtain ⟨ad, aw, ao, at'⟩ := a
  obtain ⟨bd, bw, bo, bt⟩ := b
  unfold Bar.low at ha hb
  unfold Bar.leq Bar.leb Bar.code b2n
  simp only at ha hb ⊢
  by_cases h1 : ad = bd
  · rw [if_pos h1]
    by_cases h2 : aw = bw
    · rw [if_pos h2]
      by_cases h3 : ao = bo
      · rw [if_pos h3]
        subst h1 h2 h3
        cases at' <;> cases bt <;> simp <;> omega
      · rw [if_neg h3]
        subst h1 h2
        cases at' <;> cases bt <;> simp <;> omega
    · rw [if_neg h2]
      subst h1
      cases aw <;> cases bw <;> cases at' <;> cases bt <;> simp at h2 ⊢ <;> omega
  · rw [if_neg h1]
    cases aw <;> cases bw <;> cases at' <;> cases bt <;> simp <;> omega
def rLeB (K : PySem.W.Frag) : R2 := fun x y H Q => ∃ (a b : Addr) (p q : Bar), x = .ref a ∧ y = .ref b ∧ SqT K H a p.vs ∧ SqT K H b q.vs ∧ Q (.bl (p.leq q)) H
theorem four_of {p : Bar} {its : List Value} (r : Vals p.vs its) : ∃ t1 t2 t3 t4, its = [.int p.d t1, .str (wd p.w) t2, .int p.o t3, .str (wd p.t) t4] := by
  cases r with
  | cons r1 rv =>
    cases rv with
    | cons r2 rv =>
      cases rv with
      | cons r3 rv =>
        cases rv with
        | cons r4 rv =>
          cases rv
          obtain ⟨t1, rfl⟩ := r1
          obtain ⟨t2, rfl⟩ := r2
          obtain ⟨t3, rfl⟩ := r3
          obtain ⟨t4, rfl⟩ := r4
          exact ⟨t1, t2, t3, t4, rfl⟩
theorem beq_dec {α : Type} [BEq α] [LawfulBEq α] [DecidableEq α] (a b : α) : (a == b) = decide (a = b) := by
  by_cases q : a = b
  · rw [decide_eq_true q]; exact beq_iff_eq.mpr q
  · rw [decide_eq_false q]; exact beq_eq_false_iff_ne.mpr q
theorem wd_beq (a b : Bool) : ((wd a) == (wd b)) = decide (a = b) := by revert a b; decide +kernel
theorem op_leB {X : Cx} (hu : X.A.units < cLine) : OpR X (compareOp .LtE) (rLeB X.K) := by
  intro pins s σ H x y v u Q I rx ry h
  obtain ⟨a, b, p, q, rfl, rfl, ha, hb, hq⟩ := h
  cases rx
  cases ry
  obtain ⟨its, r1, p1, _⟩ := I.tuple ha
  obtain ⟨its2, r2, p2, _⟩ := I.tuple hb
  obtain ⟨t1, t2, t3, t4, rfl⟩ := four_of r1
  obtain ⟨u1, u2, u3, u4, rfl⟩ := four_of r2
  have R := Ob.RcOp.tuples_le (A := X.A) (s := s) (e := fun j => match j with | 0 => decide (p.d = q.d) | 1 => decide (p.w = q.w) | 2 => decide (p.o = q.o) | _ => decide (p.t = q.t))
    (r := fun j => match j with | 0 => decide (p.d ≤ q.d) | 1 => !(!q.w && p.w) | 2 => decide (p.o ≤ q.o) | _ => !(!q.t && p.t)) p1 p2 hu (fun j h1 h2 => by
      match j, h1, h2 with
      | 0, _, _ => show SeqAt.EqAt _ _ (.int p.d t1) (.int q.d u1) (decide (p.d = q.d)); rw [← beq_dec]; exact SeqAt.EqAt.int_int _ _ _ _
      | 1, _, _ => show SeqAt.EqAt _ _ (.str (wd p.w) t2) (.str (wd q.w) u2) (decide (p.w = q.w)); rw [← wd_beq]; exact SeqAt.EqAt.str_str _ _ _ _
      | 2, _, _ => show SeqAt.EqAt _ _ (.int p.o t3) (.int q.o u3) (decide (p.o = q.o)); rw [← beq_dec]; exact SeqAt.EqAt.int_int _ _ _ _
      | 3, _, _ => show SeqAt.EqAt _ _ (.str (wd p.t) t4) (.str (wd q.t) u4) (decide (p.t = q.t)); rw [← wd_beq]; exact SeqAt.EqAt.str_str _ _ _ _
      | n + 4, h1, _ => exact absurd (show n + 4 < 4 from h1) (by omega)) (fun j h1 h2 _ => by
      match j, h1, h2 with
      | 0, _, _ => exact Ob.RcOp.le_int _ _ _ _
      | 1, _, _ =>
        show Ob.RcOp .LtE _ _ (.str (wd p.w) t2) (.str (wd q.w) u2) (!(!q.w && p.w))
        rw [← wd_lt]
        exact fun _ _ _ _ h => PySem.P.le_str h
      | 2, _, _ => exact Ob.RcOp.le_int _ _ _ _
      | 3, _, _ =>
        show Ob.RcOp .LtE _ _ (.str (wd p.t) t4) (.str (wd q.t) u4) (!(!q.t && p.t))
        rw [← wd_lt]
        exact fun _ _ _ _ h => PySem.P.le_str h
      | n + 4, h1, _ => exact absurd (show n + 4 < 4 from h1) (by omega))
  have z : wpAny (model X.prog X.w) X.A (compareOp .LtE (.ref a) (.ref b)) (EP X pins σ Q) X.xe s := R X.prog X.w X.xe (EP X pins σ Q) (by
    refine ⟨.bl (p.leq q), H, I, ?_, hq⟩
    show Value.bool _ = Value.bool (p.leq q)
    have e : (Ob.lexAt (fun j => match j with | 0 => decide (p.d = q.d) | 1 => decide (p.w = q.w) | 2 => decide (p.o = q.o) | _ => decide (p.t = q.t))
      (fun j => match j with | 0 => decide (p.d ≤ q.d) | 1 => !(!q.w && p.w) | 2 => decide (p.o ≤ q.o) | _ => !(!q.t && p.t)) true 0 4) = p.leq q := by
      unfold Bar.leq
      simp only [Ob.lexAt, decide_eq_true_eq]
    exact congrArg Value.bool e)
  exact z
/-! ### for i, x in enumerate(t), t a tuple -/
def IteT (K : PySem.W.Frag) (a : Addr) : It :=
  ⟨fun i H => ∃ (xs : List V) (x : V), SqT K H a xs ∧ xs[i]? = some x, fun i H v H' => ∃ T x, v = .ref T ∧ H T = none ∧ H' = upd H T (.tup [.int (i : Nat), x]) ∧ ∀ xs, SqT K H a xs → xs[i]? = some x, fun i H => ∃ xs : List V, SqT K H a xs ∧ xs.length ≤ i⟩
theorem turn_enumT {P : Program} {w : World} {K : PySem.W.Frag} {elts : List Expr} {kk : Nat} {tpos : Pos} (a e it : Addr) (hai : a ≠ it) (hae : e ≠ a) :
    Turn P w K (.Tuple elts kk tpos) (IteT K a) [e, it] e (fun i h => (∃ old, IsEnum h e it ((i : Nat) : Int) old) ∧ h.IsTupleIter it a i ∧ e ≠ it) where
  mem := by simp
  obj := fun i h st b hb => by
    obtain ⟨⟨old, he⟩, ⟨o, ho, hc, hd⟩, _⟩ := st
    have e' : b = e ∨ b = it := by simpa using hb
    rcases e' with z | z
    · rw [z]; exact ⟨_, he, fun v q => nomatch q⟩
    · rw [z]; exact ⟨o, ho, fun v q => by rw [hd] at q; cases q⟩
  keep := fun i h h' st k => let ⟨⟨old, he⟩, hi, hne⟩ := st; ⟨⟨old, k e (by simp) _ he⟩, hi.at fun o q => k it (by simp) o q, hne⟩
  item := by
    intro X hP hw hK hc i pins s σ H E I hf st hg
    subst hP hw hK
    obtain ⟨⟨old, he⟩, hit, hne⟩ := st
    obtain ⟨xs, x, hq, hx⟩ := hg
    obtain ⟨its, rv, p, hz⟩ := I.tuple hq
    obtain ⟨u, hu, ru⟩ := rv.get hx
    have hel : e < s.heap.objs.size := Heap.lt_size he
    have hil : it < s.heap.objs.size := by obtain ⟨_, q, _⟩ := hit; exact Heap.lt_size q
    have hlt : i < its.toArray.size := by
      have := (List.getElem?_eq_some_iff.mp hu).1
      simpa using this
    refine wpAny_pyNext_enum_itemD (Draws.tuple (A := X.A.in1) (I.ok.hd hc) it a hai its.toArray) he ⟨hit, p⟩ hlt hne (by simp; exact ⟨hne, hae⟩) fun x1 h' tk hp ho hst' hT hsz hk => ?_
    have hx1 : x1 = u := by
      have q : its.toArray[i]? = some u := by simpa using hu
      rw [q] at hp
      exact (Option.some.inj hp).symm
    subst hx1
    refine ⟨_, rfl, wpAny_letOwnedTupleGo_enum (s := { s with heap := h', toks := tk + 1 }) ho fun h'' he' sb => ?_⟩
    have hT2 : h''.get? s.heap.objs.size = some { cls := .type "tuple", data := .seq #[.int i tk, x1] } := (sb.2 _ (Nat.ne_of_gt hel)).trans hT
    have new : ObjOk X.prog X.w (upd H s.heap.objs.size (.tup [.int (i : Nat), x])) h'' s.heap.objs.size (.tup [.int (i : Nat), x]) :=
      ⟨by show 2 ≤ sizeLine; decide, [.int i tk, x1], .cons ⟨_, rfl⟩ (.cons ru .nil), ⟨_, hT2, rfl, _, rfl⟩⟩
    have I1 : Inv X pins σ (upd H s.heap.objs.size (.tup [.int (i : Nat), x])) { s with heap := h'', toks := tk + 1 } :=
      I.turnedNew (ch := [e, it]) (fun b ob hb q => (sb.2 b (fun z => hb (by simp [z]))).trans (hk b ob (fun z => hb (by simp [z])) (fun z => hb (by simp [z])) q)) hf (Nat.le_refl _) new
    refine ⟨.ref s.heap.objs.size, _, I1, rfl, ⟨_, x, rfl, I.hok.fresh (Nat.le_refl _), rfl, fun ys hy => by rw [I.tuple_inj hy hq]; exact hx⟩, ⟨⟨x1, ?_⟩, hst'.1.at fun o q => (sb.2 it (Ne.symm hne)).trans q, hne⟩, fun b hb => ?_⟩
    · have e1 : ((i + 1 : Nat) : Int) = (i : Int) + 1 := by omega
      rw [e1]; exact he'
    · have hb' : b < s.heap.objs.size := by
        have e' : b = e ∨ b = it := by simpa using hb
        rcases e' with z | z
        · rw [z]; exact hel
        · rw [z]; exact hil
      rw [upd_ne (Nat.ne_of_lt hb')]
      exact (hf b hb).1
  done := by
    intro X hP hw hK hc i pins s σ H E I hf st hg
    subst hP hw hK
    obtain ⟨⟨old, he⟩, hit, hne⟩ := st
    obtain ⟨xs, hq, hx⟩ := hg
    obtain ⟨its, rv, p, hz⟩ := I.tuple hq
    obtain ⟨f0, f1, f2, f3, f4, f5⟩ := hf it (by simp)
    have hl := rv.length
    have D := Draws.tuple (prog := X.prog) (w := X.w) (A := X.A.in1) (I.ok.hd hc) it a hai its.toArray
    have go : ∀ {Q : Option Value → Shared → Prop}, (∀ h', Heap.ExtBut it s.heap h' → Q none { s with heap := h' }) → wpAny (model X.prog X.w) X.A (pyNext (.ref e)) Q E s := by
      intro Q hQ
      unfold pyNext
      have hT : s.TypeIs (.ref e) "enumerate" := ⟨_, he, rfl⟩
      refine wpAny_bind (wpAny_attempt (wpAny_callSpecial?_slot (name := Str.ofString "__next__") hT F.slot_enumerate_next
        (wpAny_call_entry F.slot_enumerate_next hT F.entry_enumerate_next ?_ (F.args_enumerate_next_1 _))))
      show wpAny _ _ (field (.ref e) 2 >>= _) _ _ _
      refine wpAny_bind (wpAny_field he rfl (x := .ref it) rfl ?_)
      refine wpAny_bind (wpAny_nextOf_tuple_end (I.ok.hd hc) hit p (by simp; omega) fun h' x he' hx' => ?_)
      obtain ⟨o, ho, hc⟩ := hx'
      refine wpAny_bind (wpAny_isInstance (T := "StopIteration") (b := true) ⟨o, ho, hc⟩ isSubtype_stop ?_)
      exact wpAny_pure (hQ _ he')
    exact go fun h' eb => ⟨rfl, I.turned (t' := s.toks) (fun b o hb q => eb b o hb q) f0 f1 f3 f4 f5⟩
  self := fun A i s Q E st h => let ⟨⟨_, he⟩, _⟩ := st; wpAny_pyIter_enum he h
def iEnumT (K : PySem.W.Frag) (ta : TA) : TI := fun σ H R => ta σ H fun vs H1 => ∃ a xs, vs = [.ref a] ∧ SqT K H1 a xs ∧ R (IteT K a) H1
end DL

set_option Elab.async false
set_option maxRecDepth 100000
namespace DL
open PySem PySem.Spec PyProof.Rows L2
open Sem (wp)
set_option maxHeartbeats 1000000 in
theorem meets_enumerate_newB1 {v : Value} {o : Obj} {H : Heap → Prop} (B : Begins v o H) :
    Meets (Builtin.«enumerate.__new__» ⟨[.type "enumerate", v], []⟩) (fun _ R s => H s.heap ∧
      R (.ok (.ret (.ref (s.heap.push o).objs.size))) { s with heap := (s.heap.push o).push { cls := .type "enumerate", data := .fields #[.none, .bool false, .ref s.heap.objs.size, rawInt 0, .none, .none] } }) :=
  .of_wp fun prog w A R s h => by
    obtain ⟨hp, g, d, tk, os⟩ := s; obtain ⟨h1, h⟩ := h
    have hsub := sub_enumerate
    have q1 : ∀ {A' : Around} {E : Value → Shared → Prop} {Q : Value → Shared → Prop}, Q (.ref hp.objs.size) ⟨hp.push o, g, d, tk, os⟩ → wpAny (model prog w) A' (pyIter v) Q E ⟨hp, g, d, tk, os⟩ :=
      fun q => B.iter prog w _ _ ⟨hp, g, d, tk, os⟩ _ h1 q
    wp_walk using q1
    refine wpAny_stack_any fun st => wpAny_pure ?_
    split
    · rename_i c _ _ _ _ _
      cases (c == Value.type "enumerate")
      · wp_walk using q1
        exact ⟨_, rfl, h⟩
      · wp_walk using q1
        exact ⟨_, rfl, h⟩
    · wp_walk using q1
      exact ⟨_, rfl, h⟩
section
variable {prog : Program} {w : World} {A : Around} {E : Value → Shared → Prop} {s : Shared}
theorem enum_begins1 {v : Value} {o : Obj} {H : Heap → Prop} {Q : Value → Shared → Prop} (B : Begins v o H) (h1 : H s.heap)
    (h : ∀ h', IsEnum h' (s.heap.objs.size + 1) s.heap.objs.size 0 .none → h'.get? s.heap.objs.size = some o → h'.objs.size = s.heap.objs.size + 2 →
      (∀ b o, s.heap.get? b = some o → h'.get? b = some o) → Q (.ref (s.heap.objs.size + 1)) { s with heap := h' }) :
    wpAny (model prog w) A (call (.type "enumerate") [v]) Q E s := by
  refine callType_new F.called_enumerate (by decide) (F.typeCall_enumerate_1 _) (F.newCall_enumerate_1 _) (fun obj => F.args_object_init_2 obj _) F.entry_enumerate_new
    (meets_enumerate_newB1 B) ⟨h1, ?_⟩
  have hz : (s.heap.push o).objs.size = s.heap.objs.size + 1 := Heap.size_push ..
  show _ ∧ _
  rw [hz]
  have he : IsEnum ((s.heap.push o).push { cls := .type "enumerate", data := .fields #[.none, .bool false, .ref s.heap.objs.size, rawInt 0, .none, .none] }) (s.heap.objs.size + 1) s.heap.objs.size 0 .none := by
    have := Heap.get?_push_size (s.heap.push o) (o := { cls := .type "enumerate", data := .fields #[.none, .bool false, .ref s.heap.objs.size, rawInt 0, .none, .none] }) rfl
    rw [hz] at this; exact this
  refine ⟨⟨_, he, rfl⟩, h _ he (Heap.get?_push_of_some _ (Heap.get?_push_size _ B.free)) (by rw [Heap.size_push, hz]) fun b o x => Heap.get?_push_of_some _ (Heap.get?_push_of_some _ x)⟩
end
theorem pi_enumT {X : Cx} {e : Expr} {ta : TA} {p pos tpos : Pos} {elts : List Expr} {kk : Nat} (hg : Gl X "enumerate") (hm : X.mg "enumerate" = none) (ha : PA X [e] ta) (hs : starEach [e] X.env = [(false, eval e X.env)] := by rfl) :
    PI X (.Tuple elts kk tpos) (.Call (.Name "enumerate" p) [e] [] pos) (iEnumT X.K ta) := by
  refine ⟨fun pins s σ H R I h => ?_⟩
  refine Call_ (ld_blt I hg hm boot_enumerate (PyProof.Rows.callWith_type1 (thn (ha.run pos pins s σ H _ I h) fun us s1 ⟨vs, H1, I1, r1, q1⟩ => ?_) hs rfl))
  obtain ⟨a, xs, ex, hq, q⟩ := q1
  subst ex
  cases r1 with
  | cons r rr =>
    cases rr
    cases r
    obtain ⟨its, rv, p', hz⟩ := I1.tuple hq
    have hal : a < s1.heap.objs.size := by obtain ⟨o, ho, _⟩ := id p'; exact Heap.lt_size ho
    refine enum_begins1 (begins_tuple a its.toArray) (show s1.heap.IsTuple a its.toArray from p') fun h' he hit hsz hk => wpAny_pyIter_enum he ?_
    have I2 : Inv X pins σ H1 { s1 with heap := h' } := I1.kept (t' := s1.toks) hk
    refine ⟨s1.heap.objs.size + 1, [s1.heap.objs.size + 1, s1.heap.objs.size], _, _, H1, rfl, I2, turn_enumT a (s1.heap.objs.size + 1) s1.heap.objs.size (Nat.ne_of_lt hal) (Nat.ne_of_gt (Nat.lt_succ_of_lt hal)),
      ⟨⟨.none, he⟩, ⟨_, hit, rfl, rfl⟩, Nat.succ_ne_self _⟩, fun b hb => ?_, q⟩
    have e' : b = s1.heap.objs.size + 1 ∨ b = s1.heap.objs.size := by simpa using hb
    have hle : s1.heap.objs.size ≤ b := by
      rcases e' with z | z
      · rw [z]; exact Nat.le_add_right _ _
      · rw [z]; exact Nat.le_refl _
    exact I1.fpOk hle (I1.hok.fresh hle)
theorem walk_enumT {K : PySem.W.Frag} {a : Addr} {xs : List V} : Walk (IteT K a) xs.length (fun H => SqT K H a xs) (YPair (fun i => some (.int (i : Nat))) (fun i => xs[i]?)) := by
  refine ⟨fun i _ hi q => ⟨xs, xs[i], q, by simp [hi]⟩, fun _ q => ⟨xs, q, Nat.le_refl _⟩, fun i H v H' _ q y => ?_⟩
  obtain ⟨T, x, h1, h2, h3, h4⟩ := y
  exact ⟨T, .int (i : Nat), x, h1, h2, h3, rfl, h4 xs q⟩
end DL

set_option Elab.async false
set_option maxRecDepth 100000
namespace DL
open PySem L2
def top (i : Nat) : Stmt := PySem.Challenge.pw_drawerlocks_k12_whole_likeness.main.body.getD i (.Pass ⟨0, 0, 0, 0⟩)
abbrev sIsInt : Stmt := top 10
abbrev sIsCount : Stmt := top 11
abbrev sIsDrawer : Stmt := top 12
abbrev sIsBar : Stmt := top 13
abbrev s_first_standing : Stmt := top 14
abbrev s_hinders : Stmt := top 15
abbrev s_moved : Stmt := top 16
abbrev sInit : Stmt := inClass (top 18) 0
abbrev sDrawers : Stmt := inClass (top 18) 1
abbrev sBars : Stmt := inClass (top 18) 2
abbrev s_free_drawers : Stmt := top 19
abbrev s_goes : Stmt := top 20
abbrev s_bars_against : Stmt := top 21
abbrev sCheckDrawers : Stmt := top 22
abbrev sCheckBars : Stmt := top 23
abbrev s_check_cabinet : Stmt := top 24
abbrev s_first_rows : Stmt := top 26
abbrev s_rows_from : Stmt := top 27
abbrev s_alike : Stmt := top 29
abbrev s_first_apart : Stmt := top 30
abbrev sTaken : Stmt := top 32
abbrev sParts : Stmt := top 33
abbrev sMade : Stmt := top 34
abbrev s__law_hold : Stmt := top 35
abbrev s__law_free : Stmt := top 36
abbrev s__law_moved : Stmt := top 37
abbrev s__law_near : Stmt := top 38
abbrev s__law_apart : Stmt := top 39
abbrev s__law_refused : Stmt := top 40
abbrev s_law : Stmt := top 41
end DL

set_option Elab.async false
set_option maxRecDepth 100000
namespace DL
open PySem L2
/-! ### the facts of the top -/
structure Bt (mg : Str → Option Value) : Prop where
  isinstance : mg "isinstance" = none
  int : mg "int" = none
  bool : mg "bool" = none
  tuple : mg "tuple" = none
  len : mg "len" = none
  enumerate : mg "enumerate" = none
  range : mg "range" = none
  sorted : mg "sorted" = none
/-! ### is_integer -/
structure spIsInt (K : PySem.W.Frag) (vs : List V) (H : Hp) (Q : VK) (_ : XK) : Prop where
  h : ∃ (v : V) (t : Value) (b1 b2 : Bool), vs = [v] ∧ TyX K H v t ∧ PySem.W.kitOne K t (.type "int") = some b1 ∧ PySem.W.kitOne K t (.type "bool") = some b2 ∧ Q (.bl (b1 && !b2)) H
section
variable {P : Program} {w : World} {K : PySem.W.Frag} {mg : Str → Option Value} {base : Heap}
theorem scIsInt : FnScope ["value"] ["value"] (defScope sIsInt) := ⟨rfl, rfl, rfl, by decide +kernel, rfl, by decide +kernel, by decide +kernel⟩
theorem ok_isInt {f : Addr} {fd : FuncData} (F : Fun K "is_integer" "is_integer" sIsInt f fd) (T : Bt mg) : FnOk P w K mg base CX0 1 f fd ["value"] (spIsInt K) := by
  refine F.ok scIsInt (fun vs H Q E h => ?_) (fun cdv A outer s H vs Q E hr h => ?_)
  · obtain ⟨v, t, b1, b2, rfl, _⟩ := h.h
    rfl
  · obtain ⟨v, t, b1, b2, rfl, ty, k1, k2, k⟩ := h.h
    refine ⟨_, pss_one (ps_ret (pe_and (pe_callB call_isi (by rfl) T.isinstance (by decide +kernel) (pa_cons (pv 0) (pa_cons (pe_bltn (v := .ty "int") (by rfl) T.int (by decide +kernel) rfl) pa_nil)))
      (pe_one (pe_not (pe_callB call_isi (by rfl) T.isinstance (by decide +kernel) (pa_cons (pv 0) (pa_cons (pe_bltn (v := .ty "bool") (by rfl) T.bool (by decide +kernel) rfl) pa_nil))))))), ?_⟩
    refine ⟨_, rfl, _, _, t, _, b1, rfl, .ty "int", ty, k1, b1, rfl, ?_⟩
    cases b1 with
    | false => exact iteF k
    | true => exact iteT ⟨_, rfl, _, _, t, _, b2, rfl, .ty "bool", ty, k2, b2, rfl, k⟩
/-! ### is_drawer_count(value), is_drawer(drawers, value) -/
/-- an int as value: whether it is one; any other known thing: False -/
structure spIsCount (K : PySem.W.Frag) (vs : List V) (H : Hp) (Q : VK) (_ : XK) : Prop where
  h : (∃ n : Int, vs = [.int n] ∧ Q (.bl (decide (1 ≤ n) && decide (n ≤ 7))) H) ∨
  ∃ (v : V) (t : Value) (b1 b2 : Bool), vs = [v] ∧ TyX K H v t ∧ PySem.W.kitOne K t (.type "int") = some b1 ∧ PySem.W.kitOne K t (.type "bool") = some b2 ∧ (b1 && !b2) = false ∧ Q (.bl false) H
theorem scIsCount : FnScope ["value"] ["value"] (defScope sIsCount) := ⟨rfl, rfl, rfl, by decide +kernel, rfl, by decide +kernel, by decide +kernel⟩
theorem ok_isCount {f f1 : Addr} {fd fd1 : FuncData} (F : Fun K "is_drawer_count" "is_drawer_count" sIsCount f fd) (_T : Bt mg) (G : FnOk P w K mg base CX0 1 f1 fd1 ["value"] (spIsInt K)) (g1 : mg "is_integer" = some (.ref f1)) (k1 : PySem.W.keepIn K (.ref f1) = true) (b1 : Binds K fd1 ["value"] [])
    (gM : ∃ t, mg "MOST_DRAWERS" = some (.int 7 t)) : FnOk P w K mg base CX0 2 f fd ["value"] (spIsCount K) := by
  refine F.ok scIsCount (fun vs H Q E h => ?_) (fun cdv A outer s H vs Q E hr h => ?_)
  · rcases h.h with ⟨n, rfl, _⟩ | ⟨v, t, b1, b2, rfl, _⟩ <;> rfl
  · obtain ⟨tM, gM⟩ := gM
    refine ⟨_, pss_one (ps_ret (pe_and (pe_call G (hr.mono (by decide)) rfl g1 k1 b1 .nil pass0 (pa_cons (pv 0) pa_nil)) (pe_one (pe_chain op_le op_le pe_int (pv 0) (pe_glob (v := .int 7) rfl gM ⟨_, rfl⟩))))), ?_⟩
    rcases h.h with ⟨n, rfl, k⟩ | ⟨v, t, c1, c2, rfl, ty, e1, e2, e3, k⟩
    · refine ⟨_, rfl, ⟨.int n, .type "int", true, false, rfl, .base (.int n), kit_ty (by decide +kernel), kit_ty (by decide +kernel), true, rfl, iteT ?_⟩⟩
      refine ⟨_, rfl, _, _, rfl, rfl, _, rfl, ?_⟩
      by_cases h1 : 1 ≤ n
      · rw [decide_eq_true h1] at k ⊢
        exact iteT ⟨_, _, rfl, rfl, k⟩
      · rw [decide_eq_false h1] at k ⊢
        exact iteF k
    · refine ⟨_, rfl, ⟨v, t, c1, c2, rfl, ty, e1, e2, _, rfl, ?_⟩⟩
      rw [e3]
      exact iteF k
structure spIsDrawer (K : PySem.W.Frag) (vs : List V) (H : Hp) (Q : VK) (_ : XK) : Prop where
  h : ∃ n : Int, (∃ i : Int, vs = [.int n, .int i] ∧ Q (.bl (decide (0 ≤ i) && decide (i < n))) H) ∨
  ∃ (v : V) (t : Value) (b1 b2 : Bool), vs = [.int n, v] ∧ TyX K H v t ∧ PySem.W.kitOne K t (.type "int") = some b1 ∧ PySem.W.kitOne K t (.type "bool") = some b2 ∧ (b1 && !b2) = false ∧ Q (.bl false) H
theorem scIsDrawer : FnScope ["drawers", "value"] ["drawers", "value"] (defScope sIsDrawer) := ⟨rfl, rfl, rfl, by decide +kernel, rfl, by decide +kernel, by decide +kernel⟩
theorem ok_isDrawer {f f1 : Addr} {fd fd1 : FuncData} (F : Fun K "is_drawer" "is_drawer" sIsDrawer f fd) (_T : Bt mg) (G : FnOk P w K mg base CX0 1 f1 fd1 ["value"] (spIsInt K)) (g1 : mg "is_integer" = some (.ref f1)) (k1 : PySem.W.keepIn K (.ref f1) = true) (b1 : Binds K fd1 ["value"] []) :
    FnOk P w K mg base CX0 2 f fd ["drawers", "value"] (spIsDrawer K) := by
  refine F.ok scIsDrawer (fun vs H Q E h => ?_) (fun cdv A outer s H vs Q E hr h => ?_)
  · rcases h.h with ⟨n, ⟨i, rfl, _⟩ | ⟨v, t, b1, b2, rfl, _⟩⟩ <;> rfl
  · refine ⟨_, pss_one (ps_ret (pe_and (pe_call G (hr.mono (by decide)) rfl g1 k1 b1 .nil pass0 (pa_cons (pv 1) pa_nil)) (pe_one (pe_chain op_le op_lt pe_int (pv 1) (pv 0))))), ?_⟩
    rcases h.h with ⟨n, ⟨i, rfl, k⟩ | ⟨v, t, c1, c2, rfl, ty, e1, e2, e3, k⟩⟩
    · refine ⟨_, rfl, ⟨.int i, .type "int", true, false, rfl, .base (.int i), kit_ty (by decide +kernel), kit_ty (by decide +kernel), true, rfl, iteT ?_⟩⟩
      refine ⟨_, rfl, _, _, rfl, rfl, _, rfl, ?_⟩
      by_cases h1 : 0 ≤ i
      · rw [decide_eq_true h1] at k ⊢
        exact iteT ⟨_, rfl, _, _, rfl, rfl, k⟩
      · rw [decide_eq_false h1] at k ⊢
        exact iteF k
    · refine ⟨_, rfl, ⟨v, t, c1, c2, rfl, ty, e1, e2, _, rfl, ?_⟩⟩
      rw [e3]
      exact iteF k
end
end DL

set_option Elab.async false
set_option maxRecDepth 100000
namespace DL
open PySem L2
/-! ### is_bar -/
def scV : V → Bool
  | .non => true | .bl _ => true | .int _ => true | .str _ => true | _ => false
def isD (n : Int) : V → Bool
  | .int i => decide (0 ≤ i) && decide (i < n)
  | _ => false
def inW : V → Bool
  | .str z => decide (z = "open") || decide (z = "shut")
  | _ => false
def barB (n : Int) (x0 x1 x2 x3 : V) : Bool := isD n x0 && (isD n x2 && (!decide (x0 = x2) && (inW x1 && inW x3)))
theorem inW_in (x : V) (h : scV x = true) : inV x [.str "open", .str "shut"] = inW x ∧ flatV x = true := by
  have z1 : ∀ z : Str, ((("open" : Str) == z) || ((("shut" : Str) == z) || false)) = (decide (z = "open") || decide (z = "shut")) := fun z => by
    rw [beq_dec, beq_dec, Bool.or_false]
    congr 1
    · exact decide_eq_decide.mpr ⟨Eq.symm, Eq.symm⟩
    · exact decide_eq_decide.mpr ⟨Eq.symm, Eq.symm⟩
  cases x with
  | str z => exact ⟨z1 z, rfl⟩
  | non => exact ⟨rfl, rfl⟩
  | bl b => exact ⟨rfl, rfl⟩
  | int i => exact ⟨rfl, rfl⟩
  | _ => cases h
theorem spIsDrawer_sc {K : PySem.W.Frag} {n : Int} {x : V} {H : Hp} {Q : VK} {E : XK} (hx : scV x = true) (k : Q (.bl (isD n x)) H) : spIsDrawer K [.int n, x] H Q E := by
  cases x with
  | int i => exact ⟨⟨n, .inl ⟨i, rfl, k⟩⟩⟩
  | non => exact ⟨⟨n, .inr ⟨.non, .type "NoneType", false, false, rfl, .base .non, kit_ty (by decide +kernel), kit_ty (by decide +kernel), rfl, k⟩⟩⟩
  | bl b => exact ⟨⟨n, .inr ⟨.bl b, .type "bool", true, true, rfl, .base (.bl b), kit_ty (by decide +kernel), kit_ty (by decide +kernel), rfl, k⟩⟩⟩
  | str z => exact ⟨⟨n, .inr ⟨.str z, .type "str", false, false, rfl, .base (.str z), kit_ty (by decide +kernel), kit_ty (by decide +kernel), rfl, k⟩⟩⟩
  | _ => cases hx
theorem tyT {K : PySem.W.Frag} {H : Hp} {a : Addr} {xs : List V} (h : SqT K H a xs) : TyX K H (.ref a) (.type "tuple") := by
  rcases h with (h | ⟨o, h⟩) | ⟨o, its, n, h1, h2, _⟩
  · exact .base (.tup h)
  · exact .fTuple h
  · exact .kTuple h1 h2
structure spIsBar (K : PySem.W.Frag) (vs : List V) (H : Hp) (Q : VK) (_ : XK) : Prop where
  h : ∃ n : Int, (∃ (v : V) (t : Value), vs = [.int n, v] ∧ TyX K H v t ∧ PySem.W.kitOne K t (.type "tuple") = some false ∧ Q (.bl false) H) ∨
  (∃ (a : Addr) (xs : List V), vs = [.int n, .ref a] ∧ SqT K H a xs ∧ xs.length ≠ 4 ∧ Q (.bl false) H) ∨
  ∃ (a : Addr) (x0 x1 x2 x3 : V), vs = [.int n, .ref a] ∧ SqT K H a [x0, x1, x2, x3] ∧ scV x0 = true ∧ scV x1 = true ∧ scV x2 = true ∧ scV x3 = true ∧ Q (.bl (barB n x0 x1 x2 x3)) H
section
variable {P : Program} {w : World} {K : PySem.W.Frag} {mg : Str → Option Value} {base : Heap}
theorem scIsBar : FnScope ["drawers", "value", "drawer", "way", "other", "stand"] ["drawers", "value"] (defScope sIsBar) := ⟨rfl, rfl, rfl, by decide +kernel, rfl, by decide +kernel, by decide +kernel⟩
theorem ok_isBar {f f1 : Addr} {fd fd1 : FuncData} (F : Fun K "is_bar" "is_bar" sIsBar f fd) (T : Bt mg) (G : FnOk P w K mg base CX0 2 f1 fd1 ["drawers", "value"] (spIsDrawer K)) (g1 : mg "is_drawer" = some (.ref f1)) (k1 : PySem.W.keepIn K (.ref f1) = true) (b1 : Binds K fd1 ["drawers", "value"] [])
    (gW : ∃ aW, mg "WORDS" = some (.ref aW) ∧ ∀ H, SqT K H aW [.str "open", .str "shut"]) : FnOk P w K mg base CX0 3 f fd ["drawers", "value"] (spIsBar K) := by
  refine F.ok scIsBar (fun vs H Q E h => ?_) (fun cdv A outer s H vs Q E hr h => ?_)
  · rcases h.h with ⟨n, ⟨v, t, rfl, _⟩ | ⟨a, xs, rfl, _⟩ | ⟨a, x0, x1, x2, x3, rfl, _⟩⟩ <;> rfl
  · obtain ⟨aW, gW, hW⟩ := gW
    refine ⟨_, pss_cons (ps_if (PW.pt (pw_or (pt_not (pt_val (pe_callB call_isi (by rfl) T.isinstance (by decide +kernel) (pa_cons (pv 1) (pa_cons (pe_bltn (v := .ty "tuple") (by rfl) T.tuple (by decide +kernel) rfl) pa_nil)))))
        (pw_or1 (pt_cmpR op_ne (pe_callB call_len_seq (by rfl) T.len PySem.boot_len (pa_cons (pv 1) pa_nil)) pe_int (nomark _))))) (pss_one (ps_ret pe_bl)) pss_nil)
      (pss_cons (ps_asg (pv 1) (pg_tup (by rfl) (pgs_cons (pg_name (i := 2) scIsBar.nd rfl (.inl rfl)) (pgs_cons (pg_name (i := 3) scIsBar.nd rfl (.inl rfl)) (pgs_cons (pg_name (i := 4) scIsBar.nd rfl (.inl rfl)) (pgs_cons (pg_name (i := 5) scIsBar.nd rfl (.inl rfl)) pgs_nil))))))
      (pss_cons (ps_if (PW.pt (pw_or (pt_not (pt_val (pe_call G (hr.mono (by decide)) rfl g1 k1 b1 .nil pass0 (pa_cons (pv 0) (pa_cons (pv 2) pa_nil))))) (pw_or1 (pt_not (pt_val (pe_call G (hr.mono (by decide)) rfl g1 k1 b1 .nil pass0 (pa_cons (pv 0) (pa_cons (pv 4) pa_nil)))))))) (pss_one (ps_ret pe_bl)) pss_nil)
      (pss_one (ps_ret (pe_and (pe_cmpR op_ne (pv 2) (pv 4) (nomark _)) (pe_and (pe_cmpR op_in_seq (pv 3) (pe_glob (v := .ref aW) rfl gW rfl) (by rfl)) (pe_one (pe_cmpR op_in_seq (pv 5) (pe_glob (v := .ref aW) rfl gW rfl) (by rfl))))))))), ?_⟩
    rcases h.h with ⟨n, ⟨v, t, rfl, ty, e, k⟩ | ⟨a, xs, rfl, hq, hl, k⟩ | ⟨a, x0, x1, x2, x3, rfl, hq, c0, c1, c2, c3, k⟩⟩
    · exact ⟨_, rfl, _, _, t, _, false, rfl, .ty "tuple", ty, e, _, rfl, iteT (iteT k)⟩
    · refine ⟨_, rfl, _, _, _, _, true, rfl, .ty "tuple", tyT hq, kit_ty (by decide +kernel), _, rfl, iteF ?_⟩
      refine ⟨_, rfl, a, xs, rfl, .inr hq, rfl, _, rfl, ?_⟩
      refine ite2 (fun _ => k) (fun z => ?_)
      exact absurd (show (.int (xs.length : Int) : V) = .int 4 by simpa using z) (fun q => hl (by injection q with q; omega))
    · refine ⟨_, rfl, _, _, _, _, true, rfl, .ty "tuple", tyT hq, kit_ty (by decide +kernel), _, rfl, iteF ?_⟩
      refine ⟨_, rfl, a, _, rfl, .inr hq, rfl, _, rfl, iteF ?_⟩
      refine ⟨_, rfl, a, _, rfl, hq, rfl, x0, _, rfl, x1, _, rfl, x2, _, rfl, x3, _, rfl, rfl, ?_⟩
      refine ⟨_, rfl, _, rfl, ?_⟩
      refine spIsDrawer_sc c0 ⟨_, rfl, ?_⟩
      unfold barB at k
      cases d0 : isD n x0 with
      | false => rw [d0] at k; exact iteT (iteT k)
      | true =>
        rw [d0] at k
        refine iteF ⟨_, rfl, _, rfl, ?_⟩
        refine spIsDrawer_sc c2 ⟨_, rfl, ?_⟩
        cases d2 : isD n x2 with
        | false => rw [d2] at k; exact iteT k
        | true =>
          rw [d2] at k
          refine iteF ?_
          obtain ⟨i0, rfl⟩ : ∃ i, x0 = .int i := by cases x0 <;> first | exact ⟨_, rfl⟩ | cases d0
          obtain ⟨i2, rfl⟩ : ∃ i, x2 = .int i := by cases x2 <;> first | exact ⟨_, rfl⟩ | cases d2
          refine ⟨_, rfl, _, rfl, rfl, _, rfl, ?_⟩
          have k' : Q (.bl (!decide ((.int i0 : V) = .int i2) && (inW x1 && inW x3))) H := k
          cases e : decide ((.int i0 : V) = .int i2) with
          | true => rw [e] at k'; exact iteF k'
          | false =>
            rw [e] at k'
            refine iteT ⟨_, rfl, aW, _, rfl, .inr (hW H), (inW_in x1 c1).2, rfl, _, rfl, ?_⟩
            show if inV x1 _ = true then _ else _
            rw [(inW_in x1 c1).1]
            have k'' : Q (.bl (inW x1 && inW x3)) H := k'
            cases e1 : inW x1 with
            | false => rw [e1] at k''; exact iteF k''
            | true =>
              rw [e1] at k''
              refine iteT ⟨_, rfl, aW, _, rfl, .inr (hW H), (inW_in x3 c3).2, rfl, ?_⟩
              show Q (.bl (inV x3 _)) H
              rw [(inW_in x3 c3).1]
              exact k''
end
end DL

set_option Elab.async false
set_option maxRecDepth 100000
namespace DL
open PySem L2
/-! ### bars of the heap -/
structure BarsAt (H : Hp) (t : Addr) (ks : List (Addr × Bar)) : Prop where
  tu : H t = some (.tup (ks.map fun k => V.ref k.1))
  el : ∀ k ∈ ks, H k.1 = some (.tup k.2.vs)
theorem BarsAt.same {H H' : Hp} {t : Addr} {ks : List (Addr × Bar)} (B : BarsAt H t ks) (s : Same H H') : BarsAt H' t ks := ⟨s _ _ B.tu, fun k hk => s _ _ (B.el k hk)⟩
def Bar.ok (n : Int) (b : Bar) : Prop := 0 ≤ b.d ∧ b.d < n ∧ 0 ≤ b.o ∧ b.o < n ∧ b.d ≠ b.o
theorem Bar.ok.low {n : Int} {b : Bar} (h : b.ok n) (hn : n ≤ 7) : b.low := by
  obtain ⟨h1, h2, h3, h4, _⟩ := h
  exact ⟨h1, by omega, h3, by omega⟩
structure OkBars (n : Int) (bs : List Bar) : Prop where
  ok : ∀ b ∈ bs, b.ok n
  asc : bs.Pairwise fun x y => x.code < y.code
theorem inW_wd (b : Bool) : inW (.str (wd b)) = true := by revert b; decide +kernel
theorem barB_ok {n : Int} {b : Bar} (h : b.ok n) : barB n (.int b.d) (.str (wd b.w)) (.int b.o) (.str (wd b.t)) = true := by
  obtain ⟨h1, h2, h3, h4, h5⟩ := h
  unfold barB
  rw [inW_wd, inW_wd]
  show ((decide (0 ≤ b.d) && decide (b.d < n)) && ((decide (0 ≤ b.o) && decide (b.o < n)) && (!decide ((.int b.d : V) = .int b.o) && true))) = true
  have e : decide ((.int b.d : V) = .int b.o) = false := decide_eq_false fun q => h5 (by injection q)
  rw [decide_eq_true h1, decide_eq_true h2, decide_eq_true h3, decide_eq_true h4, e]
  rfl
theorem spIsBar_ok {K : PySem.W.Frag} {n : Int} {a : Addr} {b : Bar} {H : Hp} {Q : VK} {E : XK} (h : b.ok n) (ha : SqT K H a b.vs) (k : Q (.bl true) H) : spIsBar K [.int n, .ref a] H Q E :=
  ⟨⟨n, .inr (.inr ⟨a, _, _, _, _, rfl, ha, rfl, rfl, rfl, rfl, by rw [barB_ok h]; exact k⟩)⟩⟩
theorem SqT.of' {K : PySem.W.Frag} {H : Hp} {a : Addr} {xs : List V} (h : H a = some (.tup xs)) : SqT K H a xs := .inl (.inl h)
theorem same_upd {H : Hp} {p : Addr} {o : HO} (h : H p = none) : Same H (upd H p o) := fun b u e => by rw [upd_ne (ne_of_none e h)]; exact e
theorem at_prev {α : Type} {xs : List α} {i : Nat} {v : α} (h0 : 0 < i) (h : xs[i - 1]? = some v) : atI xs ((i : Int) - 1) = some v := by
  have e : (i : Int) - 1 = ((i - 1 : Nat) : Int) := by omega
  rw [e]
  exact atI_nat h
theorem pw_prev {bs : List Bar} (h : bs.Pairwise fun x y => x.code < y.code) {i : Nat} (h0 : 0 < i) {x y : Bar} (hx : bs[i - 1]? = some x) (hy : bs[i]? = some y) : x.code < y.code := by
  obtain ⟨l1, e1⟩ := List.getElem?_eq_some_iff.mp hx
  obtain ⟨l2, e2⟩ := List.getElem?_eq_some_iff.mp hy
  have := List.pairwise_iff_getElem.mp h (i - 1) i l1 l2 (by omega)
  rw [e1, e2] at this
  exact this
theorem not_leq {n : Int} {x y : Bar} (hn : n ≤ 7) (hx : x.ok n) (hy : y.ok n) (h : x.code < y.code) : y.leq x = false := by
  rw [Bar.leq_code (hy.low hn) (hx.low hn)]
  exact decide_eq_false (by omega)
/-! ### check_drawers, check_bars, __init__ of what is right -/
structure spCheckDrawers (vs : List V) (H : Hp) (Q : VK) (_ : XK) : Prop where
  h : ∃ n : Int, vs = [.int n] ∧ 1 ≤ n ∧ n ≤ 7 ∧ Q .non H
structure spCheckBars (vs : List V) (H : Hp) (Q : VK) (_ : XK) : Prop where
  h : ∃ (n : Int) (t : Addr) (ks : List (Addr × Bar)), vs = [.int n, .ref t] ∧ n ≤ 7 ∧ BarsAt H t ks ∧ OkBars n (ks.map (·.2)) ∧ ∀ H', Same H H' → Q .non H'
theorem kd_ : ¬ (("_drawers" : Str) = "_bars") := by decide +kernel
def cfl (n : Int) (t : Addr) : List (Str × V) := putF "_bars" (.ref t) (putF "_drawers" (.int n) [])
theorem cfl_d (n : Int) (t : Addr) : (cfl n t).lookup ("_drawers" : Str) = some (.int n) := by
  unfold cfl
  rw [lookup_putF, if_neg kd_, lookup_putF, if_pos rfl]
theorem cfl_b (n : Int) (t : Addr) : (cfl n t).lookup ("_bars" : Str) = some (.ref t) := by
  unfold cfl
  rw [lookup_putF, if_pos rfl]
/-- a Cabinet stands at c -/
def CabAt (C : Addr) (H : Hp) (c : Addr) (n : Int) (t : Addr) : Prop := ∃ dx, H c = some (.ins C dx (cfl n t))
structure spInit (C : Addr) (vs : List V) (H : Hp) (Q : VK) (_ : XK) : Prop where
  h : ∃ (p dx : Addr) (n : Int) (t : Addr) (ks : List (Addr × Bar)), vs = [.ref p, .int n, .ref t] ∧ H p = some (.ins C dx []) ∧ 1 ≤ n ∧ n ≤ 7 ∧ BarsAt H t ks ∧ OkBars n (ks.map (·.2)) ∧
    ∀ H', H' p = some (.ins C dx (cfl n t)) → (∀ b o, b ≠ p → H b = some o → H' b = some o) → Q .non H'
/-- the class -/
structure CabT (K : PySem.W.Frag) (mg : Str → Option Value) (C : Addr) : Prop where
  cl : Cls K C
  nD : NoAttr K C "_drawers"
  nB : NoAttr K C "_bars"
  mgC : mg "Cabinet" = some (.ref C)
section
variable {P : Program} {w : World} {K : PySem.W.Frag} {mg : Str → Option Value} {base : Heap}
theorem scCheckDrawers : FnScope ["drawers"] ["drawers"] (defScope sCheckDrawers) := ⟨rfl, rfl, rfl, by decide +kernel, rfl, by decide +kernel, by decide +kernel⟩
theorem ok_checkDrawers {f f1 : Addr} {fd fd1 : FuncData} (F : Fun K "check_drawers" "check_drawers" sCheckDrawers f fd) (G : FnOk P w K mg base CX0 2 f1 fd1 ["value"] (spIsCount K)) (g1 : mg "is_drawer_count" = some (.ref f1)) (k1 : PySem.W.keepIn K (.ref f1) = true) (b1 : Binds K fd1 ["value"] []) :
    FnOk P w K mg base CX0 3 f fd ["drawers"] spCheckDrawers := by
  refine F.ok scCheckDrawers (fun vs H Q E h => ?_) (fun cdv A outer s H vs Q E hr h => ?_)
  · obtain ⟨n, rfl, _⟩ := h.h
    rfl
  · obtain ⟨n, rfl, h1, h2, k⟩ := h.h
    refine ⟨_, pss_one (ps_if (pt_not (pt_val (pe_call G (hr.mono (by decide)) rfl g1 k1 b1 .nil pass0 (pa_cons (pv 0) pa_nil)))) (pss_one ps_never) pss_nil), ?_⟩
    refine ⟨_, rfl, ⟨.inl ⟨n, rfl, _, rfl, ?_⟩⟩⟩
    rw [decide_eq_true h1, decide_eq_true h2]
    exact iteF k
theorem scCheckBars : FnScope ["drawers", "bars", "index", "bar"] ["drawers", "bars"] (defScope sCheckBars) := ⟨rfl, rfl, rfl, by decide +kernel, rfl, by decide +kernel, by decide +kernel⟩
theorem ok_checkBars {f f1 : Addr} {fd fd1 : FuncData} (F : Fun K "check_bars" "check_bars" sCheckBars f fd) (T : Bt mg) (G : FnOk P w K mg base CX0 3 f1 fd1 ["drawers", "value"] (spIsBar K)) (g1 : mg "is_bar" = some (.ref f1)) (k1 : PySem.W.keepIn K (.ref f1) = true) (b1 : Binds K fd1 ["drawers", "value"] []) :
    FnOk P w K mg base CX0 4 f fd ["drawers", "bars"] spCheckBars := by
  refine F.ok scCheckBars (fun vs H Q E h => ?_) (fun cdv A outer s H vs Q E hr h => ?_)
  · obtain ⟨n, t, ks, rfl, _⟩ := h.h
    rfl
  · obtain ⟨n, t, ks, rfl, hn, B, O, k⟩ := h.h
    have hu : _ < cLine := hr.units0
    refine ⟨_, pss_cons (ps_if (pt_not (pt_val (pe_callB call_isi (by rfl) T.isinstance (by decide +kernel) (pa_cons (pv 1) (pa_cons (pe_bltn (v := .ty "tuple") (by rfl) T.tuple (by decide +kernel) rfl) pa_nil))))) (pss_one ps_never) pss_nil)
      (pss_one (ps_for PassesOwn.never rfl (pi_enumT (by rfl) T.enumerate (pa_cons (pv 1) pa_nil)) (pg_tup (by rfl) (pgs_cons (pg_name (i := 2) scCheckBars.nd rfl (.inl rfl)) (pgs_cons (pg_name (i := 3) scCheckBars.nd rfl (.inl rfl)) pgs_nil)))
        (pss_cons (ps_if (pt_not (pt_val (pe_call G (hr.mono (by decide)) rfl g1 k1 b1 .nil pass0 (pa_cons (pv 0) (pa_cons (pv 3) pa_nil))))) (pss_one ps_never) pss_nil)
        (pss_one (ps_if (PW.pt (pw_and (pt_cmpR op_gt (pv 2) pe_int (nomark _)) (pw_and1 (pt_cmpR (op_leB hu) (pv 3) (pe_ix ix_tup (pv 1) (pe_op op_sub (pv 2) pe_int) (fun _ _ => rfl)) (nomark _))))) (pss_one ps_never) pss_nil))))), ?_⟩
    refine ⟨_, rfl, _, _, _, _, true, rfl, .ty "tuple", tyT (SqT.of' B.tu), kit_ty (by decide +kernel), _, rfl, iteF ?_⟩
    refine ⟨_, rfl, t, _, rfl, SqT.of' B.tu, ?_⟩
    refine for_it walk_enumT (fun i σ H' => ∃ v2 v3, σ = [some (.int n), some (.ref t), v2, v3] ∧ Same H H') ⟨_, _, rfl, Same.refl H⟩ (fun i σ H' _ ⟨_, _, _, s1⟩ => SqT.of' (s1 _ _ B.tu)) ?_ ?_
    · rintro i x σ H1 H2 hi ⟨v2, v3, rfl, s1⟩ ⟨T, x1, x2, rfl, hT, rfl, e1, e2⟩
      have e1' : V.int (i : Nat) = x1 := Option.some.inj e1
      subst e1'
      have e2 : (ks.map fun k => V.ref k.1)[i]? = some x2 := e2
      rw [List.getElem?_map] at e2
      cases ek : ks[i]? with
      | none => rw [ek] at e2; cases e2
      | some kk =>
        rw [ek] at e2
        have e2' : V.ref kk.1 = x2 := Option.some.inj e2
        subst e2'
        have s2 : Same H (upd H1 T (.tup [.int (i : Nat), .ref kk.1])) := s1.trans (same_upd hT)
        have hm : kk ∈ ks := List.mem_of_getElem? ek
        have hok : kk.2.ok n := O.ok _ (List.mem_map.mpr ⟨kk, hm, rfl⟩)
        refine ⟨T, _, rfl, SqT.of' upd_same, rfl, _, _, rfl, _, _, rfl, rfl, ?_⟩
        refine ⟨_, rfl, _, rfl, spIsBar_ok hok (SqT.of' (s2 _ _ (B.el kk hm))) ⟨_, rfl, iteF ?_⟩⟩
        refine ⟨_, rfl, _, _, rfl, rfl, _, rfl, ?_⟩
        refine ite2 (fun z => ?_) (fun z => iteF ⟨_, _, rfl, s2⟩)
        have h0 : 0 < i := by have := of_decide_eq_true z; omega
        obtain ⟨kp, ep⟩ : ∃ kp, ks[i - 1]? = some kp := by
          have := (List.getElem?_eq_some_iff.mp ek).1
          exact ⟨ks[i - 1]'(by omega), List.getElem?_eq_getElem (by omega)⟩
        have hmp : kp ∈ ks := List.mem_of_getElem? ep
        have hokp : kp.2.ok n := O.ok _ (List.mem_map.mpr ⟨kp, hmp, rfl⟩)
        refine ⟨_, rfl, _, rfl, _, rfl, _, _, rfl, rfl, t, _, _, .ref kp.1, rfl, rfl, SqT.of' (s2 _ _ B.tu), at_prev h0 (by rw [List.getElem?_map, ep]; rfl), ?_⟩
        refine ⟨kk.1, kp.1, kk.2, kp.2, rfl, rfl, SqT.of' (s2 _ _ (B.el kk hm)), SqT.of' (s2 _ _ (B.el kp hmp)), _, rfl, ?_⟩
        have hlt : kp.2.code < kk.2.code := pw_prev O.asc h0 (by rw [List.getElem?_map, ep]; rfl) (by rw [List.getElem?_map, ek]; rfl)
        rw [not_leq hn hokp hok hlt]
        exact iteF ⟨_, _, rfl, s2⟩
    · rintro σ H' ⟨v2, v3, rfl, s1⟩
      exact k H' s1
theorem scInit : FnScope ["self", "drawers", "bars"] ["self", "drawers", "bars"] (defScope sInit) := ⟨rfl, rfl, rfl, by decide +kernel, rfl, by decide +kernel, by decide +kernel⟩
theorem ok_init {f f1 f2 C : Addr} {fd fd1 fd2 : FuncData} (F : Fun K "__init__" "Cabinet.__init__" sInit f fd) (T : CabT K mg C) (G1 : FnOk P w K mg base CX0 3 f1 fd1 ["drawers"] spCheckDrawers) (g1 : mg "check_drawers" = some (.ref f1)) (k1 : PySem.W.keepIn K (.ref f1) = true) (b1 : Binds K fd1 ["drawers"] [])
    (G2 : FnOk P w K mg base CX0 4 f2 fd2 ["drawers", "bars"] spCheckBars) (g2 : mg "check_bars" = some (.ref f2)) (k2 : PySem.W.keepIn K (.ref f2) = true) (b2 : Binds K fd2 ["drawers", "bars"] []) : FnOk P w K mg base CX0 5 f fd ["self", "drawers", "bars"] (spInit C) := by
  refine F.ok scInit (fun vs H Q E h => ?_) (fun cdv A outer s H vs Q E hr h => ?_)
  · obtain ⟨p, dx, n, t, ks, rfl, _⟩ := h.h
    rfl
  · obtain ⟨p, dx, n, t, ks, rfl, hp, h1, h7, B, O, k⟩ := h.h
    refine ⟨_, pss_cons (ps_expr (pe_call G1 (hr.mono (by decide)) rfl g1 k1 b1 .nil pass0 (pa_cons (pv 1) pa_nil))) (pss_cons (ps_expr (pe_call G2 (hr.mono (by decide)) rfl g2 k2 b2 .nil pass0 (pa_cons (pv 1) (pa_cons (pv 2) pa_nil))))
      (pss_cons (ps_fld (pv 0) (pv 1) rfl) (pss_one (ps_fld (pv 0) (pv 2) rfl)))), ?_⟩
    refine ⟨_, rfl, ⟨n, rfl, h1, h7, ?_⟩⟩
    refine ⟨_, rfl, _, rfl, ⟨n, t, ks, rfl, h7, B, O, fun H1 s1 => ?_⟩⟩
    refine ⟨_, rfl, _, rfl, p, C, dx, _, rfl, s1 _ _ hp, T.cl, T.nD, (by show 0 < 1000; decide), _, rfl, _, rfl, p, C, dx, _, rfl, upd_same, T.cl, T.nB, (by show 1 < 1000; decide), ?_⟩
    refine k _ upd_same fun b o hb e => ?_
    rw [upd_ne hb, upd_ne hb]
    exact s1 _ _ e
end
end DL

set_option Elab.async false
set_option maxRecDepth 100000
namespace DL
open PySem L2
/-! ### drawing: the row of draws stands at r, the script at sc -/
def But (r : Addr) (H H' : Hp) : Prop := ∀ b o, b ≠ r → H b = some o → H' b = some o
theorem But.refl (r : Addr) (H : Hp) : But r H H := fun _ _ _ h => h
theorem But.trans {r : Addr} {H H1 H2 : Hp} (a : But r H H1) (b : But r H1 H2) : But r H H2 := fun c o hc h => b c o hc (a c o hc h)
theorem sbut {r : Addr} {H H' : Hp} (s : Same H H') : But r H H' := fun c o _ h => s c o h
theorem but_upd {r : Addr} {H : Hp} {o : HO} : But r H (upd H r o) := fun c u hc h => by rw [upd_ne hc]; exact h
theorem But.seq {K : PySem.W.Frag} {r : Addr} {H H' : Hp} {a : Addr} {xs : List V} (s : But r H H') (ha : a ≠ r) (h : SqL K H a xs) : SqL K H' a xs := by
  rcases h with (h | ⟨o, h⟩) | h
  · exact .inl (.inl (s _ _ ha h))
  · exact .inl (.inr ⟨o, s _ _ ha h⟩)
  · exact .inr h
theorem But.tup {r : Addr} {H H' : Hp} {a : Addr} {xs : List V} {ys : List V} (s : But r H H') (hr : H r = some (.lst ys)) (h : H a = some (.tup xs)) : H' a = some (.tup xs) :=
  s _ _ (ne_of h hr (by intro z; cases z)) h
structure RowOk (H : Hp) (r sc : Addr) : Prop where
  h : ∃ i m e : Int, H r = some (.lst [.ref sc, .int i, .int m, .int e]) ∧ 0 ≤ i ∧ 0 ≤ m ∧ m < 2147483647 ∧ 0 ≤ e
theorem RowOk.same {H H' : Hp} {r sc : Addr} (R : RowOk H r sc) (s : Same H H') : RowOk H' r sc := by
  obtain ⟨i, m, e, h, q⟩ := R.h
  exact ⟨⟨i, m, e, s _ _ h, q⟩⟩
theorem But.seqR {K : PySem.W.Frag} {r sc : Addr} {H H' : Hp} {a : Addr} {ns : List Int} (s : But r H H') (R : RowOk H r sc) (h : SqL K H a (ns.map V.int)) : SqL K H' a (ns.map V.int) := by
  obtain ⟨i, m, e, hR, _⟩ := R.h
  have nd : ∀ u : HO, H a = some u → u ≠ .lst [.ref sc, .int i, .int m, .int e] → a ≠ r := fun u hu hn z => by
    rw [z, hR] at hu
    exact hn (Option.some.inj hu).symm
  rcases h with (h | ⟨o, h⟩) | h
  · refine .inl (.inl (s _ _ (nd _ h fun z => ?_) h))
    injection z with z
    cases ns with
    | nil => cases z
    | cons n ns => injection z with z _; cases z
  · exact .inl (.inr ⟨o, s _ _ (nd _ h fun z => by cases z) h⟩)
  · exact .inr h
structure spTaken (K : PySem.W.Frag) (vs : List V) (H : Hp) (Q : VK) (_ : XK) : Prop where
  h : ∃ (r sc : Addr) (ns : List Int) (many : Int), vs = [.ref r, .int many] ∧ RowOk H r sc ∧ SqL K H sc (ns.map V.int) ∧ 1 ≤ many ∧ many ≤ 1000 ∧
    ∀ (v : Int) (H' : Hp), 0 ≤ v → v < many → RowOk H' r sc → But r H H' → Q (.int v) H'
section
variable {P : Program} {w : World} {K : PySem.W.Frag} {mg : Str → Option Value} {base : Heap}
theorem scTaken : FnScope ["_law_row", "_law_many", "_law_found", "_law_cell"] ["_law_row", "_law_many"] (defScope sTaken) := ⟨rfl, rfl, rfl, by decide +kernel, rfl, by decide +kernel, by decide +kernel⟩
theorem ok_taken {f : Addr} {fd : FuncData} (F : Fun K "_law_taken" "_law_taken" sTaken f fd) (T : Bt mg) : FnOk P w K mg base CX0 1 f fd ["_law_row", "_law_many"] (spTaken K) := by
  refine F.ok scTaken (fun vs H Q E h => ?_) (fun cdv A outer s H vs Q E hr h => ?_)
  · obtain ⟨r, sc, ns, many, rfl, _⟩ := h.h
    rfl
  · obtain ⟨r, sc, ns, many, rfl, R, S, h1, h2, k⟩ := h.h
    obtain ⟨i, m, e, hR, hi, hm0, hm, he⟩ := R.h
    have dv : CDivW e many := wide_div (b := 10) (by omega) (by omega) (by decide) (by decide)
    refine ⟨_, pss_cons (ps_if (pt_cmpR op_gt (pe_ix ix_list (pv 0) pe_int (fun _ _ => rfl)) pe_int (nomark _))
        (pss_cons (ps_set (i := 2) scTaken.nd rfl (.inl rfl) (pe_op op_mod (pe_callTy call_int1 (by rfl) T.int (by decide +kernel) (pa_cons (pe_ix ix_list (pv 0) pe_int (fun _ _ => rfl)) pa_nil)) (pv 1)))
        (pss_cons (ps_asg (pe_op op_fdivW (pe_ix ix_list (pv 0) pe_int (fun _ _ => rfl)) (pv 1)) (pg_sub (pv 0) pe_int set_list))
        (pss_one (ps_ret (pv 2))))) pss_nil)
      (pss_cons (ps_asg (pe_op op_add (pe_ix ix_list (pv 0) pe_int (fun _ _ => rfl)) pe_int) (pg_sub (pv 0) pe_int set_list))
      (pss_cons (ps_if (pt_cmpR op_gt (pe_ix ix_list (pv 0) pe_int (fun _ _ => rfl)) (pe_callB call_len_seq (by rfl) T.len PySem.boot_len (pa_cons (pe_ix ix_list (pv 0) pe_int (fun _ _ => rfl)) pa_nil)) (nomark _))
        (pss_cons (ps_asg (pe_op op_mod (pe_callTy call_int1 (by rfl) T.int (by decide +kernel) (pa_cons (pe_op op_add (pe_op op_mul (pe_ix ix_list (pv 0) pe_int (fun _ _ => rfl)) pe_int) pe_int) pa_nil)) pe_int) (pg_sub (pv 0) pe_int set_list))
        (pss_one (ps_ret (pe_op op_mod (pe_callTy call_int1 (by rfl) T.int (by decide +kernel) (pa_cons (pe_op op_fdiv (pe_ix ix_list (pv 0) pe_int (fun _ _ => rfl)) pe_int) pa_nil)) (pv 1))))) pss_nil)
      (pss_cons (ps_set (i := 3) scTaken.nd rfl (.inl rfl) (pe_ix ix_list (pe_ix ix_list (pv 0) pe_int (fun _ _ => rfl)) (pe_op op_sub (pe_ix ix_list (pv 0) pe_int (fun _ _ => rfl)) pe_int) (fun _ _ => rfl)))
      (pss_cons (ps_asg (pe_op op_mod (pe_callTy call_int1 (by rfl) T.int (by decide +kernel) (pa_cons (pe_op op_add (pe_op op_add (pe_op op_mul (pe_ix ix_list (pv 0) pe_int (fun _ _ => rfl)) pe_int) (pv 3)) pe_int) pa_nil)) pe_int) (pg_sub (pv 0) pe_int set_list))
      (pss_cons (ps_if (pt_cmpR op_ge (pv 3) (pe_op op_pow pe_int pe_int) (nomark _)) (pss_one (ps_asg (pe_op op_fdivW (pv 3) (pv 1)) (pg_sub (pv 0) pe_int set_list))) pss_nil)
      (pss_one (ps_ret (pe_op op_mod (pe_callTy call_int1 (by rfl) T.int (by decide +kernel) (pa_cons (pv 3) pa_nil)) (pv 1))))))))), ?_⟩
    refine ⟨_, rfl, r, _, _, .int e, rfl, rfl, SqL.of hR, rfl, _, _, rfl, rfl, _, rfl, ?_⟩
    refine ite2 (fun z => ?_) (fun _ => ?_)
    · refine ⟨_, rfl, r, _, _, .int e, rfl, rfl, SqL.of hR, rfl, .inl ⟨_, rfl, _, rfl, _, _, rfl, rfl, (by omega), ?_⟩⟩
      refine ⟨_, rfl, r, _, _, .int e, rfl, rfl, SqL.of hR, rfl, _, rfl, _, _, rfl, rfl, dv, ?_⟩
      refine ⟨_, rfl, r, _, _, 3, rfl, rfl, hR, rfl, _, rfl, ?_⟩
      exact k _ _ (Int.emod_nonneg _ (by omega)) (Int.emod_lt_of_pos _ (by omega)) ⟨⟨i, m, e / many, upd_same, hi, hm0, hm, Int.ediv_nonneg he (by omega)⟩⟩ but_upd
    · refine ⟨_, rfl, r, _, _, .int i, rfl, rfl, SqL.of hR, rfl, _, _, rfl, rfl, ?_⟩
      refine ⟨_, rfl, r, _, _, 1, rfl, rfl, hR, rfl, ?_⟩
      have S1 : SqL K (upd H r (.lst [.ref sc, .int (i + 1), .int m, .int e])) sc (ns.map V.int) := but_upd.seqR R S
      refine ⟨_, rfl, r, _, _, .int (i + 1), rfl, rfl, SqL.of upd_same, rfl, ?_⟩
      refine ⟨_, rfl, r, _, _, .ref sc, rfl, rfl, SqL.of upd_same, rfl, sc, _, rfl, .inl S1, _, _, rfl, rfl, _, rfl, ?_⟩
      refine ite2 (fun z => ?_) (fun z => ?_)
      · refine ⟨_, rfl, r, _, _, .int m, rfl, rfl, SqL.of upd_same, rfl, _, _, rfl, rfl, .inl ⟨by omega, by omega⟩, _, _, rfl, rfl, .inl ⟨_, rfl, _, _, rfl, rfl, (by show (0 : Int) < 2147483647; decide), ?_⟩⟩
        refine ⟨_, rfl, r, _, _, 2, rfl, rfl, upd_same, rfl, ?_⟩
        refine ⟨_, rfl, r, _, _, .int ((m * 48271 + 11) % 2147483647), rfl, rfl, SqL.of upd_same, rfl, _, _, rfl, rfl, ⟨by decide, by decide⟩, .inl ⟨_, rfl, _, rfl, _, _, rfl, rfl, (by omega), ?_⟩⟩
        refine k _ _ (Int.emod_nonneg _ (by omega)) (Int.emod_lt_of_pos _ (by omega)) ⟨⟨i + 1, (m * 48271 + 11) % 2147483647, e, upd_same, by omega, Int.emod_nonneg _ (by decide), Int.emod_lt_of_pos _ (by decide), he⟩⟩ (but_upd.trans but_upd)
      · have hlt : i < ns.length := by
          have := of_decide_eq_false (by simpa using z : decide ((ns.map V.int).length < i + 1) = false)
          rw [List.length_map] at this
          omega
        have hc : ∃ c, ns[i.toNat]? = some c := ⟨ns[i.toNat]'(by omega), List.getElem?_eq_getElem (by omega)⟩
        obtain ⟨c, hc⟩ := hc
        have hat : atI (ns.map V.int) ((i + 1) - 1) = some (.int c) := by
          have e1 : (i + 1) - 1 = ((i.toNat : Nat) : Int) := by omega
          rw [e1]
          exact atI_nat (by rw [List.getElem?_map, hc]; rfl)
        refine ⟨_, rfl, r, _, _, .ref sc, rfl, rfl, SqL.of upd_same, rfl, _, rfl, r, _, _, .int (i + 1), rfl, rfl, SqL.of upd_same, rfl, _, _, rfl, rfl, sc, _, _, .int c, rfl, rfl, S1, hat, ?_⟩
        refine ⟨_, rfl, r, _, _, .int m, rfl, rfl, SqL.of upd_same, rfl, _, _, rfl, rfl, .inl ⟨by omega, by omega⟩, _, rfl, _, _, rfl, rfl, _, _, rfl, rfl, .inl ⟨_, rfl, _, _, rfl, rfl, (by show (0 : Int) < 2147483647; decide), ?_⟩⟩
        refine ⟨_, rfl, r, _, _, 2, rfl, rfl, upd_same, rfl, ?_⟩
        refine ⟨_, rfl, _, _, rfl, rfl, ⟨by decide, by decide, by decide⟩, _, _, rfl, rfl, _, rfl, ?_⟩
        have m1 := Int.emod_nonneg (m * 48271 + c + 11) (show (2147483647 : Int) ≠ 0 by decide)
        have m2 := Int.emod_lt_of_pos (m * 48271 + c + 11) (show (0 : Int) < 2147483647 by decide)
        have v1 := Int.emod_nonneg c (show many ≠ 0 by omega)
        have v2 := Int.emod_lt_of_pos c (show 0 < many by omega)
        refine ite2 (fun z => ?_) (fun _ => ?_)
        · have hc0 : (10 : Int) ^ (18 : Int).toNat ≤ c := of_decide_eq_true z
          have hc1 : 0 ≤ c := by
            have : (0 : Int) ≤ (10 : Int) ^ (18 : Int).toNat := by decide
            omega
          refine ⟨_, rfl, _, rfl, _, _, rfl, rfl, wide_div (b := 10) (by omega) (by omega) (by decide) (by decide), ?_⟩
          refine ⟨_, rfl, r, _, _, 3, rfl, rfl, upd_same, rfl, ?_⟩
          refine ⟨_, rfl, .inl ⟨_, rfl, _, rfl, _, _, rfl, rfl, (by omega), ?_⟩⟩
          exact k _ _ v1 v2 ⟨⟨i + 1, _, c / many, upd_same, by omega, m1, m2, Int.ediv_nonneg hc1 (by omega)⟩⟩ ((but_upd.trans but_upd).trans but_upd)
        · refine ⟨_, rfl, .inl ⟨_, rfl, _, rfl, _, _, rfl, rfl, (by omega), ?_⟩⟩
          exact k _ _ v1 v2 ⟨⟨i + 1, _, e, upd_same, by omega, m1, m2, he⟩⟩ (but_upd.trans but_upd)
end
end DL

set_option Elab.async false
set_option maxRecDepth 100000
namespace DL
open PySem L2
theorem keys_put {kvs : List (List Key × V)} {bs : List Bar} {b : Bar} (v : V) (h : kvs.map (·.1) = bs.map Bar.key) (hn : bs.Nodup) :
    ∃ bs' : List Bar, (putK kvs b.key v).map (·.1) = bs'.map Bar.key ∧ bs'.Nodup ∧ (∀ x ∈ bs', x = b ∨ x ∈ bs) ∧ bs'.length ≤ bs.length + 1 := by
  unfold putK
  by_cases e : (kvs.any fun kv => decide (kv.1 = b.key)) = true
  · rw [if_pos e]
    refine ⟨bs, ?_, hn, fun x hx => .inr hx, Nat.le_succ _⟩
    rw [← h, List.map_map]
    refine List.map_congr_left fun kv _ => ?_
    show (if kv.1 = b.key then (kv.1, v) else kv).1 = kv.1
    by_cases q : kv.1 = b.key
    · rw [if_pos q]
    · rw [if_neg q]
  · rw [if_neg e]
    have hnot : b ∉ bs := fun hm => e (by
      rw [List.any_eq_true]
      have : b.key ∈ kvs.map (·.1) := by rw [h]; exact List.mem_map.mpr ⟨b, hm, rfl⟩
      obtain ⟨kv, hkv, q⟩ := List.mem_map.mp this
      exact ⟨kv, hkv, decide_eq_true q⟩)
    refine ⟨bs ++ [b], by rw [List.map_append, List.map_append, h]; rfl, ?_, fun x hx => ?_, by simp⟩
    · rw [List.nodup_append]
      refine ⟨hn, List.nodup_cons.mpr ⟨by simp, List.nodup_nil⟩, fun x hx y hy => ?_⟩
      rw [List.mem_singleton.mp hy]
      exact fun q => hnot (q ▸ hx)
    · rcases List.mem_append.mp hx with hx | hx
      · exact .inr hx
      · exact .inl (List.mem_singleton.mp hx)
theorem asc_of {n : Int} (hn : n ≤ 7) {xs bs : List Bar} (hp : xs.Perm bs) (hs : xs.Pairwise fun x y => x.code ≤ y.code) (hd : bs.Nodup) (ho : ∀ b ∈ bs, b.ok n) : OkBars n xs := by
  have hx : ∀ b ∈ xs, b.ok n := fun b hb => ho b (hp.mem_iff.mp hb)
  refine ⟨hx, ?_⟩
  have hd' : xs.Nodup := hp.nodup_iff.mpr hd
  have := hs.and hd'
  refine List.Pairwise.imp_of_mem (fun {a b} ha hb q => ?_) this
  obtain ⟨q1, q2⟩ := q
  rcases Int.lt_or_eq_of_le q1 with z | z
  · exact z
  · exact absurd (Bar.code_inj ((hx a ha).low hn) ((hx b hb).low hn) z) q2
structure spParts (K : PySem.W.Frag) (vs : List V) (H : Hp) (Q : VK) (_ : XK) : Prop where
  h : ∃ (r sc : Addr) (ns : List Int) (most : Int), vs = [.ref r, .int most] ∧ RowOk H r sc ∧ SqL K H sc (ns.map V.int) ∧ 1 ≤ most ∧ most ≤ 7 ∧
    ∀ (p t : Addr) (n : Int) (ks : List (Addr × Bar)) (H' : Hp), H p = none → H t = none → 1 ≤ n → n ≤ most → H' p = some (.lst [.int n, .ref t]) → BarsAt H' t ks → OkBars n (ks.map (·.2)) → ks.length ≤ 13 → RowOk H' r sc → But r H H' → Q (.ref p) H'
theorem three_at {v : Int} (h0 : 0 ≤ v) (h3 : v < 3) : ∃ c : Int, atI [V.int 3, V.int 6, V.int 14] v = some (.int c) ∧ 1 ≤ c ∧ c ≤ 14 := by
  have : v = 0 ∨ v = 1 ∨ v = 2 := by omega
  rcases this with rfl | rfl | rfl
  · exact ⟨3, rfl, by decide, by decide⟩
  · exact ⟨6, rfl, by decide, by decide⟩
  · exact ⟨14, rfl, by decide, by decide⟩
theorem two_at {v : Int} (h0 : 0 ≤ v) (h3 : v < 2) : ∃ c : Bool, atI [V.str "open", V.str "shut"] v = some (.str (wd c)) := by
  have : v = 0 ∨ v = 1 := by omega
  rcases this with rfl | rfl
  · exact ⟨false, rfl⟩
  · exact ⟨true, rfl⟩
section
variable {P : Program} {w : World} {K : PySem.W.Frag} {mg : Str → Option Value} {base : Heap}
theorem scParts : FnScope ["_law_row", "_law_most", "_law_many", "_law_found", "_law_k", "_law_drawer", "_law_other", "_law_way", "_law_stand"] ["_law_row", "_law_most"] (defScope sParts) := ⟨rfl, rfl, rfl, by decide +kernel, rfl, by decide +kernel, by decide +kernel⟩
theorem ok_parts {f f1 : Addr} {fd fd1 : FuncData} (F : Fun K "_law_parts" "_law_parts" sParts f fd) (T : Bt mg) (G : FnOk P w K mg base CX0 1 f1 fd1 ["_law_row", "_law_many"] (spTaken K)) (g1 : mg "_law_taken" = some (.ref f1)) (k1 : PySem.W.keepIn K (.ref f1) = true) (b1 : Binds K fd1 ["_law_row", "_law_many"] []) :
    FnOk P w K mg base CX0 2 f fd ["_law_row", "_law_most"] (spParts K) := by
  refine F.ok scParts (fun vs H Q E h => ?_) (fun cdv A outer s H vs Q E hr h => ?_)
  · obtain ⟨r, sc, ns, most, rfl, _⟩ := h.h
    rfl
  · obtain ⟨r, sc, ns, most, rfl, R, S, h1, h7, k⟩ := h.h
    have hu := hu_of hr
    obtain ⟨i0, m0, e0, hR0, _⟩ := id R.h
    refine ⟨_, pss_cons (ps_par (i := 2) (j := 3) (by rfl) scParts.nd rfl rfl (by decide) rfl rfl (pa_cons (pe_op op_add pe_int (pe_call G (hr.mono (by decide)) rfl g1 k1 b1 .nil pass0 (pa_cons (pv 0) (pa_cons (pv 1) pa_nil)))) (pa_cons pe_dnewT pa_nil)) (by rfl))
      (pss_cons (ps_for PassesOwn.never rfl (pi_range1 (by rfl) T.range (pa_cons (pe_call G (hr.mono (by decide)) rfl g1 k1 b1 .nil pass0 (pa_cons (pv 0) (pa_cons (pe_ix ix_list (pe_lst (pa_cons pe_int (pa_cons pe_int (pa_cons pe_int pa_nil)))) (pe_call G (hr.mono (by decide)) rfl g1 k1 b1 .nil pass0 (pa_cons (pv 0) (pa_cons pe_int pa_nil))) (fun _ _ => rfl)) pa_nil))) pa_nil)) (pg_name (i := 4) scParts.nd rfl (.inl rfl))
        (pss_cons (ps_par (i := 5) (j := 6) (by rfl) scParts.nd rfl rfl (by decide) rfl rfl (pa_cons (pe_call G (hr.mono (by decide)) rfl g1 k1 b1 .nil pass0 (pa_cons (pv 0) (pa_cons (pv 2) pa_nil))) (pa_cons (pe_call G (hr.mono (by decide)) rfl g1 k1 b1 .nil pass0 (pa_cons (pv 0) (pa_cons (pv 2) pa_nil))) pa_nil)) (by rfl))
        (pss_one (ps_if (pt_cmpR op_ne (pv 5) (pv 6) (nomark _))
          (pss_cons (ps_par (i := 7) (j := 8) (by rfl) scParts.nd rfl rfl (by decide) rfl rfl (pa_cons (pe_ix ix_list (pe_lst (pa_cons pe_str (pa_cons pe_str pa_nil))) (pe_op op_fdiv (pe_call G (hr.mono (by decide)) rfl g1 k1 b1 .nil pass0 (pa_cons (pv 0) (pa_cons pe_int pa_nil))) pe_int) (fun _ _ => rfl))
            (pa_cons (pe_ix ix_list (pe_lst (pa_cons pe_str (pa_cons pe_str pa_nil))) (pe_call G (hr.mono (by decide)) rfl g1 k1 b1 .nil pass0 (pa_cons (pv 0) (pa_cons pe_int pa_nil))) (fun _ _ => rfl)) pa_nil)) (by rfl))
          (pss_one (ps_dput hu (pv 3) (pe_tup (pa_cons (pv 5) (pa_cons (pv 7) (pa_cons (pv 6) (pa_cons (pv 8) pa_nil))))) pe_bl rfl))) pss_nil))))
      (pss_one (ps_ret (pe_lst (pa_cons (pv 2) (pa_cons (pe_callTy call_tuple_of (by rfl) T.tuple (by decide +kernel) (pa_cons (pe_callB (cr_sortB (by rfl)) (by rfl) T.sorted (by decide +kernel) (pa_cons (pv 3) pa_nil)) pa_nil)) pa_nil)))))), ?_⟩
    -- many, found
    refine ⟨_, rfl, _, rfl, ⟨⟨r, sc, ns, most, rfl, R, S, h1, by omega, fun v H1 v0 v1 R1 B1 => ?_⟩⟩⟩
    refine ⟨_, _, rfl, rfl, fun d hd => ⟨_, _, rfl, ?_⟩⟩
    obtain ⟨i1, m1, e1, hR1, _⟩ := id R1.h
    have ndr : d ≠ r := (ne_of_none hR1 hd).symm
    have hd0 : H d = none := by
      cases q : H d with
      | none => rfl
      | some o =>
        rw [B1 d o ndr q] at hd
        cases hd
    have R2 : RowOk (upd H1 d (.dT [])) r sc := R1.same (same_upd hd)
    have B2 : But r H (upd H1 d (.dT [])) := B1.trans (sbut (same_upd hd))
    -- range(..)
    refine ⟨_, rfl, (by show 3 ≤ sizeLine; decide), fun l hl => ?_⟩
    have nlr : l ≠ r := by
      obtain ⟨_, _, _, q, _⟩ := id R2.h
      exact (ne_of_none q hl).symm
    have R3 := R2.same (same_upd (o := .lst [V.int 3, V.int 6, V.int 14]) hl)
    have B3 : But r H _ := B2.trans (sbut (same_upd (o := .lst [V.int 3, V.int 6, V.int 14]) hl))
    refine ⟨_, rfl, ⟨⟨r, sc, ns, 3, rfl, R3, B3.seqR R S, by decide, by decide, fun v2 H3 w0 w1 R4 B4 => ?_⟩⟩⟩
    obtain ⟨c, hc, c1, c14⟩ := three_at w0 w1
    refine ⟨l, _, v2, .int c, rfl, rfl, SqL.of (B4 _ _ nlr upd_same), hc, ?_⟩
    have B5 : But r H H3 := B3.trans B4
    refine ⟨⟨r, sc, ns, c, rfl, R4, B5.seqR R S, c1, by omega, fun v3 H4 x0 x1 R5 B6 => ?_⟩⟩
    refine ⟨v3, rfl, by omega, by omega, ?_⟩
    have B7 : But r H H4 := B5.trans B6
    have hd4 : H4 d = some (.dT []) := B6 _ _ ndr (B4 _ _ ndr (by rw [upd_ne (ne_of_none (upd_same (H := H1) (a := d)) hl)]; exact upd_same))
    refine for_range (lo := 0) (n := v3.toNat) (fun i σ H5 => ∃ (kvs : List (List Key × V)) (bs : List Bar) (u4 u5 u6 u7 u8 : Option V), σ = [some (.ref r), some (.int most), some (.int (1 + v)), some (.ref d), u4, u5, u6, u7, u8] ∧ H5 d = some (.dT kvs) ∧ kvs.map (·.1) = bs.map Bar.key ∧ bs.Nodup ∧ (∀ b ∈ bs, b.ok (1 + v)) ∧ bs.length ≤ i ∧ RowOk H5 r sc ∧ But r H H5)
      ⟨[], [], _, _, _, _, _, rfl, hd4, rfl, List.nodup_nil, fun b hb => by simp at hb, Nat.le_refl _, R5, B7⟩ ?_ ?_
    · rintro i σ H5 hi ⟨kvs, bs, u4, u5, u6, u7, u8, rfl, hD, hk, hnd, hok, hlen, R6, B8⟩
      refine ⟨_, rfl, _, rfl, ⟨⟨r, sc, ns, 1 + v, rfl, R6, B8.seqR R S, by omega, by omega, fun a H6 a0 a1 R7 B9 => ?_⟩⟩⟩
      refine ⟨_, rfl, _, rfl, ⟨⟨r, sc, ns, 1 + v, rfl, R7, (B8.trans B9).seqR R S, by omega, by omega, fun o H7 o0 o1 R8 B10 => ?_⟩⟩⟩
      have hD7 : H7 d = some (.dT kvs) := B10 _ _ ndr (B9 _ _ ndr hD)
      have B11 : But r H H7 := (B8.trans B9).trans B10
      refine ⟨_, _, rfl, _, rfl, _, rfl, rfl, _, rfl, ?_⟩
      refine ite2 (fun z => ?_) (fun _ => ?_)
      · have hao : a ≠ o := fun q => by subst q; simp at z
        refine ⟨(by show 2 ≤ sizeLine; decide), fun l1 hl1 => ?_⟩
        have R9 := R8.same (same_upd (o := .lst [V.str "open", V.str "shut"]) hl1)
        have nl1 : l1 ≠ r := by
          obtain ⟨_, _, _, q, _⟩ := id R8.h
          exact (ne_of_none q hl1).symm
        refine ⟨_, rfl, ⟨⟨r, sc, ns, 3, rfl, R9, (B11.trans (sbut (same_upd hl1))).seqR R S, by decide, by decide, fun y H8 y0 y1 R10 B12 => ?_⟩⟩⟩
        obtain ⟨cw, hcw⟩ := two_at (v := y / 2) (by omega) (by omega)
        refine ⟨_, _, rfl, rfl, ⟨by decide, by decide⟩, l1, _, _, _, rfl, rfl, SqL.of (B12 _ _ nl1 upd_same), hcw, ?_⟩
        refine ⟨(by show 2 ≤ sizeLine; decide), fun l2 hl2 => ?_⟩
        have R11 := R10.same (same_upd (o := .lst [V.str "open", V.str "shut"]) hl2)
        have nl2 : l2 ≠ r := by
          obtain ⟨_, _, _, q, _⟩ := id R10.h
          exact (ne_of_none q hl2).symm
        have B13 : But r H7 (upd H8 l2 (.lst [V.str "open", V.str "shut"])) := ((sbut (same_upd hl1)).trans B12).trans (sbut (same_upd hl2))
        refine ⟨_, rfl, ⟨⟨r, sc, ns, 2, rfl, R11, (B11.trans B13).seqR R S, by decide, by decide, fun y2 H9 z0 z1 R12 B14 => ?_⟩⟩⟩
        obtain ⟨ct, hct⟩ := two_at z0 z1
        refine ⟨l2, _, _, _, rfl, rfl, SqL.of (B14 _ _ nl2 upd_same), hct, ?_⟩
        have B15 : But r H7 H9 := B13.trans B14
        have hD9 : H9 d = some (.dT kvs) := B15 _ _ ndr hD7
        refine ⟨_, _, rfl, _, rfl, _, rfl, _, rfl, _, rfl, _, rfl, (by show 4 ≤ sizeLine; decide), fun q hq => ?_⟩
        have hlen2 : kvs.length = bs.length := by
          have := congrArg List.length hk
          rw [List.length_map, List.length_map] at this
          exact this
        refine ⟨d, _, rfl, DPut.t (k := (⟨a, cw, o, ct⟩ : Bar).key) (by rw [upd_ne (ne_of_none hD9 hq)]; exact hD9) upd_same (by rw [hlen2]; exact small1000 (by omega)), ?_⟩
        obtain ⟨bs', g1', g2', g3', g4'⟩ := keys_put (b := ⟨a, cw, o, ct⟩) (.bl true) hk hnd
        have nqr : q ≠ r := by
          obtain ⟨_, _, _, q', _⟩ := id R12.h
          exact (ne_of_none q' hq).symm
        refine ⟨_, bs', _, _, _, _, _, rfl, upd_same, g1', g2', fun b hb => ?_, by omega, ?_, ?_⟩
        · rcases g3' b hb with rfl | hb
          · exact ⟨a0, a1, o0, o1, hao⟩
          · exact hok b hb
        · obtain ⟨i', m', e', q1, q2⟩ := (R12.same (same_upd (o := .tup (⟨a, cw, o, ct⟩ : Bar).vs) hq)).h
          exact ⟨⟨i', m', e', by rw [upd_ne (Ne.symm ndr)]; exact q1, q2⟩⟩
        · refine fun c u hc hH => ?_
          have hcd : c ≠ d := fun z' => by rw [z', hd0] at hH; cases hH
          rw [upd_ne hcd]
          exact same_upd hq _ _ (B15 _ _ hc (B11 _ _ hc hH))
      · exact ⟨kvs, bs, _, _, _, _, _, rfl, hD7, hk, hnd, hok, by omega, R8, B11⟩
    · rintro σ H5 ⟨kvs, bs, u4, u5, u6, u7, u8, rfl, hD, hk, hnd, hok, hlen, R6, B8⟩
      refine ⟨_, rfl, _, rfl, d, kvs, bs, rfl, .inl hD, hk, fun b hb => (hok b hb).low (by omega), fun ks p g1' g2' g3' hp => ?_⟩
      refine ⟨p, _, rfl, .inl ⟨SqL.of upd_same, fun t ht => ?_⟩⟩
      refine ⟨(by show 2 ≤ sizeLine; decide), fun q hq => ?_⟩
      have sp : Same H5 (upd H5 p (.lst (ks.map fun k => V.ref k.1))) := same_upd hp
      have st : Same H5 (upd (upd H5 p (.lst (ks.map fun k => V.ref k.1))) t (.tup (ks.map fun k => V.ref k.1))) := sp.trans (same_upd ht)
      have sq : Same H5 _ := st.trans (same_upd (o := .lst [.int (1 + v), .ref t]) hq)
      obtain ⟨i', m', e', qR, _⟩ := id R6.h
      have nfree : ∀ {c : Addr}, H5 c = none → H c = none := fun {c} hc => by
        cases q' : H c with
        | none => rfl
        | some o =>
          have ncr : c ≠ r := fun z => by rw [z, qR] at hc; cases hc
          rw [B8 c o ncr q'] at hc
          cases hc
      refine k q t (1 + v) ks _ (nfree (st.free hq)) (nfree (sp.free ht)) (by omega) (by omega) upd_same ⟨by rw [upd_ne (ne_of_none upd_same hq)]; exact upd_same, fun kk hkk => sq _ _ (g1' kk hkk)⟩
        (asc_of (by omega) g2' g3' hnd hok) ?_ (R6.same sq) (B8.trans (sbut sq))
      have := g2'.length_eq
      rw [List.length_map] at this
      omega
/-! ### the cabinet of a draw -/
structure spMade (C : Addr) (vs : List V) (H : Hp) (Q : VK) (_ : XK) : Prop where
  h : ∃ (p t : Addr) (n : Int) (ks : List (Addr × Bar)) (zs : List V), vs = [.ref p] ∧ H p = some (.lst (.int n :: .ref t :: zs)) ∧ 1 ≤ n ∧ n ≤ 7 ∧ BarsAt H t ks ∧ OkBars n (ks.map (·.2)) ∧
    ∀ (c : Addr) (H' : Hp), H c = none → CabAt C H' c n t → Same H H' → Q (.ref c) H'
theorem scMade : FnScope ["_law_d"] ["_law_d"] (defScope sMade) := ⟨rfl, rfl, rfl, by decide +kernel, rfl, by decide +kernel, by decide +kernel⟩
theorem ok_made {f fI C : Addr} {fd fdI : FuncData} (F : Fun K "_law_made" "_law_made" sMade f fd) (T : CabT K mg C) (M : Mk K C fI) (G : FnOk P w K mg base CX0 5 fI fdI ["self", "drawers", "bars"] (spInit C)) (bI : Binds K fdI ["self", "drawers", "bars"] []) :
    FnOk P w K mg base CX0 7 f fd ["_law_d"] (spMade C) := by
  refine F.ok scMade (fun vs H Q E h => ?_) (fun cdv A outer s H vs Q E hr h => ?_)
  · obtain ⟨p, t, n, ks, zs, rfl, _⟩ := h.h
    rfl
  · obtain ⟨p, t, n, ks, zs, rfl, hp, h1, h7, B, O, k⟩ := h.h
    refine ⟨_, pss_one (ps_ret (pe_make M G hr rfl T.mgC bI .nil pass0 (pa_cons (pe_ix ix_list (pv 0) pe_int (fun _ _ => rfl)) (pa_cons (pe_ix ix_list (pv 0) pe_int (fun _ _ => rfl)) pa_nil)))), ?_⟩
    refine ⟨_, rfl, p, _, 0, .int n, rfl, rfl, SqL.of hp, atI_nat (j := 0) rfl, _, rfl, p, _, 1, .ref t, rfl, rfl, SqL.of hp, atI_nat (j := 1) rfl, ?_⟩
    intro x dx nx ndx nex
    have s0 : Same H (upd (upd H dx (.own x)) x (.ins C dx [])) := fun b o e => by
      rw [upd_ne (ne_of_none e nx), upd_ne (ne_of_none e ndx)]
      exact e
    refine ⟨⟨x, dx, n, t, ks, rfl, upd_same, h1, h7, B.same s0, O, fun H' hx kp => ⟨rfl, ?_⟩⟩⟩
    exact k x H' nx ⟨dx, hx⟩ fun b o e => kp b o (ne_of_none e nx) (s0 b o e)
end
end DL

set_option Elab.async false
set_option maxRecDepth 100000
namespace DL
open PySem L2
/-! ### rules with the written part named, for blocks within blocks -/
theorem cr_anyK {X : Cx} {K : PySem.W.Frag} (hK : X.K = K) (hc : X.calm = true) : CallR X (.builtin "any") (rAny K) := by subst hK; exact cr_any hc
theorem pi_tupK {X : Cx} {K : PySem.W.Frag} {tg l : Expr} {tl : TE} (hK : X.K = K) (hl : PE X l tl) : PI X tg l (iTup K tl) := by subst hK; exact pi_tup hl
theorem ix_listK {X : Cx} {K : PySem.W.Frag} (hK : X.K = K) : IxR X (rIxL K) := by subst hK; exact ix_list
theorem pe_bmK {X : Cx} {K : PySem.W.Frag} {T : String} {name : Str} {id : String} {r : V → List V → Hp → VK → Prop} {o e : Expr} {es : List Expr} {to : TE} {t : TA} {apos cpos : Pos} (hK : X.K = K) (pa : PlainAttrs T) (slot : Slot T name id) (hty : typeOf (.builtin id) = pure (.type "method_descriptor")) (hm : MtR X id r) (ho : PE X o to) (ha : PA X (e :: es) t)
    (hbase : attributeBase o name X.env (eval o X.env) = eval o X.env := by rfl)
    (hfew : ((backTo cpos (starEach (e :: es) X.env)).all (fun x => !x.1) && (backToKw cpos (keywordEach [] X.env)).all (fun x => x.1.isSome)
      && decide ((e :: es).length + ([] : List Keyword).length + (if ([] : List Keyword).isEmpty then 0 else 1) < 30)) = true := by rfl)
    (hline : (apos.endLine == cpos.line) = true := by rfl) (hs : starEach (e :: es) X.env = (false, eval e X.env) :: starEach es X.env := by rfl) (hplain : (backTo cpos (starEach es X.env)).any (·.1) = false := by rfl) :
    PE X (.Call (.Attribute o name apos) (e :: es) [] cpos) (tBM K T r to t) := by subst hK; exact pe_bm pa slot hty hm ho ha hbase hfew hline hs hplain
theorem boot_any_ : bootBuiltins ("any" : Str) = some (.builtin "any") := by decide +kernel
end DL

set_option Elab.async false
set_option maxRecDepth 100000
namespace DL
open PySem L2 HT TL
/-! ### standings: a truth value a drawer (true: open) -/
def sg (b : Bool) : Nat := if b = true then 111 else 115
def sgs (b : Bool) : Str := ⟨#[sg b]⟩
def sstr (st : List Bool) : Str := ⟨(st.map sg).toArray⟩
theorem sstr_tl (st : List Bool) : (sstr st).cps.toList = st.map sg := by simp [sstr]
theorem sstr_len (st : List Bool) : (sstr st).length = st.length := by
  show (sstr st).cps.size = st.length
  rw [← Array.length_toList, sstr_tl, List.length_map]
theorem sg_inj : ∀ {a b : Bool}, sg a = sg b → a = b := by decide
theorem sstr_inj {a b : List Bool} (h : sstr a = sstr b) : a = b := by
  have h1 : a.map sg = b.map sg := by rw [← sstr_tl, ← sstr_tl, h]
  have : ∀ {a b : List Bool}, a.map sg = b.map sg → a = b := by
    intro a
    induction a with
    | nil => intro b h; cases b with | nil => rfl | cons y b => simp at h
    | cons x a ih =>
      intro b h
      cases b with
      | nil => simp at h
      | cons y b =>
        rw [List.map_cons, List.map_cons] at h
        injection h with h1 h2
        rw [sg_inj h1, ih h2]
  exact this h1
def sat (st : List Bool) (i : Int) : Bool := st.getD i.toNat false
theorem sstr_at {st : List Bool} {i : Int} (h0 : 0 ≤ i) (h1 : i < st.length) : atI (sstr st).cps.toList i = some (sg (sat st i)) := by
  have e : i = ((i.toNat : Nat) : Int) := by omega
  have hl : i.toNat < st.length := by omega
  rw [e]
  refine atI_nat ?_
  rw [sstr_tl, List.getElem?_map]
  unfold sat
  rw [Int.toNat_natCast, List.getD_eq_getElem?_getD, List.getElem?_eq_getElem hl]
  rfl
def sgn (b : Bool) : Str := if b = true then "s" else "o"
theorem sgs_sgn (x b : Bool) : decide ((V.str ⟨#[sg x]⟩) = V.str (sgn b)) = (x != b) := by revert x b; decide +kernel
theorem sgs_o (x : Bool) : decide ((V.str ⟨#[sg x]⟩) = V.str "o") = x := by revert x; decide +kernel
theorem sgs_s (x : Bool) : decide ((V.str ⟨#[sg x]⟩) = V.str "s") = !x := by revert x; decide +kernel
theorem wd_ne (a b : Bool) : decide ((V.str (wd a)) = V.str (wd b)) = (a == b) := by revert a b; decide +kernel
/-- whether the bar stands against the pull -/
def hind (b : Bar) (st : List Bool) (d : Int) : Bool := decide (b.d = d) && ((sat st d == b.w) && (sat st b.o == b.t))
def goesB (bs : List Bar) (st : List Bool) (d : Int) : Bool := !(bs.any fun b => hind b st d)
def flip (st : List Bool) (d : Int) : List Bool := st.set d.toNat (!sat st d)
theorem flip_len (st : List Bool) (d : Int) : (flip st d).length = st.length := by unfold flip; rw [List.length_set]
def drs (n : Nat) : List Int := (List.range n).map fun (i : Nat) => (i : Int)
def freeL (bs : List Bar) (st : List Bool) : List Int := (drs st.length).filter fun d => goesB bs st d
/-- the table of signs -/
structure SgT (K : PySem.W.Frag) (w : World) (mg : Str → Option Value) (aS : Addr) : Prop where
  g : mg "SIGNS" = some (.ref aS)
  o : KDct K w aS "open" (.str "o")
  s : KDct K w aS "shut" (.str "s")
theorem SgT.at {K : PySem.W.Frag} {w : World} {mg : Str → Option Value} {aS : Addr} (T : SgT K w mg aS) (b : Bool) : KDct K w aS (wd b) (.str (sgn b)) := by
  cases b
  · exact T.o
  · exact T.s
structure spHold (K : PySem.W.Frag) (vs : List V) (H : Hp) (Q : VK) (_ : XK) : Prop where
  h : ∃ (a : Addr) (b : Bar) (st : List Bool) (d : Int), vs = [.ref a, .str (sstr st), .int d] ∧ SqT K H a b.vs ∧ b.ok st.length ∧ st.length ≤ 7 ∧ 0 ≤ d ∧ d < st.length ∧ Q (.bl (hind b st d)) H
structure spMoved (vs : List V) (H : Hp) (Q : VK) (_ : XK) : Prop where
  h : ∃ (st : List Bool) (d : Int), vs = [.str (sstr st), .int d] ∧ st.length ≤ 7 ∧ 0 ≤ d ∧ d < st.length ∧ ∀ H', Same H H' → Q (.str (sstr (flip st d))) H'
theorem str_small {st : List Bool} (h : st.length ≤ 7) : (sstr st).length ≤ sizeLine := by rw [sstr_len]; exact Nat.le_of_lt (small1000 (by omega))
theorem cut_flip (st : List Bool) (d : Int) (h0 : 0 ≤ d) (h1 : d < st.length) (x : Str) (hx : x.cps.toList = [sg (!sat st d)]) : (cutS (sstr st) none (some d) ++ x) ++ cutS (sstr st) (some (d + 1)) none = sstr (flip st d) := by
  refine PyProof.Rows.ext_toList ?_
  obtain ⟨k, rfl⟩ : ∃ k : Nat, d = (k : Int) := ⟨d.toNat, by omega⟩
  have hk : k < st.length := by omega
  have e1 : ((k : Int) + 1) = ((k + 1 : Nat) : Int) := by omega
  have t1 : tl (cutS (sstr st) none (some (k : Int))) = (st.map sg).take k := by
    unfold tl cutS
    rw [HT.sIx_none, HT.sIx_nat, sstr_len, sstr_tl]
    simp [Nat.min_eq_left (Nat.le_of_lt hk)]
  have t2 : tl (cutS (sstr st) (some ((k : Int) + 1)) none) = (st.map sg).drop (k + 1) := by
    unfold tl cutS
    rw [e1, HT.sIx_none, HT.sIx_nat, sstr_len, sstr_tl]
    simp only [Nat.min_eq_left (show k + 1 ≤ st.length by omega)]
    rw [List.take_of_length_le (by rw [List.length_drop, List.length_map]; omega)]
  show tl _ = tl _
  rw [tl_append, tl_append, t1, t2, show tl x = _ from hx, show tl (sstr (flip st (k : Int))) = _ from sstr_tl _]
  unfold flip
  rw [Int.toNat_natCast, List.map_set, List.set_eq_take_append_cons_drop, if_pos (by rw [List.length_map]; exact hk)]
  simp
section
variable {P : Program} {w : World} {K : PySem.W.Frag} {mg : Str → Option Value} {base : Heap}
theorem scHinders : FnScope ["bar", "standing", "drawer", "barred", "way", "other", "stand"] ["bar", "standing", "drawer"] (defScope s_hinders) := ⟨rfl, rfl, rfl, by decide +kernel, rfl, by decide +kernel, by decide +kernel⟩
theorem ok_hinders {f aS : Addr} {fd : FuncData} (F : Fun K "hinders" "hinders" s_hinders f fd) (T : SgT K w mg aS) : FnOk P w K mg base CX0 1 f fd ["bar", "standing", "drawer"] (spHold K) := by
  refine F.ok scHinders (fun vs H Q E h => ?_) (fun cdv A outer s H vs Q E hr h => ?_)
  · obtain ⟨a, b, st, d, rfl, _⟩ := h.h
    rfl
  · obtain ⟨a, b, st, d, rfl, hq, hb, h7, d0, d1, k⟩ := h.h
    obtain ⟨b1, b2, b3, b4, b5⟩ := hb
    refine ⟨_, pss_cons (ps_asg (pv 0) (pg_tup (by rfl) (pgs_cons (pg_name (i := 3) scHinders.nd rfl (.inl rfl)) (pgs_cons (pg_name (i := 4) scHinders.nd rfl (.inl rfl)) (pgs_cons (pg_name (i := 5) scHinders.nd rfl (.inl rfl)) (pgs_cons (pg_name (i := 6) scHinders.nd rfl (.inl rfl)) pgs_nil))))))
      (pss_cons (ps_if (PW.pt (pw_or (pt_cmpR op_ne (pv 3) (pv 2) (nomark _)) (pw_or1 (pt_cmpR op_eq (pe_ix ix_str (pv 1) (pv 2) (fun _ _ => rfl)) (pe_ix ix_kdict (pe_glob (v := .ref aS) rfl T.g rfl) (pv 4) (fun _ _ => rfl)) (nomark _))))) (pss_one (ps_ret pe_bl)) pss_nil)
      (pss_one (ps_ret (pe_cmpR op_ne (pe_ix ix_str (pv 1) (pv 5) (fun _ _ => rfl)) (pe_ix ix_kdict (pe_glob (v := .ref aS) rfl T.g rfl) (pv 6) (fun _ _ => rfl)) (nomark _))))), ?_⟩
    refine ⟨_, rfl, a, _, rfl, hq, rfl, _, _, rfl, _, _, rfl, _, _, rfl, _, _, rfl, rfl, ?_⟩
    refine ⟨_, rfl, _, rfl, rfl, _, rfl, ?_⟩
    have e0 : decide ((V.int b.d) = V.int d) = decide (b.d = d) := decide_eq_decide.mpr ⟨fun z => by injection z, fun z => by rw [z]⟩
    show if (!decide ((V.int b.d) = V.int d)) = true then _ else _
    rw [e0]
    by_cases q : b.d = d
    · rw [decide_eq_true q]
      refine iteF ?_
      refine ⟨_, rfl, _, rfl, _, d, _, rfl, rfl, str_small h7, sstr_at d0 d1, _, rfl, aS, wd b.w, _, rfl, rfl, T.at b.w, rfl, _, rfl, ?_⟩
      show if decide ((V.str ⟨#[sg (sat st d)]⟩) = V.str (sgn b.w)) = true then _ else _
      rw [sgs_sgn]
      unfold hind at k
      rw [decide_eq_true q] at k
      cases e : (sat st d != b.w) with
      | true =>
        have e' : (sat st d == b.w) = false := by rw [bne, Bool.not_eq_true'] at e; exact e
        rw [e'] at k
        exact iteT k
      | false =>
        have e' : (sat st d == b.w) = true := by rw [bne, Bool.not_eq_false'] at e; exact e
        rw [e'] at k
        refine iteF ?_
        refine ⟨_, rfl, _, rfl, _, b.o, _, rfl, rfl, str_small h7, sstr_at b3 b4, _, rfl, aS, wd b.t, _, rfl, rfl, T.at b.t, rfl, ?_⟩
        show Q (.bl (!decide ((V.str ⟨#[sg (sat st b.o)]⟩) = V.str (sgn b.t)))) H
        rw [sgs_sgn, bne, Bool.not_not]
        exact k
    · rw [decide_eq_false q]
      unfold hind at k
      rw [decide_eq_false q] at k
      exact iteT k
theorem scMoved : FnScope ["standing", "drawer", "word"] ["standing", "drawer"] (defScope s_moved) := ⟨rfl, rfl, rfl, by decide +kernel, rfl, by decide +kernel, by decide +kernel⟩
theorem ok_moved {f aS : Addr} {fd : FuncData} (F : Fun K "moved" "moved" s_moved f fd) (T : SgT K w mg aS) : FnOk P w K mg base CX0 1 f fd ["standing", "drawer"] spMoved := by
  refine F.ok scMoved (fun vs H Q E h => ?_) (fun cdv A outer s H vs Q E hr h => ?_)
  · obtain ⟨st, d, rfl, _⟩ := h.h
    rfl
  · obtain ⟨st, d, rfl, h7, d0, d1, k⟩ := h.h
    refine ⟨_, pss_cons (ps_set (i := 2) scMoved.nd rfl (.inl rfl) (pe_ifExp (pt_cmpR op_eq (pe_ix ix_str (pv 0) (pv 1) (fun _ _ => rfl)) (pe_ix ix_kdict (pe_glob (v := .ref aS) rfl T.g rfl) pe_str (fun _ _ => rfl)) (nomark _)) pe_str pe_str))
      (pss_one (ps_ret (pe_op op_add_str (pe_op op_add_str (pe_slice sl_str (pv 0) po_none (po_some (pv 1))) (pe_ix ix_kdict (pe_glob (v := .ref aS) rfl T.g rfl) (pv 2) (fun _ _ => rfl))) (pe_slice sl_str (pv 0) (po_some (pe_op op_add (pv 1) pe_int)) po_none)))), ?_⟩
    refine ⟨_, rfl, _, rfl, _, d, _, rfl, rfl, str_small h7, sstr_at d0 d1, aS, _, _, rfl, rfl, T.s, rfl, _, rfl, ?_⟩
    show if decide ((V.str ⟨#[sg (sat st d)]⟩) = V.str "s") = true then _ else _
    rw [sgs_s]
    have fin : ∀ x : Bool, x = sat st d → (∃ v, ((L2.start ["standing", "drawer", "word"] [.str (sstr st), .int d]).set 2 (some (.str (wd x))))[0]? = some (some v) ∧ (∃ z, v = .str z ∧ ∃ i, i = d ∧ True)) → True := fun _ _ _ => trivial
    have small : ∀ a b : Str, a.length ≤ 7 → b.length ≤ 7 → a.length + b.length ≤ sizeLine := fun a b ha hb => Nat.le_of_lt (small1000 (by omega))
    have c7 : ∀ lo hi, (cutS (sstr st) lo hi).length ≤ 7 := fun lo hi => by
      show (cutS (sstr st) lo hi).cps.size ≤ 7
      unfold cutS
      rw [List.size_toArray, List.length_take, List.length_drop, sstr_tl, List.length_map]
      omega
    have one : ∀ b : Bool, (sgn b).length ≤ 7 ∧ (sgn b).cps.toList = [sg (!b)] := by decide +kernel
    have app : ∀ a b : Str, (a ++ b).length = a.length + b.length := fun a b => by
      show (a ++ b).cps.size = a.cps.size + b.cps.size
      rw [← Array.length_toList, ← Array.length_toList, ← Array.length_toList]
      exact (congrArg List.length (tl_append a b)).trans (List.length_append ..)
    cases e : sat st d with
    | false =>
      refine iteT ?_
      refine ⟨_, rfl, _, rfl, _, rfl, _, rfl, str_small h7, _, rfl, aS, wd false, _, rfl, rfl, T.at false, _, _, rfl, rfl, small _ _ (c7 _ _) (one false).1, ?_⟩
      refine ⟨_, rfl, _, rfl, _, _, rfl, rfl, _, rfl, _, rfl, str_small h7, _, _, rfl, rfl, ?_, ?_⟩
      · have h1 := c7 none (some d)
        have h2 := (one false).1
        have h3 := c7 (some (d + 1)) none
        have h4 := app (cutS (sstr st) none (some d)) (sgn false)
        exact Nat.le_of_lt (small1000 (by omega))
      · have := k H (Same.refl H)
        rw [← cut_flip st d d0 d1 (sgn false) (by rw [(one false).2, e])] at this
        exact this
    | true =>
      refine iteF ?_
      refine ⟨_, rfl, _, rfl, _, rfl, _, rfl, str_small h7, _, rfl, aS, wd true, _, rfl, rfl, T.at true, _, _, rfl, rfl, small _ _ (c7 _ _) (one true).1, ?_⟩
      refine ⟨_, rfl, _, rfl, _, _, rfl, rfl, _, rfl, _, rfl, str_small h7, _, _, rfl, rfl, ?_, ?_⟩
      · have h1 := c7 none (some d)
        have h2 := (one true).1
        have h3 := c7 (some (d + 1)) none
        have h4 := app (cutS (sstr st) none (some d)) (sgn true)
        exact Nat.le_of_lt (small1000 (by omega))
      · have := k H (Same.refl H)
        rw [← cut_flip st d d0 d1 (sgn true) (by rw [(one true).2, e])] at this
        exact this
end
end DL

set_option Elab.async false
set_option maxRecDepth 100000
namespace DL
open PySem L2 HT TL
theorem new_at {H : Hp} {a : Addr} {o : HO} (h : H a = none) : Same H (upd H a o) ∧ (upd H a o) a = some o := ⟨same_upd h, upd_same⟩
/-! ### comprehensions that pick, in one word -/
theorem take_pick {α : Type} (p : α → Bool) (v : α → V) {l : List α} {i : Nat} {z : α} (h : l[i]? = some z) :
    ((l.take (i + 1)).filter p).map v = if p z = true then ((l.take i).filter p).map v ++ [v z] else ((l.take i).filter p).map v := by
  obtain ⟨hl, e⟩ := List.getElem?_eq_some_iff.mp h
  rw [List.take_succ_eq_append_getElem hl, List.filter_append, e]
  by_cases q : p z = true
  · rw [if_pos q, List.filter_cons_of_pos q, List.filter_nil, List.map_append]
    rfl
  · rw [if_neg q, List.filter_cons_of_neg q, List.filter_nil, List.append_nil]
theorem lc_pick {α : Type} {J : It} {n : Nat} {G : Hp → Prop} {Y : Nat → Hp → V → Hp → Prop} (wk : Walk J n G Y) (l : List α) (hl : l.length = n) (hn : n ≤ 3000) (p : α → Bool) (v : α → V) {g : TG} {tt : TT} {te : TE} {vs : List Nat} {σ : L2.St} {H1 : Hp} {D : Addr} {Qd : Hp → Prop}
    (hD : H1 D = none) (hG : ∀ H, Same H1 H → G H)
    (hs : ∀ i x z H H' (Tk : V → Hp → Prop) (Nk : Hp → Prop), l[i]? = some z → Same H1 H → Y i H x H' → (∀ H4, p z = true → Same H H4 → Tk (v z) H4) → (∀ H4, p z = false → Same H H4 → Nk H4) →
      g x (wipe σ vs) H' fun σ2 H2 => wipe σ2 vs = wipe σ vs ∧ tt σ2 H2 fun b H3 => if b = true then te σ2 H3 Tk else Nk H3)
    (hd : ∀ H, Same H1 H → H D = some (.lst ((l.filter p).map v)) → Qd H) :
    ∃ W : Nat → Nat → Hp → Prop, (∃ m, W 0 m (upd H1 D (.lst []))) ∧ ∀ i m H, W i m H →
      (J.stop i H ∧ Qd H) ∨ (J.go i H ∧ ∃ Nx : Hp → Prop, (∀ H', Nx H' → ∃ m', m' < m ∧ W (i + 1) m' H') ∧ ∀ x H', J.yld i H x H' → g x (wipe σ vs) H' fun σ2 H2 => wipe σ2 vs = wipe σ vs ∧ tt σ2 H2 fun b H3 =>
        if b = true then te σ2 H3 fun y H4 => ∃ acc, H4 D = some (.lst acc) ∧ acc.length < sizeLine ∧ Nx (upd H4 D (.lst (acc ++ [y]))) else Nx H3) := by
  refine lc_it wk (fun i H' => Same H1 H' ∧ H' D = some (.lst (((l.take i).filter p).map v))) ⟨same_upd hD, upd_same⟩ (fun i H' _ q => hG H' q.1) ?_ ?_
  · rintro i x H H' hi ⟨s1, hD1⟩ y
    have hi' : i < l.length := by omega
    have ez : l[i]? = some l[i] := List.getElem?_eq_getElem hi'
    refine hs i x l[i] H H' _ _ ez s1 y (fun H4 hp s4 => ?_) (fun H4 hp s4 => ?_)
    · refine ⟨_, s4 _ _ hD1, ?_, fun b o e => ?_, ?_⟩
      · rw [List.length_map]
        have h1 := List.length_filter_le p (l.take i)
        rw [List.length_take] at h1
        have h2 : (3000 : Nat) < sizeLine := by decide
        omega
      · rw [upd_ne (ne_of_none e hD)]
        exact s4 _ _ (s1 b o e)
      · rw [upd_same, take_pick p v ez, if_pos hp]
    · refine ⟨s1.trans s4, ?_⟩
      rw [take_pick p v ez, if_neg (by rw [hp]; exact Bool.false_ne_true)]
      exact s4 _ _ hD1
  · rintro H ⟨s1, hD1⟩
    rw [← hl, List.take_length] at hD1
    exact hd H s1 hD1
/-! ### walks over the bars of a tuple -/
theorem walk_bars {K : PySem.W.Frag} {a : Addr} {α : Type} {l : List α} {f : α → V} : Walk (Itt K a) l.length (fun H => SqT K H a (l.map f)) (fun i H x H' => H' = H ∧ ∃ z, l[i]? = some z ∧ x = f z) := by
  have e : l.length = (l.map f).length := by rw [List.length_map]
  rw [e]
  refine (walk_tup (K := K) (a := a) (xs := l.map f)).mono (fun H h => h) fun i H x H' _ _ y => ⟨y.1, ?_⟩
  have h := y.2
  rw [List.getElem?_map] at h
  cases q : l[i]? with
  | none => rw [q] at h; cases h
  | some z => rw [q] at h; cases h; exact ⟨z, rfl, rfl⟩
end DL

set_option Elab.async false
set_option maxRecDepth 100000
namespace DL
open PySem PySem.Spec PyProof.Rows L2
/-! ### a walk over a list or a tuple, whichever it is -/
/-- at a: a list or a tuple -/
def SqA (K : PySem.W.Frag) (H : Hp) (a : Addr) (xs : List V) : Prop := SqL K H a xs ∨ SqT K H a xs
/-! ### two for in one comprehension -/
end DL

set_option Elab.async false
set_option maxRecDepth 100000
namespace DL
open PySem L2 HT TL
structure CabOk (C : Addr) (H : Hp) (c : Addr) (n : Int) (bs : List Bar) : Prop where
  h : ∃ (t : Addr) (ks : List (Addr × Bar)), CabAt C H c n t ∧ BarsAt H t ks ∧ ks.map (·.2) = bs ∧ OkBars n bs ∧ 1 ≤ n ∧ n ≤ 7 ∧ bs.length ≤ 100
theorem tYes_of {σ : L2.St} {H : Hp} {Q : Bool → Hp → Prop} (h : Q true H) : tYes σ H Q := h
theorem CabOk.same {C : Addr} {H H' : Hp} {c : Addr} {n : Int} {bs : List Bar} (B : CabOk C H c n bs) (s : Same H H') : CabOk C H' c n bs := by
  obtain ⟨t, ks, ⟨dx, h1⟩, h2, h3⟩ := B.h
  exact ⟨⟨t, ks, ⟨dx, s _ _ h1⟩, h2.same s, h3⟩⟩
structure spGetD (C : Addr) (vs : List V) (H : Hp) (Q : VK) (_ : XK) : Prop where
  h : ∃ (c dx : Addr) (n : Int) (t : Addr), vs = [.ref c] ∧ H c = some (.ins C dx (cfl n t)) ∧ Q (.int n) H
structure spGetB (C : Addr) (vs : List V) (H : Hp) (Q : VK) (_ : XK) : Prop where
  h : ∃ (c dx : Addr) (n : Int) (t : Addr), vs = [.ref c] ∧ H c = some (.ins C dx (cfl n t)) ∧ Q (.ref t) H
/-- the two properties of the class -/
structure CabP (P : Program) (w : World) (K : PySem.W.Frag) (mg : Str → Option Value) (base : Heap) (C : Addr) : Prop where
  cl : Cls K C
  d : ∃ p g fd, PropOf K C "drawers" p g ∧ FnOk P w K mg base CX0 1 g fd ["self"] (spGetD C) ∧ Binds K fd ["self"] []
  b : ∃ p g fd, PropOf K C "bars" p g ∧ FnOk P w K mg base CX0 1 g fd ["self"] (spGetB C) ∧ Binds K fd ["self"] []
structure spGoes (C : Addr) (vs : List V) (H : Hp) (Q : VK) (_ : XK) : Prop where
  h : ∃ (c : Addr) (bs : List Bar) (st : List Bool) (d : Int), vs = [.ref c, .str (sstr st), .int d] ∧ CabOk C H c st.length bs ∧ 0 ≤ d ∧ d < st.length ∧ ∀ H', Same H H' → Q (.bl (goesB bs st d)) H'
structure spBarring (C : Addr) (vs : List V) (H : Hp) (Q : VK) (_ : XK) : Prop where
  h : ∃ (c t : Addr) (ks : List (Addr × Bar)) (st : List Bool) (d : Int), vs = [.ref c, .str (sstr st), .int d] ∧ CabAt C H c st.length t ∧ BarsAt H t ks ∧ OkBars st.length (ks.map (·.2)) ∧ st.length ≤ 7 ∧ ks.length ≤ 100 ∧ 0 ≤ d ∧ d < st.length ∧
    ∀ (p : Addr) (H' : Hp), H p = none → Same H H' → H' p = some (.lst ((ks.filter fun k => hind k.2 st d).map fun k => V.ref k.1)) → Q (.ref p) H'
structure spFreeDrawers (C : Addr) (vs : List V) (H : Hp) (Q : VK) (_ : XK) : Prop where
  h : ∃ (c : Addr) (bs : List Bar) (st : List Bool), vs = [.ref c, .str (sstr st)] ∧ CabOk C H c st.length bs ∧ ∀ (p : Addr) (H' : Hp), H p = none → Same H H' → H' p = some (.lst ((freeL bs st).map V.int)) → Q (.ref p) H'
theorem take_succ_map {α β : Type} (f : α → β) {l : List α} {i : Nat} {x : α} (h : l[i]? = some x) : (l.take i).map f ++ [f x] = (l.take (i + 1)).map f := by
  obtain ⟨hl, e⟩ := List.getElem?_eq_some_iff.mp h
  rw [List.take_succ_eq_append_getElem hl, List.map_append, ← e]
  rfl
theorem any_take {ks : List (Addr × Bar)} {bs : List Bar} (e : ks.map (·.2) = bs) (f : Bar → Bool) : ((ks.take (ks.map fun k => V.ref k.1).length).map fun k => f k.2).any id = bs.any f := by
  rw [List.length_map, List.take_length, ← e, List.any_map, List.any_map]
  rfl
section
variable {P : Program} {w : World} {K : PySem.W.Frag} {mg : Str → Option Value} {base : Heap}
theorem scDrawers : FnScope ["self"] ["self"] (defScope sDrawers) := ⟨rfl, rfl, rfl, by decide +kernel, rfl, by decide +kernel, by decide +kernel⟩
theorem ok_getD {f C : Addr} {fd : FuncData} (F : Fun K "drawers" "Cabinet.drawers" sDrawers f fd) (T : CabT K mg C) : FnOk P w K mg base CX0 1 f fd ["self"] (spGetD C) := by
  refine F.ok scDrawers (fun vs H Q E h => ?_) (fun cdv A outer s H vs Q E hr h => ?_)
  · obtain ⟨c, dx, n, t, rfl, _⟩ := h.h
    rfl
  · obtain ⟨c, dx, n, t, rfl, hc, k⟩ := h.h
    exact ⟨_, pss_one (ps_ret (pe_fld (pv 0) rfl)), ⟨_, rfl, c, C, dx, _, _, rfl, hc, T.cl, T.nD, cfl_d n t, k⟩⟩
theorem scBars : FnScope ["self"] ["self"] (defScope sBars) := ⟨rfl, rfl, rfl, by decide +kernel, rfl, by decide +kernel, by decide +kernel⟩
theorem ok_getB {f C : Addr} {fd : FuncData} (F : Fun K "bars" "Cabinet.bars" sBars f fd) (T : CabT K mg C) : FnOk P w K mg base CX0 1 f fd ["self"] (spGetB C) := by
  refine F.ok scBars (fun vs H Q E h => ?_) (fun cdv A outer s H vs Q E hr h => ?_)
  · obtain ⟨c, dx, n, t, rfl, _⟩ := h.h
    rfl
  · obtain ⟨c, dx, n, t, rfl, hc, k⟩ := h.h
    exact ⟨_, pss_one (ps_ret (pe_fld (pv 0) rfl)), ⟨_, rfl, c, C, dx, _, _, rfl, hc, T.cl, T.nB, cfl_b n t, k⟩⟩
abbrev nGoes : List Str := ["cabinet", "standing", "drawer", "bar"]
theorem scAg : FnScope nGoes ["cabinet", "standing", "drawer"] (defScope s_bars_against) := ⟨rfl, rfl, rfl, by decide +kernel, rfl, by decide +kernel, by decide +kernel⟩
theorem ok_against {f f1 C : Addr} {fd fd1 : FuncData} (F : Fun K "bars_against" "bars_against" s_bars_against f fd) (CP : CabP P w K mg base C) (G : FnOk P w K mg base CX0 1 f1 fd1 ["bar", "standing", "drawer"] (spHold K)) (g1 : mg "hinders" = some (.ref f1)) (k1 : PySem.W.keepIn K (.ref f1) = true) (b1 : Binds K fd1 ["bar", "standing", "drawer"] []) :
    FnOk P w K mg base CX0 4 f fd ["cabinet", "standing", "drawer"] (spBarring C) := by
  refine F.ok scAg (fun vs H Q E h => ?_) (fun cdv A outer s H vs Q E hr h => ?_)
  · obtain ⟨c, t, ks, st, d, rfl, _⟩ := h.h
    rfl
  · obtain ⟨c, t, ks, st, d, rfl, ⟨dx, hc⟩, B, O, n7, n100, d0, d1, k⟩ := h.h
    obtain ⟨pB, gB, fdB, hpB, GB, bB⟩ := CP.b
    refine ⟨_, pss_one (ps_ret (pe_lc (own := [("bar", 3)]) (g := gName 3) (by rfl) scAg.nd (pi_tup (pe_prop (pv 0) CP.cl hpB GB (hr.mono (by decide)) bB .nil pass0 rfl)) (blkOk_by (N := nGoes) (sc := defScope s_bars_against) (by decide +kernel)) (fun _ _ _ _ _ => pg_name (i := 3) scAg.nd rfl (Or.inl rfl))
        (fun _ _ _ _ _ => pts_one (pt_val (pe_call G (hr.mono (by decide)) rfl g1 k1 b1 .nil pass0 (pa_cons (pv 3) (pa_cons (pv 1) (pa_cons (pv 2) pa_nil)))))) (fun _ _ _ _ _ => pv 3))), ?_⟩
    refine ⟨_, rfl, c, dx, _, rfl, hc, ⟨⟨c, dx, _, t, rfl, hc, ?_⟩⟩⟩
    refine ⟨t, rfl, ⟨_, SqT.of' B.tu⟩, fun D hD => ?_⟩
    refine lc_pick (walk_bars (K := K) (a := t) (l := ks) (f := fun k => V.ref k.1)) ks rfl (by omega) (fun k => hind k.2 st d) (fun k => V.ref k.1) hD (fun H' s1 => SqT.of' (s1 _ _ B.tu)) ?_ (fun H' s1 hD1 => k D H' hD s1 hD1)
    rintro i x kk H1 H1' Tk Nk ek s1 ⟨rfl, z, ez, rfl⟩ kT kF
    rw [ek] at ez
    cases ez
    have hm : kk ∈ ks := List.mem_of_getElem? ek
    have hok : kk.2.ok st.length := O.ok _ (List.mem_map.mpr ⟨kk, hm, rfl⟩)
    refine ⟨rfl, ?_⟩
    refine ⟨_, rfl, _, rfl, _, rfl, ⟨⟨kk.1, kk.2, st, d, rfl, SqT.of' (s1 _ _ (B.el kk hm)), hok, by omega, d0, d1, _, rfl, ?_⟩⟩⟩
    cases e : hind kk.2 st d with
    | true => exact iteT ⟨_, rfl, kT _ e (Same.refl _)⟩
    | false => exact iteF (kF _ e (Same.refl _))
theorem goes_empty {ks : List (Addr × Bar)} {bs : List Bar} (e : ks.map (·.2) = bs) (st : List Bool) (d : Int) : ((ks.filter fun k => hind k.2 st d).map fun k => V.ref k.1).isEmpty = goesB bs st d := by
  subst e
  unfold goesB
  induction ks with
  | nil => rfl
  | cons k ks ih =>
    rw [List.map_cons, List.any_cons]
    by_cases q : hind k.2 st d = true
    · rw [List.filter_cons, if_pos q, q]
      rfl
    · rw [List.filter_cons, if_neg q]
      have q' : hind k.2 st d = false := by simpa using q
      rw [q', Bool.false_or]
      exact ih
theorem scGoes : FnScope ["cabinet", "standing", "drawer"] ["cabinet", "standing", "drawer"] (defScope s_goes) := ⟨rfl, rfl, rfl, by decide +kernel, rfl, by decide +kernel, by decide +kernel⟩
theorem ok_goes {f f1 C : Addr} {fd fd1 : FuncData} (F : Fun K "goes" "goes" s_goes f fd) (G : FnOk P w K mg base CX0 4 f1 fd1 ["cabinet", "standing", "drawer"] (spBarring C)) (g1 : mg "bars_against" = some (.ref f1)) (k1 : PySem.W.keepIn K (.ref f1) = true) (b1 : Binds K fd1 ["cabinet", "standing", "drawer"] []) :
    FnOk P w K mg base CX0 6 f fd ["cabinet", "standing", "drawer"] (spGoes C) := by
  refine F.ok scGoes (fun vs H Q E h => ?_) (fun cdv A outer s H vs Q E hr h => ?_)
  · obtain ⟨c, bs, st, d, rfl, _⟩ := h.h
    rfl
  · obtain ⟨c, bs, st, d, rfl, B, d0, d1, k⟩ := h.h
    obtain ⟨t, ks, hc, hB, ebs, O, n1, n7, n100⟩ := B.h
    refine ⟨_, pss_one (ps_ret (pe_notT (pe_call G (hr.mono (by decide)) rfl g1 k1 b1 .nil pass0 (pa_cons (pv 0) (pa_cons (pv 1) (pa_cons (pv 2) pa_nil)))))), ?_⟩
    refine ⟨_, rfl, _, rfl, _, rfl, ⟨⟨c, t, ks, st, d, rfl, hc, hB, by rw [ebs]; exact O, by omega, by rw [← ebs, List.length_map] at n100; exact n100, d0, d1, fun p H' hp s1 h1 => ?_⟩⟩⟩
    refine ⟨_, .inl ⟨_, SqL.of h1, rfl⟩, ?_⟩
    rw [Bool.not_not, goes_empty ebs]
    exact k H' s1
end
end DL

set_option Elab.async false
set_option maxRecDepth 100000
namespace DL
open PySem L2 HT TL
theorem drs_get {n i : Nat} (h : i < n) : (drs n)[i]? = some (i : Int) := by
  unfold drs
  rw [List.getElem?_map, List.getElem?_range h]
  rfl
theorem take_succ_filter {α : Type} (f : α → Bool) {l : List α} {i : Nat} {x : α} (h : l[i]? = some x) : (l.take (i + 1)).filter f = if f x = true then (l.take i).filter f ++ [x] else (l.take i).filter f := by
  obtain ⟨hl, e⟩ := List.getElem?_eq_some_iff.mp h
  rw [List.take_succ_eq_append_getElem hl, List.filter_append, e]
  by_cases q : f x = true
  · rw [if_pos q, List.filter_cons_of_pos q, List.filter_nil]
  · rw [if_neg q, List.filter_cons_of_neg q, List.filter_nil, List.append_nil]
theorem drs_len (n : Nat) : (drs n).length = n := by unfold drs; rw [List.length_map, List.length_range]
/-- a drawn cabinet's parts: the list at p -/
structure DrOk (H : Hp) (p : Addr) (n : Int) (bs : List Bar) : Prop where
  h : ∃ (t : Addr) (ks : List (Addr × Bar)) (zs : List V), H p = some (.lst (.int n :: .ref t :: zs)) ∧ BarsAt H t ks ∧ ks.map (·.2) = bs ∧ OkBars n bs ∧ 1 ≤ n ∧ n ≤ 7 ∧ bs.length ≤ 100
theorem DrOk.same {H H' : Hp} {p : Addr} {n : Int} {bs : List Bar} (B : DrOk H p n bs) (s : Same H H') : DrOk H' p n bs := by
  obtain ⟨t, ks, zs, h1, h2, h3⟩ := B.h
  exact ⟨⟨t, ks, zs, s _ _ h1, h2.same s, h3⟩⟩
structure spLawFree (vs : List V) (H : Hp) (Q : VK) (_ : XK) : Prop where
  h : ∃ (p : Addr) (bs : List Bar) (st : List Bool), vs = [.ref p, .str (sstr st)] ∧ DrOk H p st.length bs ∧ ∀ (q : Addr) (H' : Hp), H q = none → Same H H' → H' q = some (.lst ((freeL bs st).map V.int)) → Q (.ref q) H'
theorem occ_so (b : Bool) : Builtin.Str.occurrences ("so" : Str) ⟨#[sg b]⟩ 0 ("so" : Str).length 1 = [if b = true then 1 else 0] := by revert b; decide +kernel
theorem os_at (b : Bool) : atI ("os" : Str).cps.toList (((if b = true then 1 else 0 : Nat) : Int)) = some (sg (!b)) := by revert b; decide +kernel
theorem join_codes (cs : List Nat) : Txt.join "" (cs.map fun c => (⟨#[c]⟩ : Str)) = ⟨cs.toArray⟩ := by
  rw [join_eq]
  refine PyProof.Rows.ext_toList ?_
  show tl _ = cs
  rw [tl_join]
  have z : tl ("" : Str) = [] := by decide +kernel
  rw [z]
  have : ∀ l : List Nat, joinL [] ((l.map fun c => (⟨#[c]⟩ : Str)).map tl) = l := by
    intro l
    induction l with
    | nil => rfl
    | cons a l ih =>
      cases l with
      | nil => rfl
      | cons b l =>
        show [a] ++ ([] ++ joinL [] (((b :: l).map fun c => (⟨#[c]⟩ : Str)).map tl)) = _
        rw [ih]
        rfl
  exact this cs
theorem sum_ones (cs : List Nat) : ((cs.map fun c => (⟨#[c]⟩ : Str)).map (·.length)).sum = cs.length := by
  induction cs with
  | nil => rfl
  | cons a l ih =>
    rw [List.map_cons, List.map_cons, List.sum_cons, ih, List.length_cons]
    show 1 + l.length = _
    omega
theorem flip_sat {st : List Bool} {d : Int} {i : Nat} (h : i < st.length) (d0 : 0 ≤ d) : (flip st d)[i]? = some (if (i : Int) = d then !sat st d else sat st i) := by
  unfold flip sat
  rw [Int.toNat_natCast]
  by_cases q : (i : Int) = d
  · subst q
    rw [if_pos rfl, Int.toNat_natCast, List.getElem?_set_self h]
  · rw [if_neg q, List.getElem?_set_ne (by omega), List.getD_eq_getElem?_getD, List.getElem?_eq_getElem h]
    rfl
section
variable {P : Program} {w : World} {K : PySem.W.Frag} {mg : Str → Option Value} {base : Heap}
abbrev nFD : List Str := ["cabinet", "standing", "drawer"]
theorem scFD : FnScope nFD ["cabinet", "standing"] (defScope s_free_drawers) := ⟨rfl, rfl, rfl, by decide +kernel, rfl, by decide +kernel, by decide +kernel⟩
theorem ok_freeDrawers {f f1 C : Addr} {fd fd1 : FuncData} (F : Fun K "free_drawers" "free_drawers" s_free_drawers f fd) (T : Bt mg) (CP : CabP P w K mg base C) (G : FnOk P w K mg base CX0 6 f1 fd1 ["cabinet", "standing", "drawer"] (spGoes C)) (g1 : mg "goes" = some (.ref f1)) (k1 : PySem.W.keepIn K (.ref f1) = true) (b1 : Binds K fd1 ["cabinet", "standing", "drawer"] []) :
    FnOk P w K mg base CX0 8 f fd ["cabinet", "standing"] (spFreeDrawers C) := by
  refine F.ok scFD (fun vs H Q E h => ?_) (fun cdv A outer s H vs Q E hr h => ?_)
  · obtain ⟨c, bs, st, rfl, _⟩ := h.h
    rfl
  · obtain ⟨c, bs, st, rfl, B, k⟩ := h.h
    obtain ⟨t, ks, ⟨dx, hc⟩, hB, ebs, O, n1, n7, n100⟩ := id B.h
    obtain ⟨pD, gD, fdD, hpD, GD, bD⟩ := CP.d
    refine ⟨_, pss_one (ps_ret
      (pe_lc (own := [("drawer", 2)]) (g := gName 2) (by rfl) scFD.nd (pi_range1 (by rfl) T.range (pa_cons (pe_prop (pv 0) CP.cl hpD GD (hr.mono (by decide)) bD .nil pass0 rfl) pa_nil)) (blkOk_by (N := nFD) (sc := defScope s_free_drawers) (by decide +kernel)) (fun _ _ _ _ _ => pg_name (i := 2) scFD.nd rfl (by first | exact Or.inl rfl | exact Or.inr rfl))
        (fun _ _ _ _ _ => pts_one (pt_val (pe_call G (hr.mono (by decide)) rfl g1 k1 b1 .nil pass0 (pa_cons (pv 0) (pa_cons (pv 1) (pa_cons (pv 2) pa_nil)))))) (fun _ _ _ _ _ => pv 2))), ?_⟩
    refine ⟨_, rfl, c, dx, _, rfl, hc, ⟨⟨c, dx, _, t, rfl, hc, ?_⟩⟩⟩
    refine ⟨_, rfl, by omega, by omega, fun D hD => ?_⟩
    refine lc_range (lo := 0) (n := st.length) (fun i H' => Same H H' ∧ H' D = some (.lst ((((drs st.length).take i).filter fun d => goesB bs st d).map V.int))) ⟨same_upd hD, upd_same⟩ ?_ ?_
    · rintro i H' hi ⟨s1, hD1⟩
      refine ⟨rfl, ?_⟩
      have ei : (0 : Int) + (i : Nat) = (i : Int) := by omega
      refine ⟨_, rfl, _, rfl, _, rfl, ⟨⟨c, bs, st, (0 : Int) + (i : Nat), rfl, B.same s1, by omega, by omega, fun H2 s2 => ⟨_, rfl, ?_⟩⟩⟩⟩
      rw [take_succ_filter (fun d => goesB bs st d) (drs_get hi), ei]
      cases e : goesB bs st i with
      | true =>
        refine iteT ⟨_, rfl, _, s2 _ _ hD1, ?_, fun b o eb => ?_, ?_⟩
        · rw [List.length_map]
          have := List.length_filter_le (fun d => goesB bs st d) ((drs st.length).take i)
          rw [List.length_take, drs_len] at this
          exact small1000 (by omega)
        · rw [upd_ne (ne_of_none eb hD)]
          exact s2 _ _ (s1 _ _ eb)
        · rw [upd_same, if_pos rfl, List.map_append]
          rfl
      | false =>
        refine iteF ⟨fun b o eb => s2 _ _ (s1 _ _ eb), ?_⟩
        rw [if_neg Bool.false_ne_true]
        exact s2 _ _ hD1
    · rintro H' ⟨s1, hD1⟩
      refine k D H' hD s1 ?_
      rw [List.take_of_length_le (by rw [drs_len]; exact Nat.le_refl _)] at hD1
      exact hD1
theorem scLHold : FnScope ["_law_bar", "_law_standing", "_law_drawer"] ["_law_bar", "_law_standing", "_law_drawer"] (defScope s__law_hold) := ⟨rfl, rfl, rfl, by decide +kernel, rfl, by decide +kernel, by decide +kernel⟩
theorem ok_lawHold {f : Addr} {fd : FuncData} (F : Fun K "_law_hold" "_law_hold" s__law_hold f fd) : FnOk P w K mg base CX0 1 f fd ["_law_bar", "_law_standing", "_law_drawer"] (spHold K) := by
  refine F.ok scLHold (fun vs H Q E h => ?_) (fun cdv A outer s H vs Q E hr h => ?_)
  · obtain ⟨a, b, st, d, rfl, _⟩ := h.h
    rfl
  · obtain ⟨a, b, st, d, rfl, hq, hb, h7, d0, d1, k⟩ := h.h
    obtain ⟨b1, b2, b3, b4, b5⟩ := hb
    refine ⟨_, pss_cons (ps_if (PW.pt (pw_or (pt_cmpR op_ne (pe_ix ix_tup (pv 0) pe_int (fun _ _ => rfl)) (pv 2) (nomark _)) (pw_or1 (pt_cmpR op_ne (pe_ix ix_tup (pv 0) pe_int (fun _ _ => rfl)) (pe_ifExp (pt_cmpR op_eq (pe_ix ix_str (pv 1) (pv 2) (fun _ _ => rfl)) pe_str (nomark _)) pe_str pe_str) (nomark _))))) (pss_one (ps_ret pe_bl)) pss_nil)
      (pss_one (ps_ret (pe_cmpR op_ne (pe_ix ix_tup (pv 0) pe_int (fun _ _ => rfl)) (pe_ifExp (pt_cmpR op_eq (pe_ix ix_str (pv 1) (pe_ix ix_tup (pv 0) pe_int (fun _ _ => rfl)) (fun _ _ => rfl)) pe_str (nomark _)) pe_str pe_str) (nomark _)))), ?_⟩
    refine ⟨_, rfl, a, _, 0, .int b.d, rfl, rfl, hq, atI_nat (j := 0) rfl, _, rfl, rfl, _, rfl, ?_⟩
    have e0 : decide ((V.int b.d) = V.int d) = decide (b.d = d) := decide_eq_decide.mpr ⟨fun z => by injection z, fun z => by rw [z]⟩
    show if (!decide ((V.int b.d) = V.int d)) = true then _ else _
    rw [e0]
    unfold hind at k
    by_cases q : b.d = d
    · rw [decide_eq_true q] at k ⊢
      refine iteF ?_
      refine ⟨_, rfl, a, _, 1, .str (wd b.w), rfl, rfl, hq, atI_nat (j := 1) rfl, ?_⟩
      refine ⟨_, rfl, _, rfl, _, d, _, rfl, rfl, str_small h7, sstr_at d0 d1, rfl, _, rfl, ?_⟩
      show if decide ((V.str ⟨#[sg (sat st d)]⟩) = V.str "s") = true then _ else _
      rw [sgs_s]
      have second : ∀ H0 : Hp, H0 = H → (sat st d == b.w) = true → (tRet (tOp rNe (tOp (rIxT K) (tVar 0) (tC (.int 3))) (tIf (tTest (tOp rEq (tOp rIxS (tVar 1) (tOp (rIxT K) (tVar 0) (tC (.int 2)))) (tC (.str "o")))) (tC (.str "open")) (tC (.str "shut"))))
          { nx := fun _ H' => Q .non H', rt := Q } (L2.start ["_law_bar", "_law_standing", "_law_drawer"] [.ref a, .str (sstr st), .int d]) H0) := by
        intro H0 e0 e1
        subst e0
        rw [e1] at k
        refine ⟨_, rfl, a, _, 3, .str (wd b.t), rfl, rfl, hq, atI_nat (j := 3) rfl, ?_⟩
        refine ⟨_, rfl, _, rfl, a, _, 2, .int b.o, rfl, rfl, hq, atI_nat (j := 2) rfl, _, b.o, _, rfl, rfl, str_small h7, sstr_at b3 b4, rfl, _, rfl, ?_⟩
        show if decide ((V.str ⟨#[sg (sat st b.o)]⟩) = V.str "o") = true then _ else _
        rw [sgs_o]
        cases e : sat st b.o with
        | true =>
          rw [e] at k
          refine iteT ⟨rfl, ?_⟩
          show Q (.bl (!decide ((V.str (wd b.t)) = V.str (wd false)))) H0
          rw [wd_ne]
          revert k; cases b.t <;> exact id
        | false =>
          rw [e] at k
          refine iteF ⟨rfl, ?_⟩
          show Q (.bl (!decide ((V.str (wd b.t)) = V.str (wd true)))) H0
          rw [wd_ne]
          revert k; cases b.t <;> exact id
      cases e : sat st d with
      | false =>
        refine iteT ⟨rfl, _, rfl, ?_⟩
        show if (!decide ((V.str (wd b.w)) = V.str (wd false))) = true then _ else _
        rw [wd_ne]
        cases ew : b.w with
        | false => exact iteF (second H rfl (by rw [e, ew]; rfl))
        | true =>
          rw [e, ew] at k
          exact iteT k
      | true =>
        refine iteF ⟨rfl, _, rfl, ?_⟩
        show if (!decide ((V.str (wd b.w)) = V.str (wd true))) = true then _ else _
        rw [wd_ne]
        cases ew : b.w with
        | true => exact iteF (second H rfl (by rw [e, ew]; rfl))
        | false =>
          rw [e, ew] at k
          exact iteT k
    · rw [decide_eq_false q] at k ⊢
      exact iteT k
end
end DL

set_option Elab.async false
set_option maxRecDepth 100000
namespace DL
open PySem L2 HT TL
section
variable {P : Program} {w : World} {K : PySem.W.Frag} {mg : Str → Option Value} {base : Heap}
abbrev nLF : List Str := ["_law_d", "_law_standing", "_law_drawer", "_law_bar"]
theorem scLF : FnScope nLF ["_law_d", "_law_standing"] (defScope s__law_free) := ⟨rfl, rfl, rfl, by decide +kernel, rfl, by decide +kernel, by decide +kernel⟩
theorem ok_lawFree {f f1 : Addr} {fd fd1 : FuncData} (F : Fun K "_law_free" "_law_free" s__law_free f fd) (T : Bt mg) (G : FnOk P w K mg base CX0 1 f1 fd1 ["_law_bar", "_law_standing", "_law_drawer"] (spHold K)) (g1 : mg "_law_hold" = some (.ref f1)) (k1 : PySem.W.keepIn K (.ref f1) = true)
    (b1 : Binds K fd1 ["_law_bar", "_law_standing", "_law_drawer"] []) (zA : mg "any" = none) : FnOk P w K mg base CX0 2 f fd ["_law_d", "_law_standing"] spLawFree := by
  refine F.ok scLF (fun vs H Q E h => ?_) (fun cdv A outer s H vs Q E hr h => ?_)
  · obtain ⟨p, bs, st, rfl, _⟩ := h.h
    rfl
  · obtain ⟨p, bs, st, rfl, B, k⟩ := h.h
    obtain ⟨t, ks, zs, hp, hB, ebs, O, n1, n7, n100⟩ := id B.h
    refine ⟨_, pss_one (ps_ret
      (pe_lc (own := [("_law_drawer", 2)]) (g := gName 2) (by rfl) scLF.nd (pi_range1 (by rfl) T.range (pa_cons (pe_ix ix_list (pv 0) pe_int (fun _ _ => rfl)) pa_nil)) (blkOk_by (N := nLF) (sc := defScope s__law_free) (by decide +kernel)) (fun _ _ _ _ _ => pg_name (i := 2) scLF.nd rfl (by first | exact Or.inl rfl | exact Or.inr rfl))
        (fun _ _ _ _ _ => pts_one (pt_not (pt_val (pe_callB (cr_anyK (K := K) rfl rfl) (by rfl) zA boot_any_ (pa_cons
          (by exact (pe_lc (own := [("_law_bar", 3)]) (g := gName 3) (tt := tYes) (by rfl) scLF.nd (pi_tupK (K := K) rfl (pe_ix (ix_listK (K := K) rfl) (pv 0) pe_int (fun _ _ => rfl))) (blkOk_by (N := nLF) (by rfl)) (fun _ _ _ _ _ => pg_name (i := 3) scLF.nd rfl (Or.inl rfl)) (fun _ _ _ _ _ => pts_nil)
            (fun _ _ _ _ _ => pe_call G (hr.mono (by decide)) rfl g1 k1 b1 .nil pass0 (pa_cons (pv 3) (pa_cons (pv 1) (pa_cons (pv 2) pa_nil)))))) pa_nil))))) (fun _ _ _ _ _ => pv 2))), ?_⟩
    refine ⟨_, rfl, p, _, 0, .int _, rfl, rfl, SqL.of hp, atI_nat (j := 0) rfl, _, rfl, by omega, by omega, fun D hD => ?_⟩
    refine lc_range (lo := 0) (n := st.length) (fun i H' => Same H H' ∧ H' D = some (.lst ((((drs st.length).take i).filter fun d => goesB bs st d).map V.int))) ⟨same_upd hD, upd_same⟩ ?_ ?_
    · rintro i H' hi ⟨s1, hD1⟩
      refine ⟨rfl, ?_⟩
      have ei : (0 : Int) + (i : Nat) = (i : Int) := by omega
      refine ⟨_, rfl, p, _, 1, .ref t, rfl, rfl, SqL.of (s1 _ _ hp), atI_nat (j := 1) rfl, t, rfl, ⟨_, SqT.of' (s1 _ _ hB.tu)⟩, fun D2 hD2 => ?_⟩
      refine lc_tup (K := K) (a := t) (xs := ks.map fun k => V.ref k.1) (fun j H2 => Same H' H2 ∧ H2 D2 = some (.lst (((ks.take j).map fun k => hind k.2 st i).map V.bl))) ⟨same_upd hD2, upd_same⟩ (fun j H2 _ q => SqT.of' (q.1 _ _ (s1 _ _ hB.tu))) ?_ ?_
      · rintro j x H2 hj ⟨s2, hD3⟩
        rw [List.getElem?_map] at hj
        cases ek : ks[j]? with
        | none => rw [ek] at hj; cases hj
        | some kk =>
          rw [ek] at hj
          cases hj
          have hm : kk ∈ ks := List.mem_of_getElem? ek
          have hok : kk.2.ok st.length := O.ok _ (by rw [← ebs]; exact List.mem_map.mpr ⟨kk, hm, rfl⟩)
          refine ⟨rfl, tYes_of (iteT ?_)⟩
          refine ⟨_, rfl, _, rfl, _, rfl, ⟨⟨kk.1, kk.2, st, (0 : Int) + (i : Nat), rfl, SqT.of' (s2 _ _ (s1 _ _ (hB.el kk hm))), hok, by omega, by omega, by omega, ?_⟩⟩⟩
          refine ⟨_, hD3, ?_, fun b o e => ?_, ?_⟩
          · rw [List.length_map, List.length_map, List.length_take]
            have h2 : ks.length ≤ 100 := by rw [← ebs, List.length_map] at n100; exact n100
            exact small1000 (by omega)
          · rw [upd_ne (ne_of_none e hD2)]
            exact s2 b o e
          · rw [upd_same, ei]
            congr 2
            rw [List.map_map, List.map_map]
            exact take_succ_map (V.bl ∘ fun k => hind k.2 st i) ek
      · rintro H2 ⟨s2, hD3⟩
        refine ⟨D2, _, rfl, SqL.of hD3, _, rfl, ?_⟩
        rw [any_take ebs fun b => hind b st i]
        rw [take_succ_filter (fun d => goesB bs st d) (drs_get hi)]
        show if (goesB bs st i) = true then _ else _
        cases e : goesB bs st i with
        | true =>
          refine iteT ⟨_, rfl, _, s2 _ _ hD1, ?_, fun b o eb => ?_, ?_⟩
          · rw [List.length_map]
            have := List.length_filter_le (fun d => goesB bs st d) ((drs st.length).take i)
            rw [List.length_take, drs_len] at this
            exact small1000 (by omega)
          · rw [upd_ne (ne_of_none eb hD)]
            exact s2 _ _ (s1 _ _ eb)
          · rw [upd_same, if_pos rfl, List.map_append, ei]
            rfl
        | false =>
          refine iteF ⟨fun b o eb => s2 _ _ (s1 _ _ eb), ?_⟩
          rw [if_neg Bool.false_ne_true]
          exact s2 _ _ hD1
    · rintro H' ⟨s1, hD1⟩
      refine k D H' hD s1 ?_
      rw [List.take_of_length_le (by rw [drs_len]; exact Nat.le_refl _)] at hD1
      exact hD1
abbrev nLM : List Str := ["_law_standing", "_law_drawer", "_law_at"]
theorem scLM : FnScope nLM ["_law_standing", "_law_drawer"] (defScope s__law_moved) := ⟨rfl, rfl, rfl, by decide +kernel, rfl, by decide +kernel, by decide +kernel⟩
theorem ok_lawMoved {f : Addr} {fd : FuncData} (F : Fun K "_law_moved" "_law_moved" s__law_moved f fd) (T : Bt mg) : FnOk P w K mg base CX0 1 f fd ["_law_standing", "_law_drawer"] spMoved := by
  refine F.ok scLM (fun vs H Q E h => ?_) (fun cdv A outer s H vs Q E hr h => ?_)
  · obtain ⟨st, d, rfl, _⟩ := h.h
    rfl
  · obtain ⟨st, d, rfl, h7, d0, d1, k⟩ := h.h
    refine ⟨_, pss_one (ps_ret (pe_join pe_str
      (pe_lc (own := [("_law_at", 2)]) (g := gName 2) (tt := tYes) (by rfl) scLM.nd (pi_range1 (by rfl) T.range (pa_cons (pe_callB call_len_str (by rfl) T.len PySem.boot_len (pa_cons (pv 0) pa_nil)) pa_nil)) (blkOk_by (N := nLM) (sc := defScope s__law_moved) (by decide +kernel)) (fun _ _ _ _ _ => pg_name (i := 2) scLM.nd rfl (by first | exact Or.inl rfl | exact Or.inr rfl)) (fun _ _ _ _ _ => pts_nil)
        (fun _ _ _ _ _ => pe_ifExp (pt_cmpR op_ne (pv 2) (pv 1) (nomark _)) (pe_ix ix_str (pv 0) (pv 2) (fun _ _ => rfl)) (pe_ix ix_str pe_str (pe_bmK (K := K) rfl PySem.F.plainAttrs_str PySem.F.slot_str_index PySem.F.type_str_index mt_sindex pe_str (pa_cons (pe_ix ix_str (pv 0) (pv 2) (fun _ _ => rfl)) pa_nil)) (fun _ _ => rfl)))))), ?_⟩
    refine ⟨⟨_, rfl⟩, ?_⟩
    refine ⟨_, rfl, _, rfl, str_small h7, _, rfl, ?_⟩
    rw [sstr_len]
    refine ⟨by omega, by omega, fun D hD => ?_⟩
    refine lc_range (lo := 0) (n := st.length) (fun i H' => Same H H' ∧ H' D = some (.lst ((((flip st d).take i).map fun b => sgs b).map V.str))) ⟨same_upd hD, upd_same⟩ ?_ ?_
    · rintro i H' hi ⟨s1, hD1⟩
      refine ⟨rfl, tYes_of (iteT ?_)⟩
      have ei : (0 : Int) + (i : Nat) = (i : Int) := by omega
      have small : ((((flip st d).take i).map fun b => sgs b).map V.str).length < sizeLine := by
        rw [List.length_map, List.length_map, List.length_take, flip_len]
        exact small1000 (by omega)
      have fin : ∀ b : Bool, (flip st d)[i]? = some b → ∃ acc, H' D = some (.lst acc) ∧ acc.length < sizeLine ∧ Same H (upd H' D (.lst (acc ++ [.str ⟨#[sg b]⟩]))) ∧ (upd H' D (.lst (acc ++ [.str ⟨#[sg b]⟩]))) D = some (.lst ((((flip st d).take (i + 1)).map fun b => sgs b).map V.str)) := by
        intro b hb
        refine ⟨_, hD1, small, fun c o e => ?_, ?_⟩
        · rw [upd_ne (ne_of_none e hD)]
          exact s1 c o e
        · rw [upd_same, List.map_map, List.map_map, ← take_succ_map (V.str ∘ fun b => sgs b) hb]
          rfl
      refine ⟨_, rfl, _, rfl, rfl, _, rfl, ?_⟩
      have e0 : decide ((V.int ((0 : Int) + (i : Nat))) = V.int d) = decide ((i : Int) = d) := decide_eq_decide.mpr ⟨fun z => by injection z with z; omega, fun z => by rw [ei, z]⟩
      show if (!decide ((V.int ((0 : Int) + (i : Nat))) = V.int d)) = true then _ else _
      rw [e0]
      have fs := flip_sat (st := st) (d := d) hi d0
      by_cases q : (i : Int) = d
      · rw [decide_eq_true q]
        rw [if_pos q] at fs
        refine iteF ⟨rfl, ?_⟩
        refine ⟨_, rfl, _, rfl, _, (0 : Int) + (i : Nat), _, rfl, rfl, str_small h7, sstr_at (by omega) (by omega), ?_⟩
        refine ⟨_, _, _, [], rfl, rfl, occ_so _, _, _, _, rfl, rfl, (by decide +kernel), os_at _, ?_⟩
        rw [ei, q]
        exact fin _ fs
      · rw [decide_eq_false q]
        rw [if_neg q] at fs
        refine iteT ?_
        refine ⟨_, rfl, _, rfl, _, (0 : Int) + (i : Nat), _, rfl, rfl, str_small h7, sstr_at (by omega) (by omega), ?_⟩
        rw [ei]
        exact fin _ fs
    · rintro H' ⟨s1, hD1⟩
      rw [List.take_of_length_le (by rw [flip_len]; exact Nat.le_refl _)] at hD1
      have em : ((flip st d).map fun b => sgs b) = ((flip st d).map sg).map fun c => (⟨#[c]⟩ : Str) := by rw [List.map_map]; rfl
      rw [em] at hD1
      refine ⟨_, D, _, rfl, rfl, .inl (SqL.of hD1), ?_, ?_⟩
      · rw [sum_ones, List.length_map, List.length_map, flip_len]
        have z : ("" : Str).length = 0 := by decide +kernel
        rw [z]
        omega
      · rw [join_codes]
        exact k H' s1
end
end DL

set_option Elab.async false
set_option maxRecDepth 100000
namespace DL
open PySem L2 HT TL
/-! ### plain data: what == sees -/
/-- data of so many levels at most, whose texts are texts -/
def dok (k : Nat) (d : PyData) : Prop := d.canLay0 = true ∧ d.depth ≤ k
theorem dok_shaped {k : Nat} {d : PyData} (h : dok k d) (hk : k ≤ 64) : SeqAt.shaped d = true := by
  unfold SeqAt.shaped
  rw [h.1, decide_eq_true (Nat.le_trans h.2 hk)]
  rfl
theorem dok_all {k : Nat} : ∀ {ds : List PyData}, (∀ d ∈ ds, dok k d) → PyData.canLayAll0 ds = true ∧ PyData.depthAll ds ≤ k
  | [], _ => ⟨by simp [PyData.canLayAll0], by simp [PyData.depthAll]⟩
  | d :: ds, h => by
    obtain ⟨h1, h2⟩ := dok_all (ds := ds) fun e he => h e (List.mem_cons_of_mem _ he)
    obtain ⟨h3, h4⟩ := h d List.mem_cons_self
    refine ⟨by simp [PyData.canLayAll0, h1, h3], ?_⟩
    simp only [PyData.depthAll]
    omega
theorem dok_list {k : Nat} {ds : List PyData} (h : ∀ d ∈ ds, dok k d) : dok (k + 1) (.list ds) := by
  obtain ⟨h1, h2⟩ := dok_all h
  exact ⟨by simpa [PyData.canLay0] using h1, by simp only [PyData.depth]; omega⟩
theorem dok_tuple {k : Nat} {ds : List PyData} (h : ∀ d ∈ ds, dok k d) : dok (k + 1) (.tuple ds) := by
  obtain ⟨h1, h2⟩ := dok_all h
  exact ⟨by simpa [PyData.canLay0] using h1, by simp only [PyData.depth]; omega⟩
theorem dok_int (i : Int) : dok 1 (.int i) := ⟨by simp [PyData.canLay0], by simp [PyData.depth]⟩
theorem dpAll_ints {K : PySem.W.Frag} {H : Hp} : ∀ l : List Int, DpAll K H (l.map V.int) (l.map PyData.int)
  | [] => .nil
  | i :: l => .cons (.int i) (dpAll_ints l)
end DL
namespace DL
open PySem L2 HT TL
theorem dok_str {z : Str} (h : PyData.strOk z = true) : dok 1 (.str z) := ⟨by simpa [PyData.canLay0] using h, by simp [PyData.depth]⟩
theorem wd_strOk (b : Bool) : PyData.strOk (wd b) = true := by revert b; decide +kernel
def barD (b : Bar) : PyData := .tuple [.int b.d, .str (wd b.w), .int b.o, .str (wd b.t)]
theorem dok_bar (b : Bar) : dok 2 (barD b) := dok_tuple fun d hd => by
  simp only [List.mem_cons, List.not_mem_nil, or_false] at hd
  rcases hd with rfl | rfl | rfl | rfl
  · exact dok_int _
  · exact dok_str (wd_strOk _)
  · exact dok_int _
  · exact dok_str (wd_strOk _)
theorem dp_bar {K : PySem.W.Frag} {H : Hp} {a : Addr} {b : Bar} (h : SqT K H a b.vs) : Dp K H (.ref a) (barD b) := .tup h (.cons (.int _) (.cons (.str _) (.cons (.int _) (.cons (.str _) .nil))))
theorem dpAll_bars {K : PySem.W.Frag} {H : Hp} : ∀ {ks : List (Addr × Bar)}, (∀ k ∈ ks, H k.1 = some (.tup k.2.vs)) → DpAll K H (ks.map fun k => V.ref k.1) (ks.map fun k => barD k.2)
  | [], _ => .nil
  | k :: ks, h => .cons (dp_bar (SqT.of' (h k List.mem_cons_self))) (dpAll_bars fun j hj => h j (List.mem_cons_of_mem _ hj))
theorem dok_bars (ks : List (Addr × Bar)) : ∀ d ∈ ks.map (fun k => barD k.2), dok 2 d := fun d hd => by
  obtain ⟨k, _, rfl⟩ := List.mem_map.mp hd
  exact dok_bar k.2
theorem dok_ints (l : List Int) : ∀ d ∈ l.map PyData.int, dok 1 d := fun d hd => by
  obtain ⟨i, _, rfl⟩ := List.mem_map.mp hd
  exact dok_int i
theorem eqv_self {k : Nat} {d : PyData} (h : dok k d) : PyData.eqv d d = true := SeqAt.eqv_refl d h.1
end DL

set_option Elab.async false
set_option maxRecDepth 100000
namespace DL
open PySem L2 HT TL
/-! ### the checks -/
/-- isinstance of a cabinet -/
structure CabI (K : PySem.W.Frag) (mg : Str → Option Value) (C : Addr) : Prop where
  cl : Cls K C
  mgC : mg "Cabinet" = some (.ref C)
  ha : PySem.W.findIn K (.ref C) "__class__" = some (some (.builtin "object.__class__"))
  hn : PySem.W.specialIn K (.builtin "object.__class__") "__get__" = some (some (.builtin "getset_descriptor.__get__"))
  htk : PySem.W.takesIn K (.builtin "object.__class__") = some true
  hm : PySem.W.mroIn K C (.type "object") = some true
  kk : PySem.W.kitOne K (.ref C) (.ref C) = some true
structure spCkCab (C : Addr) (vs : List V) (H : Hp) (Q : VK) (_ : XK) : Prop where
  h : ∃ (c : Addr) (n : Int) (t : Addr), vs = [.ref c] ∧ CabAt C H c n t ∧ Q .non H
theorem CabOk.cab {C : Addr} {H : Hp} {c : Addr} {n : Int} {bs : List Bar} (B : CabOk C H c n bs) : ∃ t, CabAt C H c n t ∧ n ≤ 7 := by
  obtain ⟨t, ks, h1, h2, h3, h4, h5, h6, h7⟩ := B.h
  exact ⟨t, h1, h6⟩
section
variable {P : Program} {w : World} {K : PySem.W.Frag} {mg : Str → Option Value} {base : Heap}
theorem scCkCab : FnScope ["cabinet"] ["cabinet"] (defScope s_check_cabinet) := ⟨rfl, rfl, rfl, by decide +kernel, rfl, by decide +kernel, by decide +kernel⟩
theorem ok_ckCab {f C : Addr} {fd : FuncData} (F : Fun K "check_cabinet" "check_cabinet" s_check_cabinet f fd) (T : Bt mg) (I : CabI K mg C) : FnOk P w K mg base CX0 1 f fd ["cabinet"] (spCkCab C) := by
  refine F.ok scCkCab (fun vs H Q E h => ?_) (fun cdv A outer s H vs Q E hr h => ?_)
  · obtain ⟨c, n, t, rfl, _⟩ := h.h
    rfl
  · obtain ⟨c, n, t, rfl, ⟨dx, hc⟩, k⟩ := h.h
    refine ⟨_, pss_one (ps_if (pt_not (pt_val (pe_callB call_isi (by rfl) T.isinstance (by decide +kernel) (pa_cons (pv 0) (pa_cons (pe_glob (v := .ref C) rfl I.mgC rfl) pa_nil))))) (pss_one ps_never) pss_nil), ?_⟩
    exact ⟨_, rfl, _, _, _, _, true, rfl, .own C, .base (.ins hc I.cl I.ha I.hn I.htk I.hm), I.kk, _, rfl, iteF k⟩
end
end DL

set_option Elab.async false
set_option maxRecDepth 100000
namespace DL
open PySem PySem.Spec PyProof.Rows L2
/-! ### text * number -/
theorem op_mul_str {X : Cx} : OpR X (binaryOp .Mult) (fun x y H Q => ∃ (z : Str) (n : Int), x = .str z ∧ y = .int n ∧ MulOk z n ∧ Q (.str (Txt.mul z n)) H) := by
  intro pins s σ H x y v u Q I rx ry h
  obtain ⟨z, n, rfl, rfl, ok, q⟩ := h
  obtain ⟨t, rfl⟩ := rx
  obtain ⟨t', rfl⟩ := ry
  exact SB.mul ok fun t2 k => ⟨.str _, H, I.tok k, ⟨_, rfl⟩, q⟩
theorem mulOk_one {z : Str} {n : Int} (hz : z.length = 1) (h1 : 1 ≤ n) (h7 : n ≤ 7) : MulOk z n := by
  refine ⟨?_, fun _ _ => ?_, fun _ _ => ?_⟩
  · rw [decide_eq_false (by omega), decide_eq_false (by omega)]; rfl
  · rw [hz]
    have : n = 1 ∨ n = 2 ∨ n = 3 ∨ n = 4 ∨ n = 5 ∨ n = 6 ∨ n = 7 := by omega
    rcases this with rfl | rfl | rfl | rfl | rfl | rfl | rfl <;> decide
  · rw [hz]
    have : n = 1 ∨ n = 2 ∨ n = 3 ∨ n = 4 ∨ n = 5 ∨ n = 6 ∨ n = 7 := by omega
    rcases this with rfl | rfl | rfl | rfl | rfl | rfl | rfl <;> decide +kernel
/-! ### for a, b in zip(x, y), two texts -/
end DL

set_option Elab.async false
set_option maxRecDepth 100000
namespace DL
open PySem L2 HT TL
/-! ### patterns and rows -/
theorem SqT.same {K : PySem.W.Frag} {H H' : Hp} {a : Addr} {xs : List V} (s : Same H H') (h : SqT K H a xs) : SqT K H' a xs := by
  rcases h with (h | ⟨o, h⟩) | h
  · exact .inl (.inl (s _ _ h))
  · exact .inl (.inr ⟨o, s _ _ h⟩)
  · exact .inr h
def runB (bs : List Bar) (st : List Bool) : List Int → Option (List Bool)
  | [] => some st
  | d :: ds => if goesB bs st d = true then runB bs (flip st d) ds else none
theorem runB_cons (bs : List Bar) (st : List Bool) (d : Int) (ds : List Int) : runB bs st (d :: ds) = if goesB bs st d = true then runB bs (flip st d) ds else none := rfl
def shutS (n : Nat) : List Bool := List.replicate n false
structure spFirst (vs : List V) (H : Hp) (Q : VK) (_ : XK) : Prop where
  h : ∃ n : Nat, vs = [.int n] ∧ 1 ≤ n ∧ n ≤ 7 ∧ Q (.str (sstr (shutS n))) H
theorem mul_shut {n : Nat} (h1 : 1 ≤ n) (h7 : n ≤ 7) : Txt.mul "s" (n : Int) = sstr (shutS n) := by
  have : n = 1 ∨ n = 2 ∨ n = 3 ∨ n = 4 ∨ n = 5 ∨ n = 6 ∨ n = 7 := by omega
  rcases this with rfl | rfl | rfl | rfl | rfl | rfl | rfl <;> decide +kernel
section
variable {P : Program} {w : World} {K : PySem.W.Frag} {mg : Str → Option Value} {base : Heap}
theorem scFirst : FnScope ["drawers"] ["drawers"] (defScope s_first_standing) := ⟨rfl, rfl, rfl, by decide +kernel, rfl, by decide +kernel, by decide +kernel⟩
theorem ok_first {f aS : Addr} {fd : FuncData} (F : Fun K "first_standing" "first_standing" s_first_standing f fd) (T : SgT K w mg aS) : FnOk P w K mg base CX0 1 f fd ["drawers"] spFirst := by
  refine F.ok scFirst (fun vs H Q E h => ?_) (fun cdv A outer s H vs Q E hr h => ?_)
  · obtain ⟨n, rfl, _⟩ := h.h
    rfl
  · obtain ⟨n, rfl, h1, h7, k⟩ := h.h
    refine ⟨_, pss_one (ps_ret (pe_op op_mul_str (pe_ix ix_kdict (pe_glob (v := .ref aS) rfl T.g rfl) pe_str (fun _ _ => rfl)) (pv 0))), ?_⟩
    refine ⟨aS, _, _, rfl, rfl, T.s, _, rfl, "s", (n : Int), rfl, rfl, mulOk_one (by decide +kernel) (by omega) (by omega), ?_⟩
    rw [mul_shut h1 h7]
    exact k
end
end DL

set_option Elab.async false
set_option maxRecDepth 100000
namespace DL
open PySem L2 HT TL
theorem inV_ints (i : Int) (l : List Int) : inV (.int i) (l.map V.int) = decide (i ∈ l) := by
  unfold inV
  induction l with
  | nil => rfl
  | cons a l ih =>
    rw [List.map_cons, List.any_cons, ih]
    show ((a == i) || decide (i ∈ l)) = decide (i ∈ a :: l)
    by_cases q : i = a
    · subst q
      simp
    · have q' : ¬ a = i := fun z => q z.symm
      simp [q, q']
theorem flat_ints (l : List Int) : (l.map V.int).all flatV = true := by
  rw [List.all_eq_true]
  intro x hx
  obtain ⟨i, _, rfl⟩ := List.mem_map.mp hx
  rfl
theorem mem_free {bs : List Bar} {st : List Bool} {d : Int} (d0 : 0 ≤ d) (d1 : d < st.length) : decide (d ∈ freeL bs st) = goesB bs st d := by
  unfold freeL
  have hm : d ∈ drs st.length := by
    unfold drs
    exact List.mem_map.mpr ⟨d.toNat, List.mem_range.mpr (by omega), by omega⟩
  cases e : goesB bs st d with
  | true => exact decide_eq_true (List.mem_filter.mpr ⟨hm, e⟩)
  | false => exact decide_eq_false fun q => by rw [(List.mem_filter.mp q).2] at e; cases e
end DL

set_option Elab.async false
set_option maxRecDepth 100000
namespace DL
open PySem L2 HT TL
/-! ### a drawn cabinet: its parts at p, itself at c; the row of draws at r -/
structure Lay (C r p c : Addr) (H : Hp) (n : Int) (bs : List Bar) : Prop where
  h : ∃ (t : Addr) (ks : List (Addr × Bar)) (zs : List V), H p = some (.lst (.int n :: .ref t :: zs)) ∧ CabAt C H c n t ∧ BarsAt H t ks ∧ ks.map (·.2) = bs ∧ OkBars n bs ∧ 1 ≤ n ∧ n ≤ 7 ∧ bs.length ≤ 100 ∧ p ≠ r
theorem Lay.cab {C r p c : Addr} {H : Hp} {n : Int} {bs : List Bar} (L : Lay C r p c H n bs) : CabOk C H c n bs := by
  obtain ⟨t, ks, zs, h1, h2, h3, h4, h5, h6, h7, h8, _⟩ := L.h
  exact ⟨⟨t, ks, h2, h3, h4, h5, h6, h7, h8⟩⟩
theorem Lay.but {C r sc p c : Addr} {H H' : Hp} {n : Int} {bs : List Bar} (L : Lay C r p c H n bs) (R : RowOk H r sc) (B : But r H H') : Lay C r p c H' n bs := by
  obtain ⟨t, ks, zs, h1, ⟨dx, h2⟩, h3, h4, h5, h6, h7, h8, h9⟩ := L.h
  obtain ⟨i, m, e, hR, _⟩ := R.h
  exact ⟨⟨t, ks, zs, B _ _ h9 h1, ⟨dx, B _ _ (ne_of h2 hR (by intro z; cases z)) h2⟩, ⟨B.tup hR h3.tu, fun k hk => B.tup hR (h3.el k hk)⟩, h4, h5, h6, h7, h8, h9⟩⟩
theorem Lay.same {C r p c : Addr} {H H' : Hp} {n : Int} {bs : List Bar} (L : Lay C r p c H n bs) (s : Same H H') : Lay C r p c H' n bs := by
  obtain ⟨t, ks, zs, h1, ⟨dx, h2⟩, h3, h4⟩ := L.h
  exact ⟨⟨t, ks, zs, s _ _ h1, ⟨dx, s _ _ h2⟩, h3.same s, h4⟩⟩
theorem Lay.n1 {C r p c : Addr} {H : Hp} {n : Int} {bs : List Bar} (L : Lay C r p c H n bs) : 1 ≤ n ∧ n ≤ 7 := by
  obtain ⟨t, ks, zs, h1, h2, h3, h4, h5, h6, h7, h8⟩ := L.h
  exact ⟨h6, h7⟩
theorem free_in {bs : List Bar} {st : List Bool} {d : Int} (h : d ∈ freeL bs st) : 0 ≤ d ∧ d < st.length := by
  have hm := (List.mem_filter.mp h).1
  unfold drs at hm
  obtain ⟨i, hi, rfl⟩ := List.mem_map.mp hm
  have := List.mem_range.mp hi
  omega
end DL

set_option Elab.async false
set_option maxRecDepth 100000
namespace DL
open PySem L2 HT TL
/-! ### rows in their order: by their number of pulls, then by their pulls; as numbers -/
def rcode (r : List Int) : Int := r.foldl (fun a d => a * 8 + (d + 1)) 0
theorem rcode_snoc (r : List Int) (d : Int) : rcode (r ++ [d]) = rcode r * 8 + (d + 1) := by
  unfold rcode
  rw [List.foldl_append]
  rfl
theorem rcode_nil : rcode [] = 0 := rfl
def Low7 (r : List Int) : Prop := ∀ d ∈ r, 0 ≤ d ∧ d ≤ 6
theorem snoc_ind {α : Type} {p : List α → Prop} (h0 : p []) (hs : ∀ l a, p l → p (l ++ [a])) (l : List α) : p l := by
  have : ∀ m : List α, p m.reverse := fun m => by
    induction m with
    | nil => exact h0
    | cons a m ih =>
      rw [List.reverse_cons]
      exact hs _ _ ih
  have h := this l.reverse
  rw [List.reverse_reverse] at h
  exact h
theorem Low7.init {r : List Int} {d : Int} (h : Low7 (r ++ [d])) : Low7 r ∧ 0 ≤ d ∧ d ≤ 6 := ⟨fun x hx => h x (List.mem_append_left _ hx), h d (List.mem_append_right _ (List.mem_singleton.mpr rfl))⟩
theorem rcode_nn : ∀ {r : List Int}, Low7 r → 0 ≤ rcode r := by
  intro r
  refine snoc_ind (p := fun r => Low7 r → 0 ≤ rcode r) (fun _ => Int.le_refl _) (fun l a ih h => ?_) r
  obtain ⟨h1, h2, h3⟩ := h.init
  have := ih h1
  rw [rcode_snoc]
  omega
theorem rcode_inj' : ∀ a b : List Int, Low7 a → Low7 b → rcode a = rcode b → a = b := by
  intro a
  refine snoc_ind (p := fun a => ∀ b, Low7 a → Low7 b → rcode a = rcode b → a = b) (fun b _ hb e => ?_) (fun l x ih b ha hb e => ?_) a
  · revert hb e
    refine snoc_ind (p := fun b => Low7 b → rcode [] = rcode b → [] = b) (fun _ _ => rfl) (fun l y _ hb e => ?_) b
    obtain ⟨h1, h2, h3⟩ := hb.init
    have := rcode_nn h1
    rw [rcode_snoc, rcode_nil] at e
    omega
  · obtain ⟨h1, h2, h3⟩ := ha.init
    have p1 := rcode_nn h1
    revert hb e
    refine snoc_ind (p := fun b => Low7 b → rcode (l ++ [x]) = rcode b → l ++ [x] = b) (fun _ e => ?_) (fun m y _ hb e => ?_) b
    · rw [rcode_snoc, rcode_nil] at e
      omega
    · obtain ⟨g1, g2, g3⟩ := hb.init
      have p2 := rcode_nn g1
      rw [rcode_snoc, rcode_snoc] at e
      rw [ih m h1 g1 (by omega), show x = y by omega]
theorem rcode_inj {a b : List Int} (ha : Low7 a) (hb : Low7 b) (h : rcode a = rcode b) : a = b := rcode_inj' a b ha hb h
/-- a row is before another -/
def Bef (a b : List Int) : Prop := rcode a < rcode b ∧ a.length ≤ b.length
/-- rows in order, each behind the first one but one pull longer than one of those ahead of the i-th -/
structure Asc (rs : List (List Int)) (i : Nat) : Prop where
  pw : rs.Pairwise Bef
  low : ∀ x ∈ rs, Low7 x
  par : ∀ x ∈ rs, x = [] ∨ ∃ (j : Nat) (q : List Int) (d : Int), j < i ∧ rs[j]? = some q ∧ x = q ++ [d]
structure AscD (rs : List (List Int)) (i : Nat) (p : List Int) (D : Int) : Prop where
  pw : rs.Pairwise Bef
  low : ∀ x ∈ rs, Low7 x
  at' : rs[i]? = some p
  par : ∀ x ∈ rs, x = [] ∨ (∃ (j : Nat) (q : List Int) (d : Int), j < i ∧ rs[j]? = some q ∧ x = q ++ [d]) ∨ ∃ d : Int, d < D ∧ x = p ++ [d]
theorem Asc.during {rs : List (List Int)} {i : Nat} {p : List Int} (A : Asc rs i) (h : rs[i]? = some p) : AscD rs i p 0 := by
  refine ⟨A.pw, A.low, h, fun x hx => ?_⟩
  rcases A.par x hx with q | q
  · exact .inl q
  · exact .inr (.inl q)
theorem AscD.done {rs : List (List Int)} {i : Nat} {p : List Int} {D : Int} (A : AscD rs i p D) : Asc rs (i + 1) := by
  refine ⟨A.pw, A.low, fun x hx => ?_⟩
  rcases A.par x hx with q | ⟨j, q, d, h1, h2, h3⟩ | ⟨d, h1, h2⟩
  · exact .inl q
  · exact .inr ⟨j, q, d, by omega, h2, h3⟩
  · exact .inr ⟨i, p, d, by omega, A.at', h2⟩
theorem AscD.up {rs : List (List Int)} {i : Nat} {p : List Int} {D D' : Int} (A : AscD rs i p D) (h : D ≤ D') : AscD rs i p D' := by
  refine ⟨A.pw, A.low, A.at', fun x hx => ?_⟩
  rcases A.par x hx with q | q | ⟨d, h1, h2⟩
  · exact .inl q
  · exact .inr (.inl q)
  · exact .inr (.inr ⟨d, by omega, h2⟩)
theorem AscD.below {rs : List (List Int)} {i : Nat} {p : List Int} {D d : Int} (A : AscD rs i p D) (hD : D ≤ d) (h0 : 0 ≤ d) : ∀ x ∈ rs, Bef x (p ++ [d]) := by
  intro x hx
  have hp : Low7 p := A.low p (List.mem_of_getElem? A.at')
  have pn := rcode_nn hp
  have lx := A.low x hx
  rcases A.par x hx with rfl | ⟨j, q, e, h1, h2, rfl⟩ | ⟨e, h1, rfl⟩
  · refine ⟨?_, by simp⟩
    rw [rcode_snoc, rcode_nil]
    omega
  · obtain ⟨g1, g2, g3⟩ := lx.init
    obtain ⟨l1, e1⟩ := List.getElem?_eq_some_iff.mp h2
    obtain ⟨l2, e2⟩ := List.getElem?_eq_some_iff.mp A.at'
    have := List.pairwise_iff_getElem.mp A.pw j i l1 l2 h1
    rw [e1, e2] at this
    obtain ⟨b1, b2⟩ := this
    refine ⟨?_, by rw [List.length_append, List.length_append]; exact Nat.add_le_add_right b2 _⟩
    rw [rcode_snoc, rcode_snoc]
    omega
  · refine ⟨?_, by rw [List.length_append, List.length_append]; exact Nat.le_refl _⟩
    rw [rcode_snoc, rcode_snoc]
    omega
theorem AscD.add {rs : List (List Int)} {i : Nat} {p : List Int} {D d : Int} (A : AscD rs i p D) (hD : D ≤ d) (h0 : 0 ≤ d) (h6 : d ≤ 6) : AscD (rs ++ [p ++ [d]]) i p (d + 1) := by
  have hp : Low7 p := A.low p (List.mem_of_getElem? A.at')
  have keep : ∀ (j : Nat) (q : List Int), rs[j]? = some q → (rs ++ [p ++ [d]])[j]? = some q := fun j q h => by
    rw [List.getElem?_append_left (List.getElem?_eq_some_iff.mp h).1]
    exact h
  refine ⟨?_, fun x hx => ?_, keep i p A.at', fun x hx => ?_⟩
  · rw [List.pairwise_append]
    refine ⟨A.pw, List.pairwise_singleton _ _, fun x hx y hy => ?_⟩
    rw [List.mem_singleton.mp hy]
    exact A.below hD h0 x hx
  · rcases List.mem_append.mp hx with hx | hx
    · exact A.low x hx
    · rw [List.mem_singleton.mp hx]
      intro e he
      rcases List.mem_append.mp he with he | he
      · exact hp e he
      · rw [List.mem_singleton.mp he]; exact ⟨h0, h6⟩
  · rcases List.mem_append.mp hx with hx | hx
    · rcases A.par x hx with q | ⟨j, q, e, h1, h2, h3⟩ | ⟨e, h1, h2⟩
      · exact .inl q
      · exact .inr (.inl ⟨j, q, e, h1, keep j q h2, h3⟩)
      · exact .inr (.inr ⟨e, by omega, h2⟩)
    · exact .inr (.inr ⟨d, by omega, List.mem_singleton.mp hx⟩)
/-! ### the pulls that go, one after another -/
theorem drs_pw (n : Nat) : (drs n).Pairwise (· < ·) := by
  unfold drs
  rw [List.pairwise_map]
  exact List.pairwise_lt_range.imp fun h => by omega
theorem free_pw (bs : List Bar) (st : List Bool) : (freeL bs st).Pairwise (· < ·) := (drs_pw st.length).filter _
theorem free_mem {bs : List Bar} {st : List Bool} {d : Int} : d ∈ freeL bs st ↔ (0 ≤ d ∧ d < st.length) ∧ goesB bs st d = true := by
  refine ⟨fun h => ⟨free_in h, (List.mem_filter.mp h).2⟩, fun h => ?_⟩
  refine List.mem_filter.mpr ⟨?_, h.2⟩
  unfold drs
  exact List.mem_map.mpr ⟨d.toNat, List.mem_range.mpr (by omega), by omega⟩
theorem pw_drop {l : List Int} (h : l.Pairwise (· < ·)) {t : Nat} {d : Int} (hd : l[t]? = some d) : (∀ x ∈ l.drop (t + 1), d + 1 ≤ x) ∧ l.drop t = d :: l.drop (t + 1) := by
  obtain ⟨h1, h2⟩ := List.getElem?_eq_some_iff.mp hd
  have e : l.drop t = d :: l.drop (t + 1) := by rw [List.drop_eq_getElem_cons h1, h2]
  refine ⟨fun x hx => ?_, e⟩
  have hp : (l.drop t).Pairwise (· < ·) := List.Pairwise.sublist (List.drop_sublist t l) h
  rw [e, List.pairwise_cons] at hp
  have := hp.1 x hx
  omega
theorem mem_take_succ {α : Type} {l : List α} {t : Nat} {d x : α} (hd : l[t]? = some d) (h : x ∈ l.take (t + 1)) : x ∈ l.take t ∨ x = d := by
  obtain ⟨h1, h2⟩ := List.getElem?_eq_some_iff.mp hd
  rw [List.take_succ_eq_append_getElem h1, h2] at h
  rcases List.mem_append.mp h with h | h
  · exact .inl h
  · exact .inr (List.mem_singleton.mp h)
/-! ### the queue: an entry is a standing and its row -/
abbrev Ent := List Bool × List Int
def Led (bs : List Bar) (s0 : List Bool) (e : Ent) : Prop := runB bs s0 e.2 = some e.1 ∧ (Low7 e.2 ∧ ∀ d ∈ e.2, 0 ≤ d ∧ d < s0.length) ∧ e.1.length = s0.length
theorem runB_snoc {bs : List Bar} : ∀ {r : List Int} {st : List Bool} {d : Int}, runB bs st (r ++ [d]) = (runB bs st r).bind fun s => if goesB bs s d = true then some (flip s d) else none
  | [], st, d => by
    show runB bs st [d] = _
    rw [runB_cons]
    rfl
  | x :: r, st, d => by
    show runB bs st (x :: (r ++ [d])) = _
    rw [runB_cons, runB_cons]
    by_cases q : goesB bs st x = true
    · rw [if_pos q, if_pos q]
      exact runB_snoc
    · rw [if_neg q, if_neg q]
      rfl
theorem Led.step {bs : List Bar} {s0 : List Bool} {p : Ent} {d : Int} (L : Led bs s0 p) (hd : d ∈ freeL bs p.1) (h7 : s0.length ≤ 7) : Led bs s0 (flip p.1 d, p.2 ++ [d]) := by
  obtain ⟨⟨d0, d1⟩, hg⟩ := free_mem.mp hd
  refine ⟨?_, ⟨fun x hx => ?_, fun x hx => ?_⟩, by rw [flip_len]; exact L.2.2⟩
  · show runB bs s0 (p.2 ++ [d]) = _
    rw [runB_snoc, L.1, Option.bind_some, if_pos hg]
  · rcases List.mem_append.mp hx with hx | hx
    · exact L.2.1.1 x hx
    · rw [List.mem_singleton.mp hx]
      have := L.2.2
      omega
  · rcases List.mem_append.mp hx with hx | hx
    · exact L.2.1.2 x hx
    · rw [List.mem_singleton.mp hx]
      have := L.2.2
      omega
structure BI (bs : List Bar) (s0 : List Bool) (i : Nat) (es : List Ent) : Prop where
  nd : (es.map (·.1)).Nodup
  asc : Asc (es.map (·.2)) i
  led : ∀ e ∈ es, Led bs s0 e
  ex : ∀ (j : Nat) (p : Ent), j < i → es[j]? = some p → ∀ d ∈ freeL bs p.1, ∃ e ∈ es, e.1 = flip p.1 d ∧ rcode e.2 ≤ rcode (p.2 ++ [d]) ∧ e.2.length ≤ p.2.length + 1
  root : (s0, []) ∈ es
structure BD (bs : List Bar) (s0 : List Bool) (i : Nat) (p : Ent) (t : Nat) (D : Int) (es : List Ent) : Prop where
  nd : (es.map (·.1)).Nodup
  asc : AscD (es.map (·.2)) i p.2 D
  led : ∀ e ∈ es, Led bs s0 e
  at' : es[i]? = some p
  ex : ∀ (j : Nat) (p : Ent), j < i → es[j]? = some p → ∀ d ∈ freeL bs p.1, ∃ e ∈ es, e.1 = flip p.1 d ∧ rcode e.2 ≤ rcode (p.2 ++ [d]) ∧ e.2.length ≤ p.2.length + 1
  exd : ∀ d ∈ (freeL bs p.1).take t, ∃ e ∈ es, e.1 = flip p.1 d ∧ rcode e.2 ≤ rcode (p.2 ++ [d]) ∧ e.2.length ≤ p.2.length + 1
  dle : ∀ d ∈ (freeL bs p.1).drop t, D ≤ d
  root : (s0, []) ∈ es
theorem BI.begin {bs : List Bar} {s0 : List Bool} : BI bs s0 0 [(s0, [])] := by
  refine ⟨by simp, ⟨List.pairwise_singleton _ _, fun x hx => ?_, fun x hx => .inl (List.mem_singleton.mp hx)⟩, fun e he => ?_, fun j p hj => by omega, List.mem_singleton.mpr rfl⟩
  · rw [List.mem_singleton.mp hx]
    intro d hd
    cases hd
  · rw [List.mem_singleton.mp he]
    exact ⟨rfl, ⟨fun d hd => (by cases hd), fun d hd => (by cases hd)⟩, rfl⟩
theorem BI.during {bs : List Bar} {s0 : List Bool} {i : Nat} {es : List Ent} {p : Ent} (B : BI bs s0 i es) (h : es[i]? = some p) : BD bs s0 i p 0 0 es :=
  ⟨B.nd, B.asc.during (by rw [List.getElem?_map, h]; rfl), B.led, h, B.ex, fun d hd => (by cases hd), fun d hd => (free_in (List.mem_of_mem_drop hd)).1, B.root⟩
theorem BD.done {bs : List Bar} {s0 : List Bool} {i : Nat} {p : Ent} {D : Int} {es : List Ent} (B : BD bs s0 i p (freeL bs p.1).length D es) : BI bs s0 (i + 1) es := by
  refine ⟨B.nd, B.asc.done, B.led, fun j q hj hq => ?_, B.root⟩
  by_cases e : j = i
  · subst e
    rw [B.at'] at hq
    cases hq
    have := B.exd
    rw [List.take_length] at this
    exact this
  · exact B.ex j q (by omega) hq
theorem BD.free {bs : List Bar} {s0 : List Bool} {i : Nat} {p : Ent} {t : Nat} {D : Int} {es : List Ent} (B : BD bs s0 i p t D es) {d : Int} (hd : (freeL bs p.1)[t]? = some d) (h7 : s0.length ≤ 7) :
    d ∈ freeL bs p.1 ∧ D ≤ d ∧ 0 ≤ d ∧ d ≤ 6 := by
  have hm := List.mem_of_getElem? hd
  obtain ⟨d0, d1⟩ := free_in hm
  have := (B.led p (List.mem_of_getElem? B.at')).2.2
  obtain ⟨_, e⟩ := pw_drop (free_pw bs p.1) hd
  exact ⟨hm, B.dle d (by rw [e]; exact List.mem_cons_self), d0, by omega⟩
theorem BD.old {bs : List Bar} {s0 : List Bool} {i : Nat} {p : Ent} {t : Nat} {D : Int} {es : List Ent} (B : BD bs s0 i p t D es) {d : Int} (hd : (freeL bs p.1)[t]? = some d) (h7 : s0.length ≤ 7) (h : flip p.1 d ∈ es.map (·.1)) : BD bs s0 i p (t + 1) (d + 1) es := by
  obtain ⟨hm, hD, d0, d6⟩ := B.free hd h7
  refine ⟨B.nd, B.asc.up (by omega), B.led, B.at', B.ex, fun x hx => ?_, (pw_drop (free_pw bs p.1) hd).1, B.root⟩
  rcases mem_take_succ hd hx with hx | rfl
  · exact B.exd x hx
  · obtain ⟨e, he, h1⟩ := List.mem_map.mp h
    obtain ⟨b1, b2⟩ := B.asc.below hD d0 e.2 (List.mem_map.mpr ⟨e, he, rfl⟩)
    rw [List.length_append] at b2
    exact ⟨e, he, h1, Int.le_of_lt b1, b2⟩
theorem BD.new {bs : List Bar} {s0 : List Bool} {i : Nat} {p : Ent} {t : Nat} {D : Int} {es : List Ent} (B : BD bs s0 i p t D es) {d : Int} (hd : (freeL bs p.1)[t]? = some d) (h7 : s0.length ≤ 7) (h : ¬ flip p.1 d ∈ es.map (·.1)) : BD bs s0 i p (t + 1) (d + 1) (es ++ [(flip p.1 d, p.2 ++ [d])]) := by
  obtain ⟨hm, hD, d0, d6⟩ := B.free hd h7
  have mono : ∀ {e : Ent}, e ∈ es → e ∈ es ++ [(flip p.1 d, p.2 ++ [d])] := fun he => List.mem_append_left _ he
  refine ⟨?_, ?_, fun e he => ?_, ?_, fun j q hj hq x hx => ?_, fun x hx => ?_, (pw_drop (free_pw bs p.1) hd).1, mono B.root⟩
  · rw [List.map_append, List.nodup_append]
    refine ⟨B.nd, by simp, fun x hx y hy => ?_⟩
    rw [List.mem_singleton.mp hy]
    intro z
    have z' : x = flip p.1 d := z
    rw [z'] at hx
    exact h hx
  · rw [List.map_append]
    exact B.asc.add hD d0 d6
  · rcases List.mem_append.mp he with he | he
    · exact B.led e he
    · rw [List.mem_singleton.mp he]
      exact (B.led p (List.mem_of_getElem? B.at')).step hm h7
  · rw [List.getElem?_append_left (List.getElem?_eq_some_iff.mp B.at').1]
    exact B.at'
  · have hq' : es[j]? = some q := by
      have := (List.getElem?_eq_some_iff.mp B.at').1
      rw [List.getElem?_append_left (by omega)] at hq
      exact hq
    obtain ⟨e, he, h1⟩ := B.ex j q hj hq' x hx
    exact ⟨e, mono he, h1⟩
  · rcases mem_take_succ hd hx with hx | rfl
    · obtain ⟨e, he, h1⟩ := B.exd x hx
      exact ⟨e, mono he, h1⟩
    · exact ⟨_, List.mem_append_right _ (List.mem_singleton.mpr rfl), rfl, Int.le_refl _, by rw [List.length_append]; exact Nat.le_refl _⟩
/-- every row that goes ends where an entry stands whose row is not behind it -/
theorem BI.opt {bs : List Bar} {s0 : List Bool} {es : List Ent} (B : BI bs s0 es.length es) (h7 : s0.length ≤ 7) : ∀ (r : List Int), (∀ d ∈ r, 0 ≤ d ∧ d < s0.length) → ∀ st, runB bs s0 r = some st → ∃ e ∈ es, e.1 = st ∧ rcode e.2 ≤ rcode r ∧ e.2.length ≤ r.length := by
  intro r
  refine snoc_ind (p := fun (r : List Int) => (∀ d ∈ r, 0 ≤ d ∧ d < s0.length) → ∀ st, runB bs s0 r = some st → ∃ e ∈ es, e.1 = st ∧ rcode e.2 ≤ rcode r ∧ e.2.length ≤ r.length) (fun _ st h => ?_) (fun l d ih hl st h => ?_) r
  · cases h
    exact ⟨_, B.root, rfl, Int.le_refl _, Nat.le_refl _⟩
  · rw [runB_snoc] at h
    cases hr : runB bs s0 l with
    | none => rw [hr] at h; cases h
    | some s1 =>
      rw [hr, Option.bind_some] at h
      by_cases hg : goesB bs s1 d = true
      · rw [if_pos hg] at h
        cases h
        obtain ⟨e, he, h1, h2, h3⟩ := ih (fun x hx => hl x (List.mem_append_left _ hx)) s1 hr
        obtain ⟨j, hj⟩ := List.getElem?_of_mem he
        have el := (B.led e he).2.2
        have hdm : d ∈ freeL bs e.1 := free_mem.mpr ⟨by have := hl d (List.mem_append_right _ (List.mem_singleton.mpr rfl)); omega, by rw [h1]; exact hg⟩
        obtain ⟨f, hf, g1, g2, g3⟩ := B.ex j e (List.getElem?_eq_some_iff.mp hj).1 hj d hdm
        refine ⟨f, hf, by rw [g1, h1], ?_, ?_⟩
        · rw [rcode_snoc] at g2 ⊢
          omega
        · rw [List.length_append]
          show f.2.length ≤ l.length + 1
          omega
      · rw [if_neg hg] at h
        cases h
/-! ### there are not many standings -/
theorem few : ∀ (n : Nat) (l : List (List Bool)), l.Nodup → (∀ x ∈ l, x.length = n) → l.length ≤ 2 ^ n
  | 0, l, hn, h => by
    cases l with
    | nil => exact Nat.zero_le _
    | cons a l =>
      cases l with
      | nil => exact Nat.le_refl _
      | cons b l =>
        have h1 := List.length_eq_zero_iff.mp (h a (by simp))
        have h2 := List.length_eq_zero_iff.mp (h b (by simp))
        rw [h1, h2] at hn
        simp at hn
  | n + 1, l, hn, h => by
    have part : ∀ b : Bool, (l.filter fun x => x.head? == some b).length ≤ 2 ^ n := fun b => by
      have e : ((l.filter fun x => x.head? == some b).map List.tail).length = (l.filter fun x => x.head? == some b).length := List.length_map ..
      rw [← e]
      have hd : ∀ x ∈ l.filter fun x => x.head? == some b, x = b :: x.tail := fun x hx => by
        have := (List.mem_filter.mp hx).2
        cases x with
        | nil => cases this
        | cons c x =>
          have : some c = some b := eq_of_beq this
          cases this
          rfl
      refine few n _ ?_ fun x hx => ?_
      · have h1 : (l.filter fun x => x.head? == some b).Nodup := hn.filter _
        unfold List.Nodup at h1 ⊢
        rw [List.pairwise_map]
        refine List.Pairwise.imp_of_mem (fun {x y} hx hy q z => q ?_) h1
        rw [hd x hx, hd y hy, z]
      · obtain ⟨y, hy, rfl⟩ := List.mem_map.mp hx
        rw [List.length_tail, h y (List.mem_filter.mp hy).1]
        rfl
    have split : l.length = (l.filter fun x => x.head? == some true).length + (l.filter fun x => x.head? == some false).length := by
      clear part hn
      induction l with
      | nil => rfl
      | cons a l ih =>
        have := ih fun x hx => h x (List.mem_cons_of_mem _ hx)
        have ha := h a List.mem_cons_self
        cases a with
        | nil => cases ha
        | cons c a =>
          cases c
          · rw [List.filter_cons_of_neg (by simp), List.filter_cons_of_pos (by simp), List.length_cons, List.length_cons]
            omega
          · rw [List.filter_cons_of_pos (by simp), List.filter_cons_of_neg (by simp), List.length_cons, List.length_cons]
            omega
    have p1 := part true
    have p2 := part false
    rw [Nat.pow_succ]
    omega
theorem led_few {bs : List Bar} {s0 : List Bool} {es : List Ent} (nd : (es.map (·.1)).Nodup) (led : ∀ e ∈ es, Led bs s0 e) (h7 : s0.length ≤ 7) : es.length ≤ 128 := by
  have := few s0.length (es.map (·.1)) nd fun x hx => by
    obtain ⟨e, he, rfl⟩ := List.mem_map.mp hx
    exact (led e he).2.2
  rw [List.length_map] at this
  have h2 : 2 ^ s0.length ≤ 2 ^ 7 := Nat.pow_le_pow_right (by decide) h7
  have h3 : (2 : Nat) ^ 7 = 128 := rfl
  omega
end DL

set_option Elab.async false
set_option maxRecDepth 100000
namespace DL
open PySem L2 HT TL
/-! ### a dict that is made within a for's head is read only from then on -/
def tFrz (te : TE) : TE := fun σ H Q => te σ H fun x H1 => ∃ d u, x = V.ref d ∧ H1 d = some u ∧ Mut (some u) ∧ ∀ od, Q x (upd H1 d (.frz od u))
theorem pe_frz {X : Cx} {e : Expr} {te : TE} (he : PE X e te) : PE X e (tFrz te) := by
  refine ⟨fun pins s σ H Q I h => thn (he.run pins s σ H _ I h) fun v s1 ⟨x, H1, I1, r, d, u, ex, hd, mu, q⟩ => ?_⟩
  obtain ⟨od, I2⟩ := I1.lock hd mu
  exact ⟨x, _, I2, r, q od⟩
/-! ### rows in a dict -/
abbrev KEnt := Addr × Ent
def kvsOf (ks : List KEnt) : List (Key × V) := ks.map fun k => (.inr (sstr k.2.1), .ref k.1)
structure RowsEl (H : Hp) (ks : List KEnt) : Prop where
  el : ∀ k ∈ ks, H k.1 = some (.tup (k.2.2.map V.int))
theorem RowsEl.same {H H' : Hp} {ks : List KEnt} (R : RowsEl H ks) (s : Same H H') : RowsEl H' ks := ⟨fun k hk => s _ _ (R.el k hk)⟩
theorem val_some {ks : List KEnt} {k : KEnt} (nd : ((ks.map (·.2)).map (·.1)).Nodup) (hk : k ∈ ks) : valV (kvsOf ks) (.inr (sstr k.2.1)) = some (.ref k.1) := by
  induction ks with
  | nil => cases hk
  | cons a ks ih =>
    rw [List.map_cons, List.map_cons, List.nodup_cons] at nd
    unfold valV kvsOf
    rw [List.map_cons, List.find?_cons]
    by_cases q : (.inr (sstr a.2.1) : Key) = .inr (sstr k.2.1)
    · rw [decide_eq_true q]
      rcases List.mem_cons.mp hk with rfl | hk
      · rfl
      · injection q with q
        refine absurd (List.mem_map.mpr ⟨k.2, List.mem_map.mpr ⟨k, hk, rfl⟩, (sstr_inj q).symm⟩) nd.1
    · rw [decide_eq_false q]
      rcases List.mem_cons.mp hk with rfl | hk
      · exact absurd rfl q
      · exact ih nd.2 hk
theorem val_none {ks : List KEnt} {st : List Bool} (h : ¬ st ∈ (ks.map (·.2)).map (·.1)) : valV (kvsOf ks) (.inr (sstr st)) = none := by
  unfold valV kvsOf
  have : (ks.map fun k => ((.inr (sstr k.2.1) : Key), V.ref k.1)).find? (fun kv => decide (kv.1 = .inr (sstr st))) = none := by
    rw [List.find?_eq_none]
    intro kv hkv
    obtain ⟨k, hk, rfl⟩ := List.mem_map.mp hkv
    intro z
    have z' : (.inr (sstr k.2.1) : Key) = .inr (sstr st) := of_decide_eq_true z
    injection z' with z'
    exact h (List.mem_map.mpr ⟨k.2, List.mem_map.mpr ⟨k, hk, rfl⟩, sstr_inj z'⟩)
  rw [this]
  rfl
theorem kvs_len (ks : List KEnt) : (kvsOf ks).length = ks.length := List.length_map ..
theorem ascD_len {rs : List (List Int)} {i : Nat} {p : List Int} {D : Int} (A : AscD rs i p D) : ∀ (m : Nat) (x : List Int), rs[m]? = some x → x.length ≤ m := by
  intro m
  induction m using Nat.strongRecOn with
  | _ m ih =>
    intro x hx
    have key : ∀ (j : Nat) (q : List Int) (d : Int), rs[j]? = some q → x = q ++ [d] → x.length ≤ m := fun j q d hj e => by
      have el : x.length = q.length + 1 := by rw [e, List.length_append]; rfl
      obtain ⟨l1, e1⟩ := List.getElem?_eq_some_iff.mp hx
      obtain ⟨l2, e2⟩ := List.getElem?_eq_some_iff.mp hj
      rcases Nat.lt_trichotomy j m with h | h | h
      · have := ih j h q hj
        omega
      · subst h
        rw [hx] at hj
        cases hj
        omega
      · have := List.pairwise_iff_getElem.mp A.pw m j l1 l2 h
        rw [e1, e2] at this
        have := this.2
        omega
    rcases A.par x (List.mem_of_getElem? hx) with rfl | ⟨j, q, d, _, hj, e⟩ | ⟨d, _, e⟩
    · exact Nat.zero_le _
    · exact key j q d hj e
    · exact key i p d A.at' e
structure spRows (C : Addr) (vs : List V) (H : Hp) (Q : VK) (_ : XK) : Prop where
  h : ∃ (c : Addr) (bs : List Bar) (st : List Bool), vs = [.ref c, .str (sstr st)] ∧ CabOk C H c st.length bs ∧
    ∀ (a : Addr) (ks : List KEnt) (H' : Hp), H a = none → Same H H' → H' a = some (.dK (kvsOf ks)) → RowsEl H' ks → BI bs st ks.length (ks.map (·.2)) → Q (.ref a) H'
section
variable {P : Program} {w : World} {K : PySem.W.Frag} {mg : Str → Option Value} {base : Heap}
abbrev nRf : List Str := ["cabinet", "standing", "rows", "queue", "done", "place", "drawer", "beyond"]
theorem scRf : FnScope nRf ["cabinet", "standing"] (defScope s_rows_from) := ⟨rfl, rfl, rfl, by decide +kernel, rfl, by decide +kernel, by decide +kernel⟩
theorem ok_rowsFrom {f f1 f2 C : Addr} {fd fd1 fd2 : FuncData} (F : Fun K "rows_from" "rows_from" s_rows_from f fd) (T : Bt mg)
    (G1 : FnOk P w K mg base CX0 8 f1 fd1 ["cabinet", "standing"] (spFreeDrawers C)) (g1 : mg "free_drawers" = some (.ref f1)) (k1 : PySem.W.keepIn K (.ref f1) = true) (b1 : Binds K fd1 ["cabinet", "standing"] [])
    (G2 : FnOk P w K mg base CX0 1 f2 fd2 ["standing", "drawer"] spMoved) (g2 : mg "moved" = some (.ref f2)) (k2 : PySem.W.keepIn K (.ref f2) = true) (b2 : Binds K fd2 ["standing", "drawer"] []) : FnOk P w K mg base CX0 10 f fd ["cabinet", "standing"] (spRows C) := by
  refine F.ok scRf (fun vs H Q E h => ?_) (fun cdv A outer s H vs Q E hr h => ?_)
  · obtain ⟨c, bs, st, rfl, _⟩ := h.h
    rfl
  · obtain ⟨c, bs, st, rfl, B, k⟩ := h.h
    have hu := hu_of hr
    obtain ⟨_, _, n7⟩ := B.cab
    have h7 : st.length ≤ 7 := by omega
    refine ⟨_, pss_cons (ps_set (i := 2) scRf.nd rfl (Or.inl rfl) (pe_disp (pps_cons (pv 1) (pe_tup pa_nil) pps_nil) (by rfl) (by rfl) (fun z => by cases z) (by decide)))
      (pss_cons (ps_set (i := 3) scRf.nd rfl (Or.inl rfl) (pe_lst (pa_cons (pv 1) pa_nil)))
      (pss_cons (ps_set (i := 4) scRf.nd rfl (Or.inl rfl) pe_int)
      (pss_cons (ps_while PassesOwn.never (pt_cmpR op_lt (pv 4) (pe_callB call_len_seq (by rfl) T.len PySem.boot_len (pa_cons (pv 3) pa_nil)) (nomark _))
        (pss_cons (ps_set (i := 5) scRf.nd rfl (Or.inl rfl) (pe_ix ix_list (pv 3) (pv 4) (fun _ _ => rfl)))
        (pss_cons (ps_aug (i := 4) scRf.nd rfl (Or.inl rfl) pe_int in_add)
        (pss_one (ps_for PassesOwn.never rfl (pi_list (pe_call G1 (hr.mono (by decide)) rfl g1 k1 b1 .nil pass0 (pa_cons (pv 0) (pa_cons (pv 5) pa_nil)))) (pg_name (i := 6) scRf.nd rfl (Or.inl rfl))
          (pss_cons (ps_set (i := 7) scRf.nd rfl (Or.inl rfl) (pe_call G2 (hr.mono (by decide)) rfl g2 k2 b2 .nil pass0 (pa_cons (pv 5) (pa_cons (pv 6) pa_nil))))
          (pss_one (ps_if (pt_cmp (pc_dnotin hu (pv 7) (pv 2)))
            (pss_cons (ps_dput hu (pv 2) (pv 7) (pe_tup (StX.pa_star (pe_dget hu (pv 2) (pv 5) (fun _ _ => rfl)) (pa_cons (pv 6) pa_nil))) rfl)
            (pss_one (ps_expr (pe_bm PySem.F.plainAttrs_list PySem.F.slot_list_append PySem.F.type_list_append mt_append (pv 3) (pa_cons (pv 7) pa_nil))))) pss_nil))))))))
      (pss_one (ps_ret (pv 2)))))), ?_⟩
    intro a ha
    refine ⟨_, rfl, (by show 0 ≤ sizeLine; decide), fun e0 he0 => ?_⟩
    have hae : a ≠ e0 := ne_of_none upd_same he0
    refine ⟨by rw [upd_ne hae]; exact upd_same, [(.inr (sstr st), .ref e0)], rfl, by show 1 ≤ 15; decide, ?_⟩
    refine ⟨_, rfl, (by show 1 ≤ sizeLine; decide), fun q hq => ?_⟩
    have hqa : q ≠ a := fun z => by rw [z, upd_same] at hq; cases hq
    have he0' : H e0 = none := by rw [upd_ne hae.symm] at he0; exact he0
    have hq0 : q ≠ e0 := fun z => by rw [z, upd_ne hae.symm, upd_same] at hq; cases hq
    have hqH : H q = none := by rw [upd_ne hqa, upd_ne hq0, upd_ne hqa] at hq; exact hq
    have S0 : Same H (upd (upd (upd (upd H a (.dK [])) e0 (.tup [])) a (.dK (mergeK [] [(.inr (sstr st), .ref e0)]))) q (.lst [.str (sstr st)])) := fun b o eb => by
      rw [upd_ne (ne_of_none eb hqH), upd_ne (ne_of_none eb ha), upd_ne (ne_of_none eb he0'), upd_ne (ne_of_none eb ha)]
      exact eb
    refine while_by (fun σ H' => ∃ (i : Nat) (ks : List KEnt) (u5 u6 u7 : Option V), σ = [some (.ref c), some (.str (sstr st)), some (.ref a), some (.ref q), some (.int i), u5, u6, u7] ∧ i ≤ ks.length ∧ BI bs st i (ks.map (·.2)) ∧ H' a = some (.dK (kvsOf ks)) ∧ RowsEl H' ks ∧
        H' q = some (.lst (ks.map fun k => .str (sstr k.2.1))) ∧ Same H H')
      (fun (σ : L2.St) (_ : Hp) => 128 - (match σ[4]? with | some (some (V.int i)) => i.toNat | _ => 0)) ?_ ?_ ?_
    · refine ⟨0, [(e0, (st, []))], _, _, _, rfl, Nat.zero_le _, BI.begin, ?_, ⟨fun k hk => ?_⟩, upd_same, S0⟩
      · rw [upd_ne hqa.symm, upd_same]
        rfl
      · rw [List.mem_singleton.mp hk]
        show (upd (upd (upd (upd H a (.dK [])) e0 (.tup [])) a (.dK (mergeK [] [(.inr (sstr st), .ref e0)]))) q (.lst [.str (sstr st)])) e0 = some (.tup [])
        rw [upd_ne hq0.symm, upd_ne hae.symm, upd_same]
    · rintro σ H1 ⟨i, ks, u5, u6, u7, rfl, hi, I, hA, hE, hQ, s1⟩
      have hfew : ks.length ≤ 128 := by
        have := led_few I.nd I.led h7
        rw [List.length_map] at this
        exact this
      refine ⟨_, rfl, _, rfl, q, _, rfl, .inl (SqL.of hQ), _, _, rfl, rfl, _, rfl, ?_⟩
      rw [List.length_map]
      refine ite2 (fun z => ?_) (fun z => ?_)
      · have hlt : i < ks.length := by have := of_decide_eq_true z; omega
        obtain ⟨kp, hkp⟩ : ∃ kp, ks[i]? = some kp := ⟨_, List.getElem?_eq_getElem hlt⟩
        have hpe : (ks.map (·.2))[i]? = some kp.2 := by rw [List.getElem?_map, hkp]; rfl
        have hpl : kp.2.1.length = st.length := (I.led kp.2 (List.mem_of_getElem? hpe)).2.2
        refine ⟨_, rfl, _, rfl, q, _, _, .str (sstr kp.2.1), rfl, rfl, SqL.of hQ, atI_nat (by rw [List.getElem?_map, hkp]; rfl), ?_⟩
        refine ⟨_, rfl, _, _, rfl, rfl, ?_⟩
        refine ⟨_, rfl, _, rfl, ⟨⟨c, bs, kp.2.1, rfl, by rw [hpl]; exact B.same s1, fun fq H2 hfq s2 h2 => ?_⟩⟩⟩
        have hfa : fq ≠ a := fun z => by rw [z, hA] at hfq; cases hfq
        have hfqq : fq ≠ q := fun z => by rw [z, hQ] at hfq; cases hfq
        refine ⟨fq, rfl, ⟨_, SqL.of h2⟩, ?_⟩
        refine for_list (K := K) (a := fq) (xs := (freeL bs kp.2.1).map V.int) (fun t σ H' => ∃ (D : Int) (ks' : List KEnt) (u6 u7 : Option V), σ = [some (.ref c), some (.str (sstr st)), some (.ref a), some (.ref q), some (.int ((i : Int) + 1)), some (.str (sstr kp.2.1)), u6, u7] ∧ BD bs st i kp.2 t D (ks'.map (·.2)) ∧
            (∃ more, ks' = ks ++ more) ∧ H' a = some (.dK (kvsOf ks')) ∧ RowsEl H' ks' ∧ H' q = some (.lst (ks'.map fun k => .str (sstr k.2.1))) ∧ Same H H' ∧ H' fq = some (.lst ((freeL bs kp.2.1).map V.int)))
          ⟨0, ks, _, _, rfl, I.during hpe, ⟨[], by rw [List.append_nil]⟩, s2 _ _ hA, hE.same s2, s2 _ _ hQ, s1.trans s2, h2⟩ ?_ ?_ ?_
        · rintro t σ H' _ ⟨D, ks', u6, u7, _, _, _, _, _, _, _, h⟩
          exact SqL.of h
        · rintro t x σ H3 hx ⟨D, ks', u6, u7, rfl, I', ⟨more, hmore⟩, hA', hE', hQ', s3, hF⟩
          rw [List.getElem?_map] at hx
          cases hd : (freeL bs kp.2.1)[t]? with
          | none => rw [hd] at hx; cases hx
          | some d =>
            rw [hd] at hx
            cases hx
            obtain ⟨dm, dD, d0, d6⟩ := I'.free hd h7
            have d1 := (free_in dm).2
            have hfew' : ks'.length ≤ 128 := by
              have := led_few I'.nd I'.led h7
              rw [List.length_map] at this
              exact this
            refine ⟨_, rfl, _, rfl, ⟨⟨kp.2.1, d, rfl, by omega, d0, d1, fun H4 s4 => ?_⟩⟩⟩
            have hA4 := s4 _ _ hA'
            have hQ4 := s4 _ _ hQ'
            have hE4 := hE'.same s4
            have hF4 := s4 _ _ hF
            have s34 := s3.trans s4
            refine ⟨_, rfl, _, rfl, a, _, rfl, DGet.k (k := Sum.inr (sstr (flip kp.2.1 d))) hA4, _, rfl, ?_⟩
            by_cases hin : flip kp.2.1 d ∈ (ks'.map (·.2)).map (·.1)
            · obtain ⟨e, he, h1⟩ := List.mem_map.mp hin
              obtain ⟨k', hk', rfl⟩ := List.mem_map.mp he
              have hv := val_some I'.nd hk'
              rw [h1] at hv
              rw [hv]
              exact iteF ⟨_, ks', _, _, rfl, I'.old hd h7 hin, ⟨more, hmore⟩, hA4, hE4, hQ4, s34, hF4⟩
            · have hv := val_none hin
              rw [hv]
              refine iteT ?_
              have hkpm : kp ∈ ks' := by rw [hmore]; exact List.mem_append_left _ (List.mem_of_getElem? hkp)
              refine ⟨_, rfl, _, rfl, a, .ref kp.1, rfl, by rw [← val_some I'.nd hkpm]; exact DGet.k (k := Sum.inr (sstr kp.2.1)) hA4, ?_⟩
              refine ⟨kp.1, _, rfl, .inl (SqT.of' (hE4.el kp hkpm)), _, rfl, ?_, fun tn htn => ?_⟩
              · have hl := ascD_len I'.asc i kp.2.2 (by rw [List.getElem?_map, I'.at']; rfl)
                show (kp.2.2.map V.int ++ [V.int d]).length ≤ sizeLine
                rw [List.length_append, List.length_map]
                exact Nat.le_of_lt (small1000 (by show kp.2.2.length + 1 ≤ 1000; omega))
              · have hta : tn ≠ a := fun z => by rw [z, hA4] at htn; cases htn
                have htq : tn ≠ q := fun z => by rw [z, hQ4] at htn; cases htn
                have htf : tn ≠ fq := fun z => by rw [z, hF4] at htn; cases htn
                have hsm : (kvsOf ks').length < sizeLine := by rw [kvs_len]; exact small1000 (by omega)
                refine ⟨_, rfl, _, rfl, a, _, rfl, DPut.k (k := Sum.inr (sstr (flip kp.2.1 d))) (by rw [upd_ne hta.symm]; exact hA4) hsm, ?_⟩
                refine ⟨_, rfl, .inl ⟨rfl, _, SqL.of (by rw [upd_ne hqa, upd_ne htq.symm]; exact hQ4)⟩, _, rfl, q, _, _, rfl, rfl, by rw [upd_ne hqa, upd_ne htq.symm]; exact hQ4, by rw [List.length_map]; exact small1000 (by omega), ?_⟩
                have hat : tn ≠ a := hta
                refine ⟨d + 1, ks' ++ [(tn, (flip kp.2.1 d, kp.2.2 ++ [d]))], _, _, rfl, ?_, ⟨more ++ [(tn, (flip kp.2.1 d, kp.2.2 ++ [d]))], by rw [hmore, List.append_assoc]⟩, ?_, ⟨fun k' hk' => ?_⟩, ?_, fun b o eb => ?_, ?_⟩
                · rw [List.map_append]
                  exact I'.new hd h7 hin
                · rw [upd_ne hqa.symm, upd_same, putK_new _ hv]
                  unfold kvsOf
                  rw [List.map_append]
                  rfl
                · have hk1 : k'.1 ≠ a ∧ k'.1 ≠ q ∧ (upd H4 tn (.tup (kp.2.2.map V.int ++ [V.int d]))) k'.1 = some (.tup (k'.2.2.map V.int)) := by
                    rcases List.mem_append.mp hk' with hk' | hk'
                    · have := hE4.el k' hk'
                      exact ⟨ne_of this hA4 (by intro z; cases z), ne_of this hQ4 (by intro z; cases z), by rw [upd_ne (ne_of_none this htn)]; exact this⟩
                    · rw [List.mem_singleton.mp hk']
                      refine ⟨hta, htq, ?_⟩
                      show (upd H4 tn (.tup (kp.2.2.map V.int ++ [V.int d]))) tn = some (.tup ((kp.2.2 ++ [d]).map V.int))
                      rw [upd_same, List.map_append]
                      rfl
                  rw [upd_ne hk1.2.1, upd_ne hk1.1]
                  exact hk1.2.2
                · rw [upd_same, List.map_append]
                  rfl
                · rw [upd_ne (ne_of_none eb hqH), upd_ne (ne_of_none eb ha), upd_ne (ne_of_none (s34 _ _ eb) htn)]
                  exact s34 _ _ eb
                · rw [upd_ne hfqq, upd_ne hfa, upd_ne htf.symm]
                  exact hF4
        · rintro σ H3 ⟨D, ks', u6, u7, rfl, I', ⟨more, hmore⟩, hA', hE', hQ', s3, hF⟩
          rw [List.length_map] at I'
          have I2 := I'.done
          refine ⟨⟨i + 1, ks', _, _, _, rfl, by rw [hmore, List.length_append]; omega, I2, hA', hE', hQ', s3⟩, ?_⟩
          show 128 - ((i : Int) + 1).toNat < 128 - (i : Int).toNat
          omega
      · have hge : ¬ i < ks.length := fun z' => z (decide_eq_true (by omega))
        obtain rfl : i = ks.length := by omega
        exact ⟨_, rfl, k a ks H1 ha s1 hA hE I⟩
    · rintro σ H1 Q1 Q2 m ⟨x, e1, y, e2, p, ys, e3, hs, j, l, e4, e5, c', e6, hq⟩
      exact ⟨x, e1, y, e2, p, ys, e3, hs, j, l, e4, e5, c', e6, m _ _ hq⟩
abbrev nFr : List Str := ["cabinet", "standing", "pattern", "end", "row"]
structure spFirstRows (C : Addr) (vs : List V) (H : Hp) (Q : VK) (_ : XK) : Prop where
  h : ∃ (c : Addr) (bs : List Bar) (n : Nat), vs = [.ref c] ∧ CabOk C H c n bs ∧ ∀ (a : Addr) (ks : List KEnt) (H' : Hp), H a = none → Same H H' → H' a = some (.dK (kvsOf ks)) → RowsEl H' ks → BI bs (shutS n) ks.length (ks.map (·.2)) → Q (.ref a) H'
theorem scFirstRows : FnScope ["cabinet"] ["cabinet"] (defScope s_first_rows) := ⟨rfl, rfl, rfl, by decide +kernel, rfl, by decide +kernel, by decide +kernel⟩
theorem ok_firstRows {f f2 f3 C : Addr} {fd fd2 fd3 : FuncData} (F : Fun K "first_rows" "first_rows" s_first_rows f fd) (CP : CabP P w K mg base C)
    (G2 : FnOk P w K mg base CX0 10 f2 fd2 ["cabinet", "standing"] (spRows C)) (g2 : mg "rows_from" = some (.ref f2)) (k2 : PySem.W.keepIn K (.ref f2) = true) (b2 : Binds K fd2 ["cabinet", "standing"] [])
    (G3 : FnOk P w K mg base CX0 1 f3 fd3 ["drawers"] spFirst) (g3 : mg "first_standing" = some (.ref f3)) (k3 : PySem.W.keepIn K (.ref f3) = true) (b3 : Binds K fd3 ["drawers"] []) : FnOk P w K mg base CX0 12 f fd ["cabinet"] (spFirstRows C) := by
  refine F.ok scFirstRows (fun vs H Q E h => ?_) (fun cdv A outer s H vs Q E hr h => ?_)
  · obtain ⟨c, bs, n, rfl, _⟩ := h.h
    rfl
  · obtain ⟨c, bs, n, rfl, B, k⟩ := h.h
    obtain ⟨t, hc, n7⟩ := B.cab
    have n1 : 1 ≤ n := by
      obtain ⟨_, _, _, _, _, _, q, _⟩ := B.h
      omega
    obtain ⟨pD, gD, fdD, hpD, GD, bD⟩ := CP.d
    refine ⟨_, pss_one (ps_ret (pe_call G2 (hr.mono (by decide)) rfl g2 k2 b2 .nil pass0 (pa_cons (pv 0) (pa_cons (pe_call G3 (hr.mono (by decide)) rfl g3 k3 b3 .nil pass0 (pa_cons (pe_prop (pv 0) CP.cl hpD GD (hr.mono (by decide)) bD .nil pass0 rfl) pa_nil)) pa_nil)))), ?_⟩
    obtain ⟨dx, hc0⟩ := hc
    have hshut : (shutS n).length = n := List.length_replicate
    refine ⟨_, rfl, _, rfl, c, dx, _, rfl, hc0, ⟨⟨c, dx, _, t, rfl, hc0, ⟨⟨n, rfl, n1, by omega, ?_⟩⟩⟩⟩⟩
    exact ⟨⟨c, bs, shutS n, rfl, by rw [hshut]; exact B, fun a ks H1 ha s1 hA hE I => k a ks H1 ha s1 hA hE I⟩⟩
end
end DL

set_option Elab.async false
set_option maxRecDepth 100000
namespace DL
open PySem L2 HT TL
/-! ### all rows, one pull longer at each turn; the first one that leads to a standing -/
theorem nd_eq {es : List Ent} (nd : (es.map (·.1)).Nodup) : ∀ {a b : Ent}, a ∈ es → b ∈ es → a.1 = b.1 → a = b := by
  induction es with
  | nil => intro a b ha; cases ha
  | cons x es ih =>
    intro a b ha hb e
    rw [List.map_cons, List.nodup_cons] at nd
    rcases List.mem_cons.mp ha with qa | ha'
    · rcases List.mem_cons.mp hb with qb | hb'
      · rw [qa, qb]
      · have hm : x.1 ∈ es.map (·.1) := List.mem_map.mpr ⟨b, hb', by rw [← e, qa]⟩
        exact absurd hm nd.1
    · rcases List.mem_cons.mp hb with qb | hb'
      · have hm : x.1 ∈ es.map (·.1) := List.mem_map.mpr ⟨a, ha', by rw [e, qb]⟩
        exact absurd hm nd.1
      · exact ih nd.2 ha' hb' e
structure LI (bs : List Bar) (s0 : List Bool) (i : Nat) (cat fst : List Ent) : Prop where
  asc : Asc (cat.map (·.2)) i
  led : ∀ e ∈ cat, Led bs s0 e
  ex : ∀ (j : Nat) (p : Ent), j < i → cat[j]? = some p → ∀ d ∈ freeL bs p.1, (flip p.1 d, p.2 ++ [d]) ∈ cat
  root : (s0, []) ∈ cat
  fnd : (fst.map (·.1)).Nodup
  fin : ∀ e ∈ fst, e ∈ cat
  fco : ∀ x ∈ cat, ∃ e ∈ fst, e.1 = x.1 ∧ rcode e.2 ≤ rcode x.2
structure LD (bs : List Bar) (s0 : List Bool) (i : Nat) (p : Ent) (t : Nat) (D : Int) (cat fst : List Ent) : Prop where
  asc : AscD (cat.map (·.2)) i p.2 D
  led : ∀ e ∈ cat, Led bs s0 e
  at' : cat[i]? = some p
  ex : ∀ (j : Nat) (p : Ent), j < i → cat[j]? = some p → ∀ d ∈ freeL bs p.1, (flip p.1 d, p.2 ++ [d]) ∈ cat
  exd : ∀ d ∈ (freeL bs p.1).take t, (flip p.1 d, p.2 ++ [d]) ∈ cat
  dle : ∀ d ∈ (freeL bs p.1).drop t, D ≤ d
  root : (s0, []) ∈ cat
  fnd : (fst.map (·.1)).Nodup
  fin : ∀ e ∈ fst, e ∈ cat
  fco : ∀ x ∈ cat, ∃ e ∈ fst, e.1 = x.1 ∧ rcode e.2 ≤ rcode x.2
theorem LI.begin {bs : List Bar} {s0 : List Bool} : LI bs s0 0 [(s0, [])] [(s0, [])] := by
  have B := BI.begin (bs := bs) (s0 := s0)
  exact ⟨B.asc, B.led, fun j p hj => by omega, List.mem_singleton.mpr rfl, B.nd, fun e he => he, fun x hx => ⟨x, hx, rfl, Int.le_refl _⟩⟩
theorem LI.during {bs : List Bar} {s0 : List Bool} {i : Nat} {cat fst : List Ent} {p : Ent} (B : LI bs s0 i cat fst) (h : cat[i]? = some p) : LD bs s0 i p 0 0 cat fst :=
  ⟨B.asc.during (by rw [List.getElem?_map, h]; rfl), B.led, h, B.ex, fun d hd => (by cases hd), fun d hd => (free_in (List.mem_of_mem_drop hd)).1, B.root, B.fnd, B.fin, B.fco⟩
theorem LD.done {bs : List Bar} {s0 : List Bool} {i : Nat} {p : Ent} {D : Int} {cat fst : List Ent} (B : LD bs s0 i p (freeL bs p.1).length D cat fst) : LI bs s0 (i + 1) cat fst := by
  refine ⟨B.asc.done, B.led, fun j q hj hq => ?_, B.root, B.fnd, B.fin, B.fco⟩
  by_cases e : j = i
  · subst e
    rw [B.at'] at hq
    cases hq
    have := B.exd
    rw [List.take_length] at this
    exact this
  · exact B.ex j q (by omega) hq
theorem LD.free {bs : List Bar} {s0 : List Bool} {i : Nat} {p : Ent} {t : Nat} {D : Int} {cat fst : List Ent} (B : LD bs s0 i p t D cat fst) {d : Int} (hd : (freeL bs p.1)[t]? = some d) (h7 : s0.length ≤ 7) :
    d ∈ freeL bs p.1 ∧ D ≤ d ∧ 0 ≤ d ∧ d ≤ 6 := by
  have hm := List.mem_of_getElem? hd
  obtain ⟨d0, d1⟩ := free_in hm
  have := (B.led p (List.mem_of_getElem? B.at')).2.2
  obtain ⟨_, e⟩ := pw_drop (free_pw bs p.1) hd
  exact ⟨hm, B.dle d (by rw [e]; exact List.mem_cons_self), d0, by omega⟩
def addF (fst : List Ent) (e : Ent) : List Ent := if e.1 ∈ fst.map (·.1) then fst else fst ++ [e]
theorem LD.add {bs : List Bar} {s0 : List Bool} {i : Nat} {p : Ent} {t : Nat} {D : Int} {cat fst : List Ent} (B : LD bs s0 i p t D cat fst) {d : Int} (hd : (freeL bs p.1)[t]? = some d) (h7 : s0.length ≤ 7) :
    LD bs s0 i p (t + 1) (d + 1) (cat ++ [(flip p.1 d, p.2 ++ [d])]) (addF fst (flip p.1 d, p.2 ++ [d])) := by
  obtain ⟨hm, hD, d0, d6⟩ := B.free hd h7
  have mono : ∀ {e : Ent}, e ∈ cat → e ∈ cat ++ [(flip p.1 d, p.2 ++ [d])] := fun he => List.mem_append_left _ he
  have last : (flip p.1 d, p.2 ++ [d]) ∈ cat ++ [(flip p.1 d, p.2 ++ [d])] := List.mem_append_right _ (List.mem_singleton.mpr rfl)
  have fsub : ∀ {e : Ent}, e ∈ fst → e ∈ addF fst (flip p.1 d, p.2 ++ [d]) := fun he => by
    unfold addF
    by_cases z : (flip p.1 d, p.2 ++ [d]).1 ∈ fst.map (·.1)
    · rw [if_pos z]; exact he
    · rw [if_neg z]; exact List.mem_append_left _ he
  refine ⟨?_, fun e he => ?_, ?_, fun j q hj hq x hx => ?_, fun x hx => ?_, (pw_drop (free_pw bs p.1) hd).1, mono B.root, ?_, fun e he => ?_, fun x hx => ?_⟩
  · rw [List.map_append]
    exact B.asc.add hD d0 d6
  · rcases List.mem_append.mp he with he | he
    · exact B.led e he
    · rw [List.mem_singleton.mp he]
      exact (B.led p (List.mem_of_getElem? B.at')).step hm h7
  · rw [List.getElem?_append_left (List.getElem?_eq_some_iff.mp B.at').1]
    exact B.at'
  · have hq' : cat[j]? = some q := by
      have := (List.getElem?_eq_some_iff.mp B.at').1
      rw [List.getElem?_append_left (by omega)] at hq
      exact hq
    exact mono (B.ex j q hj hq' x hx)
  · rcases mem_take_succ hd hx with hx | rfl
    · exact mono (B.exd x hx)
    · exact last
  · unfold addF
    by_cases z : (flip p.1 d, p.2 ++ [d]).1 ∈ fst.map (·.1)
    · rw [if_pos z]; exact B.fnd
    · rw [if_neg z, List.map_append, List.nodup_append]
      refine ⟨B.fnd, by simp, fun x hx y hy q => ?_⟩
      have e1 : y = (flip p.1 d, p.2 ++ [d]).1 := List.mem_singleton.mp hy
      rw [← e1, ← q] at z
      exact z hx
  · unfold addF at he
    by_cases z : (flip p.1 d, p.2 ++ [d]).1 ∈ fst.map (·.1)
    · rw [if_pos z] at he; exact mono (B.fin e he)
    · rw [if_neg z] at he
      rcases List.mem_append.mp he with he | he
      · exact mono (B.fin e he)
      · rw [List.mem_singleton.mp he]; exact last
  · rcases List.mem_append.mp hx with hx | hx
    · obtain ⟨e, he, h1⟩ := B.fco x hx
      exact ⟨e, fsub he, h1⟩
    · rw [List.mem_singleton.mp hx]
      by_cases z : (flip p.1 d, p.2 ++ [d]).1 ∈ fst.map (·.1)
      · obtain ⟨e, he, h1⟩ := List.mem_map.mp z
        have := (B.asc.below hD d0 e.2 (List.mem_map.mpr ⟨e, B.fin e he, rfl⟩)).1
        exact ⟨e, fsub he, h1, Int.le_of_lt this⟩
      · refine ⟨_, ?_, rfl, Int.le_refl _⟩
        unfold addF
        rw [if_neg z]
        exact List.mem_append_right _ (List.mem_singleton.mpr rfl)
/-- those from the i-th on have k pulls, none has more -/
structure LV (k i : Nat) (cat : List Ent) : Prop where
  le : ∀ x ∈ cat, x.2.length ≤ k
  eq : ∀ x ∈ cat.drop i, x.2.length = k
theorem LI.all {bs : List Bar} {s0 : List Bool} {i k : Nat} {cat fst : List Ent} (B : LI bs s0 i cat fst) (V : LV k i cat) : ∀ (r : List Int), (∀ d ∈ r, 0 ≤ d ∧ d < s0.length) → r.length ≤ k → ∀ st, runB bs s0 r = some st → (st, r) ∈ cat := by
  intro r
  refine snoc_ind (p := fun (r : List Int) => (∀ d ∈ r, 0 ≤ d ∧ d < s0.length) → r.length ≤ k → ∀ st, runB bs s0 r = some st → (st, r) ∈ cat) (fun _ _ st h => ?_) (fun l d ih hl hk st h => ?_) r
  · cases h
    exact B.root
  · rw [List.length_append] at hk
    have hk : l.length + 1 ≤ k := hk
    rw [runB_snoc] at h
    cases hr : runB bs s0 l with
    | none => rw [hr] at h; cases h
    | some s1 =>
      rw [hr, Option.bind_some] at h
      by_cases hg : goesB bs s1 d = true
      · rw [if_pos hg] at h
        cases h
        have hm := ih (fun x hx => hl x (List.mem_append_left _ hx)) (by omega) s1 hr
        obtain ⟨j, hj⟩ := List.getElem?_of_mem hm
        have el := (B.led _ hm).2.2
        have el : s1.length = s0.length := el
        have hji : j < i := by
          rcases Nat.lt_or_ge j i with h | h
          · exact h
          · have : (s1, l) ∈ cat.drop i := by
              have e : (cat.drop i)[j - i]? = some (s1, l) := by
                rw [List.getElem?_drop, show i + (j - i) = j by omega]
                exact hj
              exact List.mem_of_getElem? e
            have := V.eq _ this
            have : l.length = k := this
            omega
        exact B.ex j _ hji hj d (free_mem.mpr ⟨by have := hl d (List.mem_append_right _ (List.mem_singleton.mpr rfl)); show 0 ≤ d ∧ d < s1.length; omega, hg⟩)
      · rw [if_neg hg] at h
        cases h
/-! ### a standing as a pattern -/
theorem catA_new {K : PySem.W.Frag} {H : Hp} {t q : Addr} {xs : List V} {x : V} {Q : VK} (h1 : H t = some (.tup xs)) (h2 : H q = some (.tup [x])) (hl : xs.length + 1 ≤ sizeLine)
    (k : ∀ (tn : Addr) (H' : Hp), Same H H' → H' tn = some (.tup (xs ++ [x])) → Q (.ref tn) H') : rCatA K (.ref t) (.ref q) H Q := by
  refine ⟨t, q, _, _, rfl, rfl, SqT.of' h1, SqT.of' h2, hl, fun ez => ?_, fun _ ez => (by cases ez), fun _ _ p hp => k p _ (same_upd hp) upd_same⟩
  exact k q H (Same.refl H) (by rw [ez]; exact h2)
end DL

set_option Elab.async false
set_option maxRecDepth 100000

set_option Elab.async false
set_option maxRecDepth 100000
namespace DL
open PySem L2 HT TL
/-! ### two queues that came to their end hold the same -/
theorem sub_asc {es es' : List Ent} (h1 : (es.map (·.2)).Pairwise Bef) (h2 : (es'.map (·.2)).Pairwise Bef) (hs : ∀ e, e ∈ es ↔ e ∈ es') : es = es' := by
  induction es generalizing es' with
  | nil =>
    cases es' with
    | nil => rfl
    | cons b es' => exact absurd ((hs b).mpr List.mem_cons_self) (by simp)
  | cons a es ih =>
    cases es' with
    | nil => exact absurd ((hs a).mp List.mem_cons_self) (by simp)
    | cons b es' =>
      rw [List.map_cons, List.pairwise_cons] at h1 h2
      have hab : a = b := by
        rcases List.mem_cons.mp ((hs a).mp List.mem_cons_self) with q | q
        · exact q
        · rcases List.mem_cons.mp ((hs b).mpr List.mem_cons_self) with q' | q'
          · exact q'.symm
          · have z1 := (h1.1 b.2 (List.mem_map.mpr ⟨b, q', rfl⟩)).1
            have z2 := (h2.1 a.2 (List.mem_map.mpr ⟨a, q, rfl⟩)).1
            omega
      subst hab
      congr 1
      refine ih h1.2 h2.2 fun e => ⟨fun he => ?_, fun he => ?_⟩
      · rcases List.mem_cons.mp ((hs e).mp (List.mem_cons_of_mem _ he)) with q | q
        · have z1 := (h1.1 e.2 (List.mem_map.mpr ⟨e, he, rfl⟩)).1
          rw [q] at z1
          omega
        · exact q
      · rcases List.mem_cons.mp ((hs e).mpr (List.mem_cons_of_mem _ he)) with q | q
        · have z1 := (h2.1 e.2 (List.mem_map.mpr ⟨e, he, rfl⟩)).1
          rw [q] at z1
          omega
        · exact q
theorem BI.sub {bs : List Bar} {s0 : List Bool} {es es' : List Ent} (I : BI bs s0 es.length es) (I' : BI bs s0 es'.length es') (h7 : s0.length ≤ 7) {e : Ent} (he : e ∈ es) : e ∈ es' := by
  obtain ⟨m1, ⟨m2, m3⟩, m4⟩ := I.led e he
  obtain ⟨f, hf, g1, g2, _⟩ := I'.opt h7 e.2 m3 e.1 m1
  obtain ⟨n1, ⟨n2, n3⟩, n4⟩ := I'.led f hf
  obtain ⟨e', he', k1, k2, _⟩ := I.opt h7 f.2 n3 f.1 n1
  have : e' = e := nd_eq I.nd he' he (by rw [k1, g1])
  subst this
  have : f = e' := Prod.ext g1 (rcode_inj n2 m2 (by omega))
  rw [← this]
  exact hf
theorem BI.same {bs : List Bar} {s0 : List Bool} {es es' : List Ent} (I : BI bs s0 es.length es) (I' : BI bs s0 es'.length es') (h7 : s0.length ≤ 7) : es = es' :=
  sub_asc I.asc.pw I'.asc.pw fun _ => ⟨I.sub I' h7, I'.sub I h7⟩
/-! ### sorted texts -/
theorem sstr_ok (st : List Bool) : PyData.strOk (sstr st) = true := by
  unfold PyData.strOk
  rw [← Array.all_toList, sstr_tl, List.all_eq_true]
  intro c hc
  obtain ⟨b, _, rfl⟩ := List.mem_map.mp hc
  have z : ∀ b : Bool, decide (sg b < 0x110000) = true := by decide
  exact z b
/-! ### (len(a), a) < (len(b), b) -/
end DL

set_option Elab.async false
set_option maxRecDepth 100000

set_option Elab.async false
set_option maxRecDepth 100000

set_option Elab.async false
set_option maxRecDepth 100000
namespace DL
open PySem L2 HT TL
/-! ### walks over a dict of rows -/
theorem kvs_at {ks : List KEnt} {i : Nat} {k : Key} {v : V} (h : (kvsOf ks)[i]? = some (k, v)) : ∃ kk, ks[i]? = some kk ∧ k = .inr (sstr kk.2.1) ∧ v = .ref kk.1 := by
  unfold kvsOf at h
  rw [List.getElem?_map] at h
  cases e : ks[i]? with
  | none => rw [e] at h; cases h
  | some kk =>
    rw [e] at h
    have h : some ((.inr (sstr kk.2.1) : Key), V.ref kk.1) = some (k, v) := h
    injection h with h
    injection h with h1 h2
    exact ⟨kk, rfl, h1.symm, h2.symm⟩
theorem walk_itemsE {d : Addr} {o : Obj} {ks : List KEnt} : Walk (Iti d o (kvsOf ks)) ks.length (fun H => H d = some (.frz o (.dK (kvsOf ks)))) (fun i H x H' => ∃ (T : Addr) (k : KEnt), x = .ref T ∧ H T = none ∧ H' = upd H T (.tup [.str (sstr k.2.1), .ref k.1]) ∧ ks[i]? = some k) := by
  rw [← kvs_len ks]
  refine (walk_items (d := d) (o := o) (kvs := kvsOf ks)).mono (fun H h => h) fun i H x H' _ _ y => ?_
  obtain ⟨T, u, v, ex, hT, eH, h1, h2⟩ := y
  have h1 : (kvsOf ks)[i]?.map (fun kv => kV kv.1) = some u := h1
  have h2 : (kvsOf ks)[i]?.map Prod.snd = some v := h2
  cases e : (kvsOf ks)[i]? with
  | none => rw [e] at h1; cases h1
  | some p =>
    obtain ⟨k', v'⟩ := p
    rw [e] at h1 h2
    obtain ⟨kk, e1, rfl, rfl⟩ := kvs_at e
    cases h1
    cases h2
    exact ⟨T, kk, ex, hT, eH, e1⟩
/-- a dict of rows, locked from its making on -/
structure RowsFrz (H : Hp) (a : Addr) (od : Obj) (ks : List KEnt) : Prop where
  at' : H a = some (.frz od (.dK (kvsOf ks)))
  el : RowsEl H ks
theorem RowsFrz.same {H H' : Hp} {a : Addr} {od : Obj} {ks : List KEnt} (R : RowsFrz H a od ks) (s : Same H H') : RowsFrz H' a od ks := ⟨s _ _ R.at', R.el.same s⟩
theorem RowsFrz.but {r sc : Addr} {H H' : Hp} {a : Addr} {od : Obj} {ks : List KEnt} (R : RowsFrz H a od ks) (hR : RowOk H r sc) (B : But r H H') : RowsFrz H' a od ks := by
  obtain ⟨_, _, _, h, _⟩ := hR.h
  exact ⟨B _ _ (ne_of R.at' h (by intro z; cases z)) R.at', ⟨fun k hk => B.tup h (R.el.el k hk)⟩⟩
theorem rows_lock {H H1 : Hp} {a : Addr} {ks : List KEnt} (od : Obj) (ha : H a = none) (s1 : Same H H1) (hA : H1 a = some (.dK (kvsOf ks))) (hE : RowsEl H1 ks) :
    Same H (upd H1 a (.frz od (.dK (kvsOf ks)))) ∧ RowsFrz (upd H1 a (.frz od (.dK (kvsOf ks)))) a od ks := by
  refine ⟨fun b o eb => ?_, upd_same, ⟨fun k hk => ?_⟩⟩
  · rw [upd_ne (ne_of_none eb ha)]
    exact s1 _ _ eb
  · have := hE.el k hk
    rw [upd_ne (ne_of this hA (by intro z; cases z))]
    exact this
theorem dok_none : dok 1 .none := ⟨by simp [PyData.canLay0], by simp [PyData.depth]⟩
end DL

set_option Elab.async false
set_option maxRecDepth 100000
namespace DL
open PySem L2 HT TL RZ
/-! ### the first row that parts two cabinets -/
def diffD (b1 b2 : List Bar) (st : List Bool) : Option Int := (drs st.length).find? fun d => goesB b1 st d != goesB b2 st d
def apartE (b1 b2 : List Bar) : List Ent → Option (List Int)
  | [] => none
  | e :: es => match diffD b1 b2 e.1 with
    | some d => some (e.2 ++ [d])
    | none => apartE b1 b2 es
def InR (n : Nat) (r : List Int) : Prop := ∀ d ∈ r, 0 ≤ d ∧ d < n
theorem drs_mem {n : Nat} {d : Int} : d ∈ drs n ↔ 0 ≤ d ∧ d < n := by
  unfold drs
  constructor
  · intro h
    obtain ⟨i, hi, rfl⟩ := List.mem_map.mp h
    have := List.mem_range.mp hi
    omega
  · intro h
    exact List.mem_map.mpr ⟨d.toNat, List.mem_range.mpr (by omega), by omega⟩
theorem diff_none {b1 b2 : List Bar} {st : List Bool} (h : diffD b1 b2 st = none) {d : Int} (h0 : 0 ≤ d) (h1 : d < st.length) : goesB b1 st d = goesB b2 st d := by
  unfold diffD at h
  rw [List.find?_eq_none] at h
  have := h d (drs_mem.mpr ⟨h0, h1⟩)
  simpa using this
theorem diff_some {b1 b2 : List Bar} {st : List Bool} {d : Int} (h : diffD b1 b2 st = some d) : (0 ≤ d ∧ d < st.length) ∧ goesB b1 st d ≠ goesB b2 st d ∧ ∀ d', 0 ≤ d' → d' < d → goesB b1 st d' = goesB b2 st d' := by
  unfold diffD at h
  have hm := drs_mem.mp (List.mem_of_find?_eq_some h)
  refine ⟨hm, by simpa using List.find?_some h, fun d' h0 h1 => ?_⟩
  obtain ⟨_, as, bs, e, hno⟩ := List.find?_eq_some_iff_append.mp h
  have hd' : d' ∈ drs st.length := drs_mem.mpr ⟨h0, by omega⟩
  rw [e] at hd'
  rcases List.mem_append.mp hd' with q | q
  · have := hno d' q
    simpa using this
  · exfalso
    have pw := drs_pw st.length
    rw [e, List.pairwise_append] at pw
    rcases List.mem_cons.mp q with rfl | q
    · omega
    · have := (List.pairwise_cons.mp pw.2.1).1 d' q
      omega
theorem apart_none' {b1 b2 : List Bar} : ∀ {es : List Ent}, apartE b1 b2 es = none → ∀ e ∈ es, diffD b1 b2 e.1 = none
  | [], _, e, he => by cases he
  | a :: es, h, e, he => by
    unfold apartE at h
    cases q : diffD b1 b2 a.1 with
    | some d => rw [q] at h; cases h
    | none =>
      rw [q] at h
      rcases List.mem_cons.mp he with rfl | he
      · exact q
      · exact apart_none' h e he
theorem apart_none_of {b1 b2 : List Bar} : ∀ {es : List Ent}, (∀ e ∈ es, diffD b1 b2 e.1 = none) → apartE b1 b2 es = none
  | [], _ => rfl
  | a :: es, h => by
    unfold apartE
    rw [h a List.mem_cons_self]
    exact apart_none_of fun e he => h e (List.mem_cons_of_mem _ he)
theorem apart_skip {b1 b2 : List Bar} : ∀ {es : List Ent} (fs : List Ent), (∀ e ∈ es, diffD b1 b2 e.1 = none) → apartE b1 b2 (es ++ fs) = apartE b1 b2 fs
  | [], fs, _ => rfl
  | a :: es, fs, h => by
    have e1 : apartE b1 b2 (a :: (es ++ fs)) = apartE b1 b2 (es ++ fs) := by
      rw [apartE, h a List.mem_cons_self]
    exact e1.trans (apart_skip fs fun e he => h e (List.mem_cons_of_mem _ he))
theorem apart_some' {b1 b2 : List Bar} : ∀ {es : List Ent} {x : List Int}, apartE b1 b2 es = some x → ∃ (i : Nat) (e : Ent) (d : Int), es[i]? = some e ∧ diffD b1 b2 e.1 = some d ∧ x = e.2 ++ [d] ∧ ∀ (j : Nat) (f : Ent), j < i → es[j]? = some f → diffD b1 b2 f.1 = none
  | [], _, h => by cases h
  | a :: es, x, h => by
    unfold apartE at h
    cases q : diffD b1 b2 a.1 with
    | some d =>
      rw [q] at h
      cases h
      exact ⟨0, a, d, rfl, q, rfl, fun j f hj => by omega⟩
    | none =>
      rw [q] at h
      obtain ⟨i, e, d, h1, h2, h3, h4⟩ := apart_some' h
      refine ⟨i + 1, e, d, h1, h2, h3, fun j f hj hf => ?_⟩
      cases j with
      | zero => cases hf; exact q
      | succ j => exact h4 j f (by omega) hf
theorem asc_len {rs : List (List Int)} {i : Nat} (A : Asc rs i) : ∀ (m : Nat) (x : List Int), rs[m]? = some x → x.length ≤ m := by
  intro m
  induction m using Nat.strongRecOn with
  | _ m ih =>
    intro x hx
    rcases A.par x (List.mem_of_getElem? hx) with rfl | ⟨j, q, d, _, hj, e⟩
    · exact Nat.zero_le _
    · have el : x.length = q.length + 1 := by rw [e, List.length_append]; rfl
      obtain ⟨l1, e1⟩ := List.getElem?_eq_some_iff.mp hx
      obtain ⟨l2, e2⟩ := List.getElem?_eq_some_iff.mp hj
      rcases Nat.lt_trichotomy j m with h | h | h
      · have := ih j h q hj
        omega
      · subst h
        rw [hx] at hj
        cases hj
        omega
      · have := List.pairwise_iff_getElem.mp A.pw m j l1 l2 h
        rw [e1, e2] at this
        have := this.2
        omega
section
variable {b1 b2 : List Bar} {s0 : List Bool} {es : List Ent}
theorem InR.init {n : Nat} {r : List Int} {d : Int} (h : InR n (r ++ [d])) : InR n r ∧ 0 ≤ d ∧ d < n := ⟨fun x hx => h x (List.mem_append_left _ hx), h d (List.mem_append_right _ (List.mem_singleton.mpr rfl))⟩
theorem InR.low {n : Nat} {r : List Int} (h : InR n r) (h7 : n ≤ 7) : Low7 r := fun d hd => by
  have := h d hd
  omega
theorem run_step {r : List Int} {d : Int} (e : runB b1 s0 r = runB b2 s0 r) (h : ∀ st, runB b1 s0 r = some st → goesB b1 st d = goesB b2 st d) : runB b1 s0 (r ++ [d]) = runB b2 s0 (r ++ [d]) := by
  rw [runB_snoc, runB_snoc, ← e]
  cases q : runB b1 s0 r with
  | none => rfl
  | some st => rw [Option.bind_some, Option.bind_some, h st q]
theorem apart_none (I : BI b1 s0 es.length es) (h7 : s0.length ≤ 7) (h : apartE b1 b2 es = none) : ∀ r, InR s0.length r → runB b1 s0 r = runB b2 s0 r := by
  intro r
  refine snoc_ind (p := fun (r : List Int) => InR s0.length r → runB b1 s0 r = runB b2 s0 r) (fun _ => rfl) (fun l d ih hr => ?_) r
  obtain ⟨h1, h2, h3⟩ := hr.init
  refine run_step (ih h1) fun st hst => ?_
  obtain ⟨e, he, e1, _⟩ := I.opt h7 l h1 st hst
  have := apart_none' h e he
  rw [e1] at this
  refine diff_none this h2 ?_
  rw [← e1, (I.led e he).2.2]
  exact h3
theorem low_same (I : BI b1 s0 es.length es) (h7 : s0.length ≤ 7) {i : Nat} {e : Ent} (hi : es[i]? = some e) (hno : ∀ (j : Nat) (f : Ent), j < i → es[j]? = some f → diffD b1 b2 f.1 = none) :
    (∀ l st d, InR s0.length (l ++ [d]) → runB b1 s0 l = some st → rcode l < rcode e.2 → goesB b1 st d = goesB b2 st d) ∧ ∀ r, InR s0.length r → rcode r ≤ rcode e.2 → runB b1 s0 r = runB b2 s0 r := by
  have first : ∀ l st d, InR s0.length (l ++ [d]) → runB b1 s0 l = some st → rcode l < rcode e.2 → goesB b1 st d = goesB b2 st d := by
    intro l st d hr hst hlt
    obtain ⟨h1, h2, h3⟩ := hr.init
    obtain ⟨f, hf, f1, f2, _⟩ := I.opt h7 l h1 st hst
    obtain ⟨j, hj⟩ := List.getElem?_of_mem hf
    have hji : j < i := by
      rcases Nat.lt_or_ge j i with q | q
      · exact q
      · exfalso
        have l1 := (List.getElem?_eq_some_iff.mp hi)
        have l2 := (List.getElem?_eq_some_iff.mp hj)
        obtain ⟨l1, q1⟩ := l1
        obtain ⟨l2, q2⟩ := l2
        rcases Nat.lt_or_eq_of_le q with q | q
        · have := List.pairwise_iff_getElem.mp I.asc.pw i j (by rw [List.length_map]; exact l1) (by rw [List.length_map]; exact l2) q
          rw [List.getElem_map, List.getElem_map, q1, q2] at this
          have := this.1
          omega
        · subst q
          rw [hi] at hj
          cases hj
          omega
    have := hno j f hji hj
    rw [f1] at this
    refine diff_none this h2 ?_
    rw [← f1, (I.led f hf).2.2]
    exact h3
  refine ⟨first, fun r => ?_⟩
  refine snoc_ind (p := fun (r : List Int) => InR s0.length r → rcode r ≤ rcode e.2 → runB b1 s0 r = runB b2 s0 r) (fun _ _ => rfl) (fun l d ih hr hle => ?_) r
  obtain ⟨h1, h2, h3⟩ := hr.init
  have nn := rcode_nn (h1.low h7)
  rw [rcode_snoc] at hle
  exact run_step (ih h1 (by omega)) fun st hst => first l st d hr hst (by omega)
def DiffR (b1 b2 : List Bar) (s0 : List Bool) (x : List Int) : Prop := (runB b1 s0 x).isSome ≠ (runB b2 s0 x).isSome
theorem apart_min (I : BI b1 s0 es.length es) (h7 : s0.length ≤ 7) {x : List Int} (h : apartE b1 b2 es = some x) : InR s0.length x ∧ DiffR b1 b2 s0 x ∧ ∀ y, InR s0.length y → DiffR b1 b2 s0 y → rcode x ≤ rcode y := by
  obtain ⟨i, e, d, hi, hd, rfl, hno⟩ := apart_some' h
  obtain ⟨⟨d0, d1⟩, dne, dlt⟩ := diff_some hd
  have he := List.mem_of_getElem? hi
  obtain ⟨m1, ⟨m2, m3⟩, m4⟩ := I.led e he
  obtain ⟨fst, same⟩ := low_same (b2 := b2) I h7 hi hno
  have e2 := same e.2 m3 (Int.le_refl _)
  refine ⟨fun z hz => ?_, ?_, fun y hy hD => ?_⟩
  · rcases List.mem_append.mp hz with hz | hz
    · exact m3 z hz
    · rw [List.mem_singleton.mp hz]
      omega
  · unfold DiffR
    rw [runB_snoc, runB_snoc, ← e2, m1, Option.bind_some, Option.bind_some]
    cases q1 : goesB b1 e.1 d <;> cases q2 : goesB b2 e.1 d <;> simp_all
  · rcases (by omega : rcode y < rcode (e.2 ++ [d]) ∨ rcode (e.2 ++ [d]) ≤ rcode y) with q | q
    · exfalso
      revert q hD hy
      refine snoc_ind (p := fun y => InR s0.length y → DiffR b1 b2 s0 y → rcode y < rcode (e.2 ++ [d]) → False) (fun _ hD _ => hD rfl) (fun l d' _ hy hD q => ?_) y
      obtain ⟨h1, h2, h3⟩ := hy.init
      rw [rcode_snoc, rcode_snoc] at q
      refine hD (congrArg Option.isSome (run_step (same l h1 (by omega)) fun st hst => ?_))
      by_cases z : rcode l = rcode e.2
      · have : l = e.2 := rcode_inj (h1.low h7) m2 z
        subst this
        rw [m1] at hst
        cases hst
        exact dlt d' h2 (by omega)
      · exact fst l st d' hy hst (by omega)
    · exact q
theorem DiffR.symm' {x : List Int} (h : DiffR b1 b2 s0 x) : DiffR b2 b1 s0 x := Ne.symm h
theorem apart_sym {es2 : List Ent} (I1 : BI b1 s0 es.length es) (I2 : BI b2 s0 es2.length es2) (h7 : s0.length ≤ 7) : apartE b1 b2 es = apartE b2 b1 es2 := by
  cases q1 : apartE b1 b2 es with
  | none =>
    cases q2 : apartE b2 b1 es2 with
    | none => rfl
    | some x =>
      obtain ⟨h1, h2, _⟩ := apart_min I2 h7 q2
      exact absurd (congrArg Option.isSome (apart_none I1 h7 q1 x h1)).symm h2
  | some x =>
    obtain ⟨h1, h2, h3⟩ := apart_min I1 h7 q1
    cases q2 : apartE b2 b1 es2 with
    | none => exact absurd (congrArg Option.isSome (apart_none I2 h7 q2 x h1)).symm h2
    | some y =>
      obtain ⟨g1, g2, g3⟩ := apart_min I2 h7 q2
      have := h3 y g1 g2.symm'
      have := g3 x h1 h2.symm'
      rw [rcode_inj (h1.low h7) (g1.low h7) (by omega)]
theorem apart_self : apartE b1 b1 es = none := apart_none_of fun e _ => by
  unfold diffD
  rw [List.find?_eq_none]
  intro d _
  simp
end
end DL

set_option Elab.async false
set_option maxRecDepth 100000
namespace DL
open PySem L2 HT TL RZ
/-- what a first row that parts two cabinets is, as a value -/
def RowV (H : Hp) (o : Option (List Int)) (v : V) : Prop := match o with
  | none => v = .non
  | some x => ∃ p, v = .ref p ∧ H p = some (.tup (x.map V.int))
structure spApart (C : Addr) (vs : List V) (H : Hp) (Q : VK) (_ : XK) : Prop where
  h : ∃ (c1 c2 : Addr) (b1 b2 : List Bar) (n : Nat), vs = [.ref c1, .ref c2] ∧ CabOk C H c1 n b1 ∧ CabOk C H c2 n b2 ∧
    ∀ (es : List Ent) (v : V) (H' : Hp), Same H H' → BI b1 (shutS n) es.length es → RowV H' (apartE b1 b2 es) v → Q v H'
structure spAlike (C : Addr) (vs : List V) (H : Hp) (Q : VK) (_ : XK) : Prop where
  h : ∃ (c1 c2 : Addr) (b1 b2 : List Bar) (n : Nat), vs = [.ref c1, .ref c2] ∧ CabOk C H c1 n b1 ∧ CabOk C H c2 n b2 ∧
    ∀ (es : List Ent) (H' : Hp), Same H H' → BI b1 (shutS n) es.length es → Q (.bl (apartE b1 b2 es).isNone) H'
theorem diff_find {b1 b2 : List Bar} {st : List Bool} {i : Nat} (h : ∀ j : Nat, j < i → goesB b1 st j = goesB b2 st j) (hi : i < st.length) (hne : goesB b1 st i ≠ goesB b2 st i) : diffD b1 b2 st = some (i : Int) := by
  cases q : diffD b1 b2 st with
  | none => exact absurd (diff_none q (by omega) (by omega)) hne
  | some d =>
    obtain ⟨⟨d0, d1⟩, dne, dlt⟩ := diff_some q
    have : ¬ d < (i : Int) := fun z => dne (by
      have := h d.toNat (by omega)
      rw [show ((d.toNat : Nat) : Int) = d by omega] at this
      exact this)
    have : ¬ (i : Int) < d := fun z => hne (dlt i (by omega) z)
    rw [show d = (i : Int) by omega]
theorem bl_ne (a b : Bool) : (!decide (V.bl a = V.bl b)) = (a != b) := by revert a b; decide
section
variable {P : Program} {w : World} {K : PySem.W.Frag} {mg : Str → Option Value} {base : Heap}
abbrev nFAp : List Str := ["one", "other", "standing", "row", "drawer"]
theorem scFAp : FnScope nFAp ["one", "other"] (defScope s_first_apart) := ⟨rfl, rfl, rfl, by decide +kernel, rfl, by decide +kernel, by decide +kernel⟩
theorem ok_apart {f f1 f2 f3 C : Addr} {fd fd1 fd2 fd3 : FuncData} (F : Fun K "first_apart" "first_apart" s_first_apart f fd) (T : Bt mg) (CP : CabP P w K mg base C)
    (G1 : FnOk P w K mg base CX0 1 f1 fd1 ["cabinet"] (spCkCab C)) (g1 : mg "check_cabinet" = some (.ref f1)) (k1 : PySem.W.keepIn K (.ref f1) = true) (b1 : Binds K fd1 ["cabinet"] [])
    (G2 : FnOk P w K mg base CX0 12 f2 fd2 ["cabinet"] (spFirstRows C)) (g2 : mg "first_rows" = some (.ref f2)) (k2 : PySem.W.keepIn K (.ref f2) = true) (b2 : Binds K fd2 ["cabinet"] [])
    (G3 : FnOk P w K mg base CX0 6 f3 fd3 ["cabinet", "standing", "drawer"] (spGoes C)) (g3 : mg "goes" = some (.ref f3)) (k3 : PySem.W.keepIn K (.ref f3) = true) (b3 : Binds K fd3 ["cabinet", "standing", "drawer"] []) :
    FnOk P w K mg base CX0 14 f fd ["one", "other"] (spApart C) := by
  refine F.ok scFAp (fun vs H Q E h => ?_) (fun cdv A outer s H vs Q E hr h => ?_)
  · obtain ⟨c1, c2, _, _, n, rfl, _⟩ := h.h
    rfl
  · obtain ⟨c1, c2, bs1, bs2, n, rfl, B1, B2, k⟩ := h.h
    obtain ⟨t1, hc1, n7⟩ := B1.cab
    obtain ⟨t2, hc2, _⟩ := B2.cab
    obtain ⟨pD, gD, fdD, hpD, GD, bD⟩ := CP.d
    refine ⟨_, pss_cons (ps_expr (pe_call G1 (hr.mono (by decide)) rfl g1 k1 b1 .nil pass0 (pa_cons (pv 0) pa_nil))) (pss_cons (ps_expr (pe_call G1 (hr.mono (by decide)) rfl g1 k1 b1 .nil pass0 (pa_cons (pv 1) pa_nil)))
      (pss_cons (ps_if (pt_cmpR op_ne (pe_prop (pv 0) CP.cl hpD GD (hr.mono (by decide)) bD .nil pass0 rfl) (pe_prop (pv 1) CP.cl hpD GD (hr.mono (by decide)) bD .nil pass0 rfl) (nomark _)) (pss_one ps_never) pss_nil)
      (pss_cons (ps_for PassesOwn.never rfl (pi_items (pe_frz (pe_call G2 (hr.mono (by decide)) rfl g2 k2 b2 .nil pass0 (pa_cons (pv 0) pa_nil)))) (pg_tup (by rfl) (pgs_cons (pg_name (i := 2) scFAp.nd rfl (Or.inl rfl)) (pgs_cons (pg_name (i := 3) scFAp.nd rfl (Or.inl rfl)) pgs_nil)))
        (pss_one (ps_for PassesOwn.never rfl (pi_range1 (by rfl) T.range (pa_cons (pe_prop (pv 0) CP.cl hpD GD (hr.mono (by decide)) bD .nil pass0 rfl) pa_nil)) (pg_name (i := 4) scFAp.nd rfl (Or.inl rfl))
          (pss_one (ps_if (pt_cmpR op_ne (pe_call G3 (hr.mono (by decide)) rfl g3 k3 b3 .nil pass0 (pa_cons (pv 0) (pa_cons (pv 2) (pa_cons (pv 4) pa_nil)))) (pe_call G3 (hr.mono (by decide)) rfl g3 k3 b3 .nil pass0 (pa_cons (pv 1) (pa_cons (pv 2) (pa_cons (pv 4) pa_nil)))) (nomark _))
            (pss_one (ps_ret (pe_tup (StX.pa_star (pv 3) (pa_cons (pv 4) pa_nil))))) pss_nil)))))
      (pss_one (ps_ret pe_non))))), ?_⟩
    refine ⟨_, rfl, ⟨⟨c1, _, t1, rfl, hc1, ?_⟩⟩⟩
    refine ⟨_, rfl, ⟨⟨c2, _, t2, rfl, hc2, ?_⟩⟩⟩
    obtain ⟨dx1, hc10⟩ := hc1
    obtain ⟨dx2, hc20⟩ := hc2
    refine ⟨_, rfl, c1, dx1, _, rfl, hc10, ⟨⟨c1, dx1, _, t1, rfl, hc10, _, rfl, c2, dx2, _, rfl, hc20, ⟨⟨c2, dx2, _, t2, rfl, hc20, rfl, _, rfl, ?_⟩⟩⟩⟩⟩
    rw [decide_eq_true rfl]
    refine iteF ?_
    refine ⟨_, rfl, ⟨⟨c1, bs1, n, rfl, B1, fun a ks H1 ha s1 hA hE I => ?_⟩⟩⟩
    have hshut : (shutS n).length = n := List.length_replicate
    have hfew : ks.length ≤ 128 := by
      have := led_few I.nd I.led (by rw [hshut]; omega)
      rw [List.length_map] at this
      exact this
    refine ⟨a, _, rfl, hA, trivial, fun od => ?_⟩
    obtain ⟨s2, R2⟩ := rows_lock od ha s1 hA hE
    generalize (upd H1 a (.frz od (.dK (kvsOf ks)))) = H2 at s2 R2 ⊢
    have I' : BI bs1 (shutS n) (ks.map (·.2)).length (ks.map (·.2)) := by rw [List.length_map]; exact I
    refine ⟨a, od, _, rfl, R2.at', ?_⟩
    refine for_it walk_itemsE (fun i σ H' => ∃ u2 u3 u4 : Option V, σ = [some (.ref c1), some (.ref c2), u2, u3, u4] ∧ Same H2 H' ∧ ∀ k ∈ ks.take i, diffD bs1 bs2 k.2.1 = none) ⟨_, _, _, rfl, Same.refl _, fun k hk => by cases hk⟩ (fun i σ H' _ ⟨_, _, _, _, s3, _⟩ => s3 _ _ R2.at') ?_ ?_
    · rintro i x σ H3 H4 hi ⟨u2, u3, u4, rfl, s3, hno⟩ ⟨T', kk, rfl, hT, rfl, ek⟩
      have hm : kk ∈ ks := List.mem_of_getElem? ek
      have hkl : kk.2.1.length = n := by rw [(I.led kk.2 (List.mem_map.mpr ⟨kk, hm, rfl⟩)).2.2, hshut]
      obtain ⟨s4', f4⟩ := new_at (o := .tup [.str (sstr kk.2.1), .ref kk.1]) hT
      generalize upd H3 T' (.tup [.str (sstr kk.2.1), .ref kk.1]) = H5 at s4' f4 ⊢
      have s4 := s3.trans s4'
      refine ⟨T', _, rfl, SqT.of' f4, rfl, _, _, rfl, _, _, rfl, rfl, ?_⟩
      have hc15 := s4 _ _ (s2 _ _ hc10)
      refine ⟨_, rfl, c1, dx1, _, rfl, hc15, ⟨⟨c1, dx1, _, t1, rfl, hc15, _, rfl, by omega, by omega, ?_⟩⟩⟩
      rw [Int.toNat_natCast]
      refine for_range (lo := 0) (n := n) (fun j σ H' => ∃ u4 : Option V, σ = [some (.ref c1), some (.ref c2), some (.str (sstr kk.2.1)), some (.ref kk.1), u4] ∧ Same H2 H' ∧ ∀ j' : Nat, j' < j → goesB bs1 kk.2.1 j' = goesB bs2 kk.2.1 j') ⟨_, rfl, s4, fun j' hj' => by omega⟩ ?_ ?_
      · rintro j σ H6 hj ⟨w4, rfl, s6, hsame⟩
        have ej : (0 : Int) + (j : Nat) = (j : Int) := by omega
        have s06 := s2.trans s6
        refine ⟨_, rfl, _, rfl, _, rfl, ⟨⟨c1, bs1, kk.2.1, (0 : Int) + (j : Nat), rfl, by rw [hkl]; exact B1.same s06, by omega, by omega, fun H7 s7 => ?_⟩⟩⟩
        refine ⟨_, rfl, _, rfl, _, rfl, ⟨⟨c2, bs2, kk.2.1, (0 : Int) + (j : Nat), rfl, by rw [hkl]; exact B2.same (s06.trans s7), by omega, by omega, fun H8 s8 => ?_⟩⟩⟩
        refine ⟨rfl, _, rfl, ?_⟩
        rw [bl_ne, ej]
        have s28 := (s6.trans s7).trans s8
        cases e : (goesB bs1 kk.2.1 j != goesB bs2 kk.2.1 j) with
        | false =>
          refine iteF ⟨_, rfl, s28, fun j' hj' => ?_⟩
          rcases Nat.lt_or_ge j' j with z | z
          · exact hsame j' z
          · obtain rfl : j' = j := by omega
            simpa using e
        | true =>
          refine iteT ?_
          have R8 := R2.same s28
          refine ⟨_, rfl, kk.1, _, rfl, .inl (SqT.of' (R8.el.el kk hm)), _, rfl, ?_, fun tn htn => ?_⟩
          · have hl := asc_len I'.asc i kk.2.2 (by rw [List.getElem?_map, List.getElem?_map, ek]; rfl)
            have hik := (List.getElem?_eq_some_iff.mp ek).1
            show (kk.2.2.map V.int ++ [V.int (j : Nat)]).length ≤ sizeLine
            rw [List.length_append, List.length_map]
            exact Nat.le_of_lt (small1000 (by show kk.2.2.length + 1 ≤ 1000; omega))
          · have hsplit : ks = ks.take i ++ kk :: ks.drop (i + 1) := by
              obtain ⟨hil, e'⟩ := List.getElem?_eq_some_iff.mp ek
              rw [← e', ← List.drop_eq_getElem_cons hil, List.take_append_drop]
            have hd : diffD bs1 bs2 kk.2.1 = some (j : Int) := diff_find hsame (by omega) (by simpa using e)
            have hap : apartE bs1 bs2 (ks.map (·.2)) = some (kk.2.2 ++ [(j : Int)]) := by
              rw [hsplit, List.map_append, apart_skip _ fun e he => by
                obtain ⟨k', hk', rfl⟩ := List.mem_map.mp he
                exact hno k' hk']
              rw [List.map_cons, apartE, hd]
            refine k (ks.map (·.2)) _ _ ((s2.trans s28).trans (same_upd htn)) I' ?_
            rw [hap]
            refine ⟨tn, rfl, ?_⟩
            rw [upd_same, List.map_append]
            rfl
      · rintro σ H6 ⟨w4, rfl, s6, hsame⟩
        refine ⟨_, _, _, rfl, s6, fun k' hk' => ?_⟩
        rcases mem_take_succ ek hk' with hk' | rfl
        · exact hno k' hk'
        · cases q : diffD bs1 bs2 k'.2.1 with
          | none => rfl
          | some d =>
            obtain ⟨⟨d0, d1⟩, dne, _⟩ := diff_some q
            refine absurd ?_ dne
            have := hsame d.toNat (by omega)
            rw [show ((d.toNat : Nat) : Int) = d by omega] at this
            exact this
    · rintro σ H3 ⟨u2, u3, u4, rfl, s3, hno⟩
      rw [List.take_length] at hno
      refine k (ks.map (·.2)) .non H3 (s2.trans s3) I' ?_
      rw [apart_none_of fun e he => by
        obtain ⟨k', hk', rfl⟩ := List.mem_map.mp he
        exact hno k' hk']
      rfl
theorem scAl : FnScope ["one", "other"] ["one", "other"] (defScope s_alike) := ⟨rfl, rfl, rfl, by decide +kernel, rfl, by decide +kernel, by decide +kernel⟩
theorem ok_alike {f f1 C : Addr} {fd fd1 : FuncData} (F : Fun K "alike" "alike" s_alike f fd)
    (G1 : FnOk P w K mg base CX0 14 f1 fd1 ["one", "other"] (spApart C)) (g1 : mg "first_apart" = some (.ref f1)) (k1 : PySem.W.keepIn K (.ref f1) = true) (b1 : Binds K fd1 ["one", "other"] []) :
    FnOk P w K mg base CX0 16 f fd ["one", "other"] (spAlike C) := by
  refine F.ok scAl (fun vs H Q E h => ?_) (fun cdv A outer s H vs Q E hr h => ?_)
  · obtain ⟨c1, c2, _, _, n, rfl, _⟩ := h.h
    rfl
  · obtain ⟨c1, c2, bs1, bs2, n, rfl, B1, B2, k⟩ := h.h
    refine ⟨_, pss_one (ps_ret (pe_cmp (pc_isN (pe_call G1 (hr.mono (by decide)) rfl g1 k1 b1 .nil pass0 (pa_cons (pv 0) (pa_cons (pv 1) pa_nil)))))), ?_⟩
    refine ⟨_, rfl, _, rfl, ⟨⟨c1, c2, bs1, bs2, n, rfl, B1, B2, fun es v H' s1 I hv => ?_⟩⟩⟩
    have := k es H' s1 I
    cases q : apartE bs1 bs2 es with
    | none =>
      rw [q] at hv this
      obtain rfl : v = .non := hv
      exact this
    | some x =>
      rw [q] at hv this
      obtain ⟨p, rfl, _⟩ := hv
      exact this
end
end DL

set_option Elab.async false
set_option maxRecDepth 100000
set_option maxHeartbeats 1000000

set_option Elab.async false
set_option maxRecDepth 100000
set_option maxHeartbeats 1000000

set_option Elab.async false
set_option maxRecDepth 100000
set_option maxHeartbeats 1000000
namespace DL
open PySem L2
/-! ### the checks with what they raise -/
/-- an own error without its own making -/
structure ErrT (K : PySem.W.Frag) (mg : Str → Option Value) (x : Str) (CB : Addr) : Prop where
  g : mg x = some (.ref CB)
  x : PySem.W.excIn K CB [.type "ValueError", .type "Exception", .type "BaseException", .type "object"] "ValueError.__new__" = true
  k : PySem.W.keepIn K (.ref CB) = true
  b : PySem.W.subIn K (.ref CB) (.type "BaseException") = some true
  t : PySem.W.typeIn K (.ref CB) = some (.type "type")
/-- what is_bar says False of -/
def NoBar (K : PySem.W.Frag) (H : Hp) (n : Int) (v : V) : Prop := (∃ t : Value, TyX K H v t ∧ PySem.W.kitOne K t (.type "tuple") = some false) ∨
  (∃ (a : Addr) (xs : List V), v = .ref a ∧ SqT K H a xs ∧ xs.length ≠ 4) ∨
  ∃ (a : Addr) (x0 x1 x2 x3 : V), v = .ref a ∧ SqT K H a [x0, x1, x2, x3] ∧ scV x0 = true ∧ scV x1 = true ∧ scV x2 = true ∧ scV x3 = true ∧ barB n x0 x1 x2 x3 = false
theorem NoBar.sp {K : PySem.W.Frag} {H : Hp} {n : Int} {v : V} {Q : VK} {E : XK} (h : NoBar K H n v) (k : Q (.bl false) H) : spIsBar K [.int n, v] H Q E := by
  rcases h with ⟨t, h1, h2⟩ | ⟨a, xs, rfl, h1, h2⟩ | ⟨a, x0, x1, x2, x3, rfl, h1, c0, c1, c2, c3, h2⟩
  · exact ⟨⟨n, .inl ⟨v, t, rfl, h1, h2, k⟩⟩⟩
  · exact ⟨⟨n, .inr (.inl ⟨a, xs, rfl, h1, h2, k⟩)⟩⟩
  · exact ⟨⟨n, .inr (.inr ⟨a, x0, x1, x2, x3, rfl, h1, c0, c1, c2, c3, by rw [h2]; exact k⟩)⟩⟩
end DL

set_option Elab.async false
set_option maxRecDepth 100000
namespace DL
open PySem L2 HT TL RZ
/-! ### sets of drawers -/
/-- a set: its drawers stand at a -/
structure SetAt (K : PySem.W.Frag) (H : Hp) (n : Int) (a : Addr) (ns : List Int) : Prop where
  at' : SqT K H a (ns.map V.int)
  low : ∀ d ∈ ns, 0 ≤ d ∧ d < n
  asc : ns.Pairwise (· < ·)
theorem SetAt.same {K : PySem.W.Frag} {H H' : Hp} {n : Int} {a : Addr} {ns : List Int} (S : SetAt K H n a ns) (s : Same H H') : SetAt K H' n a ns := ⟨SqT.same s S.at', S.low, S.asc⟩
end DL

set_option Elab.async false
set_option maxRecDepth 100000
namespace DL
open PySem L2 HT TL RZ
/-! ### patterns of sets -/
theorem SqA.same {K : PySem.W.Frag} {H H' : Hp} {a : Addr} {xs : List V} (s : Same H H') (h : SqA K H a xs) : SqA K H' a xs := by
  rcases h with h | h
  · exact .inl (s.seq h)
  · exact .inr (SqT.same s h)
end DL

set_option Elab.async false
set_option maxRecDepth 100000
namespace DL
open PySem L2 HT TL RZ
structure PairsAt (H : Hp) (qs : List (Addr × Int × Int)) : Prop where
  el : ∀ q ∈ qs, H q.1 = some (.tup [.int q.2.1, .int q.2.2])
theorem PairsAt.same {H H' : Hp} {qs : List (Addr × Int × Int)} (A : PairsAt H qs) (s : Same H H') : PairsAt H' qs := ⟨fun q hq => s _ _ (A.el q hq)⟩
def never (es : List Ent) (p : Int × Int) : Bool := !(es.any fun e => sat e.1 p.1 && sat e.1 p.2)
end DL

set_option Elab.async false
set_option maxRecDepth 100000
set_option maxHeartbeats 1000000

set_option Elab.async false
set_option maxRecDepth 100000
namespace DL
open PySem L2
/-! ### what the top tells of own errors -/
/-- which clause takes an error of the class at S: the clause names the class at T -/
theorem exm_of {K : PySem.W.Frag} {S T : Addr} {r : Bool} (h1 : PySem.W.subIn K (.ref T) (.type "BaseException") = some true) (h2 : PySem.W.isClsIn K T = true) (h3 : PySem.W.typeIn K (.ref T) = some (.type "type")) (h4 : PySem.W.subIn K (.ref S) (.ref T) = some r) :
    PySem.W.exmOne K (.ref S) (.ref T) = some r := by
  have e1 : (PySem.W.subIn K (.ref T) (.type "BaseException") == some true) = true := by rw [h1] <;> rfl
  have e2 : ((PySem.W.clsIn K T).isSome && PySem.W.typeIn K (.ref T) == some (.type "type")) = true := by
    have h2' : (PySem.W.clsIn K T).isSome = true := h2
    rw [h2', h3] <;> rfl
  show (if (PySem.W.subIn K (.ref T) (.type "BaseException") == some true) = true then (if ((PySem.W.clsIn K T).isSome && PySem.W.typeIn K (.ref T) == some (.type "type")) = true then PySem.W.subIn K (.ref S) (.ref T) else none) else none) = some r
  rw [if_pos e1, if_pos e2]
  exact h4
end DL

set_option Elab.async false
set_option maxRecDepth 100000
set_option maxHeartbeats 1000000

set_option Elab.async false
set_option maxRecDepth 100000
set_option maxHeartbeats 1000000
namespace DL
open PySem L2 HT TL
/-! ### forms of single values: standings, tries, whatever they are -/
def sgnB (n : Int) (z : Str) : V → Bool
  | .str y => decide ((y.length : Int) = n) && y.cps.toList.all fun c => decide (c ∈ z.cps.toList)
  | _ => false
def strB : V → Bool
  | .str _ => true
  | _ => false
end DL

set_option Elab.async false
set_option maxRecDepth 100000
namespace DL
open PySem PySem.Spec PyProof.Rows L2
/-! ### f(e, ..), f an expression that gives one of some defs -/
structure FnE (X : Cx) (CX : CXT) (k : Nat) (f : Addr) (sp : Sp) : Prop where
  ex : ∃ (fd : FuncData) (ps : List Str), FnOk X.prog X.w X.K X.mg X.base CX k f fd ps sp ∧ PySem.W.keepIn X.K (.ref f) = true ∧ Binds X.K fd ps []
def tCallE (S : List (Addr × Sp)) (E : L2.St → XK) (tf : TE) (t : TA) : TE := fun σ H Q => tf σ H fun y H1 => ∃ (f : Addr) (sp : Sp), (f, sp) ∈ S ∧ y = .ref f ∧ t σ H1 fun vs H2 => sp vs H2 Q (E σ)
section
variable {X : Cx} {CX : CXT} {k : Nat} {S : List (Addr × Sp)} {E : L2.St → XK} {pos : Pos} {fe e : Expr} {es : List Expr} {tf : TE} {t : TA}
theorem pe_callE (hf : PE X fe tf) (HS : ∀ q ∈ S, FnE X CX k q.1 q.2) (room : Room k X.A) (pas : ∀ σ, PassesAt CX X σ (E σ)) (ar : PA X (e :: es) t)
    (tr : eval (.Call fe (e :: es) [] pos) X.env = (do callWith pos (← eval fe X.env) [] (backTo pos (starEach (e :: es) X.env)) (backToKw pos (keywordEach [] X.env))) := by rfl)
    (sta : starEach (e :: es) X.env = (false, eval e X.env) :: starEach es X.env := by rfl) (pla : (backTo pos (starEach es X.env)).any (·.1) = false := by rfl) : PE X (.Call fe (e :: es) [] pos) (tCallE S E tf t) := by
  refine ⟨fun pins s0 σ H Q I0 rd => ?_⟩
  refine Call_ (thn (hf.run pins s0 σ H _ I0 rd) fun u s1 ⟨y, H1, I1, ry, f, sp, hm, ey, q⟩ => ?_) tr
  subst ey
  obtain rfl : u = Value.ref f := ry
  obtain ⟨fd, ps, F, hk, hb⟩ := (HS _ hm).ex
  refine PySem.W.callWith_K (h₀ := X.base) I1.ok.mod.kin hk (thn (ar.run pos pins s1 σ H1 _ I1 q) fun us s2 ⟨vs, H2, I2, r, q2⟩ => ⟨I2.kIn, ?_⟩) sta pla
  exact run_fnS F room hb (pas σ) I2 r q2
end
end DL

set_option Elab.async false
set_option maxRecDepth 100000
set_option maxHeartbeats 1000000

set_option Elab.async false
set_option maxRecDepth 100000
set_option maxHeartbeats 1000000

set_option Elab.async false
set_option maxRecDepth 100000
set_option maxHeartbeats 1000000
namespace DL
open PySem L2 HT TL
/-! ### standings, patterns, drawers, lengths that are refused, whatever they are -/
def NoStr (K : PySem.W.Frag) (H : Hp) (v : V) : Prop := ∃ t, (∀ H', Same H H' → TyX K H' v t) ∧ PySem.W.kitOne K t (.type "str") = some false
def BadSgn (K : PySem.W.Frag) (z : Str) (H : Hp) (n : Int) (v : V) : Prop := NoStr K H v ∨ ∃ y, v = .str y ∧ y.length ≤ 1000 ∧ sgnB n z (.str y) = false
theorem BadSgn.same {K : PySem.W.Frag} {z : Str} {H H' : Hp} {n : Int} {v : V} (h : BadSgn K z H n v) (s : Same H H') : BadSgn K z H' n v := by
  rcases h with ⟨t, h1, h2⟩ | h
  · exact .inl ⟨t, fun H2 s2 => h1 H2 (s.trans s2), h2⟩
  · exact .inr h
end DL

set_option Elab.async false
set_option maxRecDepth 100000
set_option maxHeartbeats 1000000

set_option Elab.async false
set_option maxRecDepth 100000
set_option maxHeartbeats 1000000

set_option Elab.async false
set_option maxRecDepth 100000
set_option maxHeartbeats 1000000
namespace DL
open PySem L2 HT TL RZ
/-! ### a dict with standings as keys -/
def tabV (rs : List (List Bool)) (f : List Bool → V) : List (Key × V) := rs.map fun st => (.inr (sstr st), f st)
theorem tab_len (rs : List (List Bool)) (f : List Bool → V) : (tabV rs f).length = rs.length := List.length_map ..
theorem key_ne {a b : List Bool} (h : a ≠ b) : ¬ ((.inr (sstr a) : Key) = .inr (sstr b)) := fun z => h (sstr_inj (by injection z))
theorem tab_val (rs : List (List Bool)) (f : List Bool → V) (st : List Bool) : valV (tabV rs f) (.inr (sstr st)) = if st ∈ rs then some (f st) else none := by
  induction rs with
  | nil => rfl
  | cons a rs ih =>
    by_cases e : a = st
    · subst e
      rw [if_pos List.mem_cons_self]
      exact valV_pos rfl
    · have e2 : valV (tabV (a :: rs) f) (.inr (sstr st)) = valV (tabV rs f) (.inr (sstr st)) := valV_neg (key_ne e)
      rw [e2, ih]
      have : (st ∈ a :: rs) ↔ st ∈ rs := ⟨fun h => (List.mem_cons.mp h).resolve_left fun z => e z.symm, List.mem_cons_of_mem _⟩
      simp only [this]
theorem tab_snoc {rs : List (List Bool)} {f : List Bool → V} {st : List Bool} {v : V} (h : st ∉ rs) : putK (tabV rs f) (.inr (sstr st)) v = tabV (rs ++ [st]) fun z => if z = st then v else f z := by
  rw [putK_new v (by rw [tab_val, if_neg h])]
  unfold tabV
  rw [List.map_append]
  refine congr (congrArg _ (List.map_congr_left fun z hz => ?_)) ?_
  · have e : z ≠ st := fun e => h (e ▸ hz)
    show _ = ((.inr (sstr z) : Key), if z = st then v else f z)
    rw [if_neg e]
  · show _ = [((.inr (sstr st) : Key), if st = st then v else f st)]
    rw [if_pos rfl]
/-! ### levels of standings, and how often one stands in a level -/
end DL

set_option Elab.async false
set_option maxRecDepth 100000
namespace DL
open PySem L2 HT TL RZ
/-! ### a queue that is not at its end can be brought to it -/
theorem bd_full {bs : List Bar} {s0 : List Bool} {i : Nat} {p : Ent} (h7 : s0.length ≤ 7) : ∀ (m t : Nat) (D : Int) (es : List Ent), BD bs s0 i p t D es → t ≤ (freeL bs p.1).length → (freeL bs p.1).length - t ≤ m →
    ∃ fs D', BD bs s0 i p (freeL bs p.1).length D' (es ++ fs)
  | 0, t, D, es, B, h1, h2 => by
    obtain rfl : t = (freeL bs p.1).length := by omega
    exact ⟨[], D, by rw [List.append_nil]; exact B⟩
  | m + 1, t, D, es, B, h1, h2 => by
    rcases Nat.lt_or_ge t (freeL bs p.1).length with h | h
    · have hd : (freeL bs p.1)[t]? = some ((freeL bs p.1)[t]) := List.getElem?_eq_getElem h
      by_cases q : flip p.1 (freeL bs p.1)[t] ∈ es.map (·.1)
      · exact bd_full h7 m (t + 1) _ es (B.old hd h7 q) (by omega) (by omega)
      · obtain ⟨fs, D', B'⟩ := bd_full h7 m (t + 1) _ _ (B.new hd h7 q) (by omega) (by omega)
        exact ⟨_ :: fs, D', by rw [List.append_assoc] at B'; exact B'⟩
    · obtain rfl : t = (freeL bs p.1).length := by omega
      exact ⟨[], D, by rw [List.append_nil]; exact B⟩
theorem bi_full {bs : List Bar} {s0 : List Bool} (h7 : s0.length ≤ 7) : ∀ (m i : Nat) (es : List Ent), BI bs s0 i es → i ≤ es.length → 128 - i ≤ m → ∃ fs, BI bs s0 (es ++ fs).length (es ++ fs)
  | m, i, es, B, h1, h2 => by
    rcases Nat.lt_or_ge i es.length with h | h
    · have hf := led_few B.nd B.led h7
      have hd : es[i]? = some es[i] := List.getElem?_eq_getElem h
      obtain ⟨fs, D', B'⟩ := bd_full h7 _ 0 _ es (B.during hd) (Nat.zero_le _) (Nat.le_refl _)
      cases m with
      | zero => omega
      | succ m =>
        obtain ⟨gs, B2⟩ := bi_full h7 m (i + 1) (es ++ fs) B'.done (by rw [List.length_append]; omega) (by omega)
        exact ⟨fs ++ gs, by rw [← List.append_assoc]; exact B2⟩
    · obtain rfl : i = es.length := by omega
      exact ⟨[], by rw [List.append_nil]; exact B⟩
theorem bd_all {bs : List Bar} {s0 : List Bool} {i : Nat} {p : Ent} {t : Nat} {D : Int} {es : List Ent} (h7 : s0.length ≤ 7) (B : BD bs s0 i p t D es) (ht : t ≤ (freeL bs p.1).length) : ∃ fs, BI bs s0 (es ++ fs).length (es ++ fs) := by
  obtain ⟨fs, D', B'⟩ := bd_full h7 _ t D es B ht (Nat.le_refl _)
  have hl := (List.getElem?_eq_some_iff.mp B'.at').1
  obtain ⟨gs, B2⟩ := bi_full h7 _ (i + 1) (es ++ fs) B'.done (by omega) (Nat.le_refl _)
  exact ⟨fs ++ gs, by rw [← List.append_assoc]; exact B2⟩
theorem apart_at {b1 b2 : List Bar} {es fs : List Ent} {i : Nat} {p : Ent} {d : Int} (h : es[i]? = some p) (hno : ∀ e ∈ es.take i, diffD b1 b2 e.1 = none) (hd : diffD b1 b2 p.1 = some d) : apartE b1 b2 (es ++ fs) = some (p.2 ++ [d]) := by
  obtain ⟨hl, e⟩ := List.getElem?_eq_some_iff.mp h
  have e2 : es ++ fs = es.take i ++ (p :: (es.drop (i + 1) ++ fs)) := by
    rw [← e, ← List.cons_append, ← List.drop_eq_getElem_cons hl, ← List.append_assoc, List.take_append_drop]
  rw [e2, apart_skip _ hno, apartE, hd]
/-- how many of the first j drawers go -/
def tf (bs : List Bar) (st : List Bool) (j : Nat) : Nat := (((drs st.length).take j).filter fun d => goesB bs st d).length
theorem tf_le (bs : List Bar) (st : List Bool) (j : Nat) : tf bs st j ≤ (freeL bs st).length := ((List.take_sublist j _).filter _).length_le
theorem tf_all (bs : List Bar) (st : List Bool) : tf bs st st.length = (freeL bs st).length := by
  unfold tf
  rw [List.take_of_length_le (by rw [drs_len]; exact Nat.le_refl _)]
  rfl
theorem tf_step {bs : List Bar} {st : List Bool} {j : Nat} (hj : j < st.length) : tf bs st (j + 1) = if goesB bs st j = true then tf bs st j + 1 else tf bs st j := by
  unfold tf
  rw [take_succ_filter (fun d => goesB bs st d) (drs_get hj)]
  by_cases q : goesB bs st j = true
  · rw [if_pos q, if_pos q, List.length_append]
    rfl
  · rw [if_neg q, if_neg q]
theorem tf_at {bs : List Bar} {st : List Bool} {j : Nat} (hj : j < st.length) (h : goesB bs st j = true) : (freeL bs st)[tf bs st j]? = some (j : Int) := by
  obtain ⟨hl, e⟩ := List.getElem?_eq_some_iff.mp (drs_get hj)
  have e2 : drs st.length = (drs st.length).take j ++ (j : Int) :: (drs st.length).drop (j + 1) := by
    rw [← e, ← List.drop_eq_getElem_cons hl, List.take_append_drop]
  have e3 : freeL bs st = ((drs st.length).take j).filter (fun d => goesB bs st d) ++ (j : Int) :: ((drs st.length).drop (j + 1)).filter fun d => goesB bs st d := by
    show (drs st.length).filter (fun d => goesB bs st d) = _
    have := congrArg (List.filter fun d => goesB bs st d) e2
    rw [List.filter_append, List.filter_cons_of_pos h] at this
    exact this
  rw [e3]
  unfold tf
  rw [List.getElem?_append_right (Nat.le_refl _), Nat.sub_self]
  rfl
/-! ### a level of pairs of a standing and a row -/
abbrev LEnt := Addr × KEnt
structure LevAt (H : Hp) (L : Addr) (lv : List LEnt) : Prop where
  at' : H L = some (.lst (lv.map fun e => V.ref e.1))
  el : ∀ e ∈ lv, H e.1 = some (.tup [.str (sstr e.2.2.1), .ref e.2.1])
theorem LevAt.same {H H' : Hp} {L : Addr} {lv : List LEnt} (R : LevAt H L lv) (s : Same H H') : LevAt H' L lv := ⟨s _ _ R.at', fun e he => s _ _ (R.el e he)⟩
def pairD (e : Ent) : PyData := .tuple [.str (sstr e.1), .tuple (e.2.map PyData.int)]
theorem dok_pair (e : Ent) : dok 3 (pairD e) := dok_tuple fun d hd => by
  simp only [List.mem_cons, List.not_mem_nil, or_false] at hd
  rcases hd with rfl | rfl
  · exact ⟨(dok_str (sstr_ok _)).1, Nat.le_trans (dok_str (sstr_ok _)).2 (by decide)⟩
  · exact dok_tuple (dok_ints _)
theorem dpAll_lvP {K : PySem.W.Frag} {H : Hp} : ∀ {lv : List LEnt}, (∀ e ∈ lv, H e.1 = some (.tup [.str (sstr e.2.2.1), .ref e.2.1])) → (∀ e ∈ lv, H e.2.1 = some (.tup (e.2.2.2.map V.int))) → DpAll K H (lv.map fun e => V.ref e.1) (lv.map fun e => pairD e.2.2)
  | [], _, _ => .nil
  | e :: lv, h1, h2 => .cons (.tup (SqT.of' (h1 e List.mem_cons_self)) (.cons (.str _) (.cons (.tup (SqT.of' (h2 e List.mem_cons_self)) (dpAll_ints _)) .nil))) (dpAll_lvP (fun f hf => h1 f (List.mem_cons_of_mem _ hf)) fun f hf => h2 f (List.mem_cons_of_mem _ hf))
theorem eqv_pairs (lv : List LEnt) : PyData.eqv (.list (lv.map fun e => pairD e.2.2)) (.list []) = lv.isEmpty := by
  cases lv with
  | nil => exact eqv_self (dok_list (k := 1) fun d hd => by cases hd)
  | cons x l => simp [PyData.eqv, PyData.eqvAll]
end DL

set_option Elab.async false
set_option maxRecDepth 100000
set_option maxHeartbeats 1000000
namespace DL
open PySem L2 HT TL RZ
structure spLawApart (vs : List V) (H : Hp) (Q : VK) (_ : XK) : Prop where
  h : ∃ (p q : Addr) (b1 b2 : List Bar) (n : Nat), vs = [.ref p, .ref q] ∧ DrOk H p n b1 ∧ DrOk H q n b2 ∧
    ∀ (es : List Ent) (v : V) (H' : Hp), Same H H' → BI b1 (shutS n) es.length es → RowV H' (apartE b1 b2 es) v → Q v H'
def muA (σ : L2.St) (H : Hp) : Nat := 128 - ((match σ[3]? with | some (some (V.ref k)) => (match H k with | some (.dK kvs) => kvs.length | _ => 0) | _ => 0) - (match σ[2]? with | some (some (V.ref L)) => (match H L with | some (.lst xs) => xs.length | _ => 0) | _ => 0))
abbrev yes : List Bool → V := fun _ => .bl true
theorem LevAt.updO {H : Hp} {L D : Addr} {o u : HO} {lv : List LEnt} (R : LevAt H L lv) (hD : H D = some o) (ho : ∀ xs, o ≠ .tup xs) (hL : L ≠ D) : LevAt (upd H D u) L lv :=
  ⟨by rw [upd_ne hL]; exact R.at', fun e he => by
    have z := R.el e he
    rw [upd_ne (ne_of z hD fun y => ho _ y.symm)]
    exact z⟩
theorem RowsEl.updO {H : Hp} {D : Addr} {o u : HO} {ks : List KEnt} (R : RowsEl H ks) (hD : H D = some o) (ho : ∀ xs, o ≠ .tup xs) : RowsEl (upd H D u) ks :=
  ⟨fun e he => by
    have z := R.el e he
    rw [upd_ne (ne_of z hD fun y => ho _ y.symm)]
    exact z⟩
section
variable {P : Program} {w : World} {K : PySem.W.Frag} {mg : Str → Option Value} {base : Heap}
abbrev nLAp : List Str := ["_law_one", "_law_other", "_law_level", "_law_known", "_law_later", "_law_standing", "_law_told", "_law_left", "_law_right", "_law_drawer", "_law_there"]
theorem scLAp : FnScope nLAp ["_law_one", "_law_other"] (defScope s__law_apart) := ⟨rfl, rfl, rfl, by decide +kernel, rfl, by decide +kernel, by decide +kernel⟩
theorem ok_lawApart {f f1 f2 : Addr} {fd fd1 fd2 : FuncData} (F : Fun K "_law_apart" "_law_apart" s__law_apart f fd) (T : Bt mg)
    (G1 : FnOk P w K mg base CX0 2 f1 fd1 ["_law_d", "_law_standing"] spLawFree) (g1 : mg "_law_free" = some (.ref f1)) (k1 : PySem.W.keepIn K (.ref f1) = true) (b1 : Binds K fd1 ["_law_d", "_law_standing"] [])
    (G2 : FnOk P w K mg base CX0 1 f2 fd2 ["_law_standing", "_law_drawer"] spMoved) (g2 : mg "_law_moved" = some (.ref f2)) (k2 : PySem.W.keepIn K (.ref f2) = true) (b2 : Binds K fd2 ["_law_standing", "_law_drawer"] []) : FnOk P w K mg base CX0 3 f fd ["_law_one", "_law_other"] spLawApart := by
  refine F.ok scLAp (fun vs H Q E h => ?_) (fun cdv A outer s H vs Q E hr h => ?_)
  · obtain ⟨p, q, _, _, n, rfl, _⟩ := h.h
    rfl
  · obtain ⟨p, q, bs1, bs2, n, rfl, B1, B2, k⟩ := h.h
    have hu := hu_of hr
    have hu64 : _ + 64 < cLine := hr.units
    refine ⟨_, pss_cons (ps_par (i := 2) (j := 3) (by rfl) scLAp.nd rfl rfl (by decide) rfl rfl (pa_cons (pe_lst (pa_cons (pe_tup (pa_cons (pe_op op_mul_str pe_str (pe_ix ix_list (pv 0) pe_int (fun _ _ => rfl))) (pa_cons (pe_tup pa_nil) pa_nil))) pa_nil)) (pa_cons (pe_disp (pps_cons (pe_op op_mul_str pe_str (pe_ix ix_list (pv 0) pe_int (fun _ _ => rfl))) pe_bl pps_nil) (by rfl) (by rfl) (fun z => by cases z) (by decide)) pa_nil)) (by rfl))
      (pss_cons (ps_while PassesOwn.never (pt_cmpR (op_neD hu64) (pv 2) (pe_lst pa_nil) (nomark _))
        (pss_cons (ps_set (i := 4) scLAp.nd rfl (Or.inl rfl) (pe_lst pa_nil))
        (pss_cons (ps_for PassesOwn.never rfl (pi_list (pv 2)) (pg_tup (by rfl) (pgs_cons (pg_name (i := 5) scLAp.nd rfl (Or.inl rfl)) (pgs_cons (pg_name (i := 6) scLAp.nd rfl (Or.inl rfl)) pgs_nil)))
          (pss_cons (ps_par (i := 7) (j := 8) (by rfl) scLAp.nd rfl rfl (by decide) rfl rfl (pa_cons (pe_call G1 (hr.mono (by decide)) rfl g1 k1 b1 .nil pass0 (pa_cons (pv 0) (pa_cons (pv 5) pa_nil))) (pa_cons (pe_call G1 (hr.mono (by decide)) rfl g1 k1 b1 .nil pass0 (pa_cons (pv 1) (pa_cons (pv 5) pa_nil))) pa_nil)) (by rfl))
          (pss_one (ps_for PassesOwn.never rfl (pi_range1 (by rfl) T.range (pa_cons (pe_ix ix_list (pv 0) pe_int (fun _ _ => rfl)) pa_nil)) (pg_name (i := 9) scLAp.nd rfl (Or.inl rfl))
            (pss_cons (ps_set (i := 10) scLAp.nd rfl (Or.inl rfl) (pe_call G2 (hr.mono (by decide)) rfl g2 k2 b2 .nil pass0 (pa_cons (pv 5) (pa_cons (pv 9) pa_nil))))
            (pss_cons (ps_if (pt_cmpR op_ne (pe_cmpR op_in_seq (pv 9) (pv 7) (by rfl)) (pe_cmpR op_in_seq (pv 9) (pv 8) (by rfl)) (nomark _))
              (pss_one (ps_ret (pe_op op_catA (pv 6) (pe_tup (pa_cons (pv 9) pa_nil))))) pss_nil)
            (pss_one (ps_if (PW.pt (pw_and (pt_cmpR op_in_seq (pv 9) (pv 7) (by rfl)) (pw_and1 (pt_cmp (pc_dnotin hu (pv 10) (pv 3))))))
              (pss_cons (ps_dput hu (pv 3) (pv 10) pe_bl rfl)
              (pss_one (ps_expr (pe_bm PySem.F.plainAttrs_list PySem.F.slot_list_append PySem.F.type_list_append mt_append (pv 4) (pa_cons (pe_tup (pa_cons (pv 10) (pa_cons (pe_op op_catA (pv 6) (pe_tup (pa_cons (pv 9) pa_nil))) pa_nil))) pa_nil))))) pss_nil))))))))
        (pss_one (ps_set (i := 2) scLAp.nd rfl (Or.inl rfl) (pv 4))))))
      (pss_one (ps_ret pe_non))), ?_⟩
    have h7 : (shutS n).length ≤ 7 := by
      obtain ⟨_, _, _, _, _, _, _, q, _⟩ := B1.h
      rw [show (shutS n).length = n from List.length_replicate]
      omega
    have hshut : (shutS n).length = n := List.length_replicate
    have n1 : 1 ≤ n := by
      obtain ⟨_, _, _, _, _, _, q, _⟩ := B1.h
      omega
    have n7 : n ≤ 7 := by rw [hshut] at h7; exact h7
    have gd : ∀ H', Same H H' → ∃ zs, H' p = some (.lst (.int n :: zs)) := fun H' s => by
      obtain ⟨t, ks, zs, h1, _⟩ := (B1.same s).h
      exact ⟨_, h1⟩
    obtain ⟨zs0, hp0⟩ := gd H (Same.refl H)
    have mul : Txt.mul "s" (n : Int) = sstr (shutS n) := mul_shut (by omega) (by omega)
    refine ⟨_, rfl, p, _, 0, .int n, rfl, rfl, SqL.of hp0, atI_nat (j := 0) rfl, "s", (n : Int), rfl, rfl, mulOk_one (by decide +kernel) (by omega) (by omega), ?_⟩
    rw [mul]
    refine ⟨(by show 0 ≤ sizeLine; decide), fun e0 he0 => ?_⟩
    obtain ⟨s1, f1⟩ := new_at (o := .tup []) he0
    generalize upd H e0 (.tup []) = H1 at s1 f1 ⊢
    refine ⟨(by show 2 ≤ sizeLine; decide), fun r0 hr0 => ?_⟩
    obtain ⟨s2, f2⟩ := new_at (o := .tup [.str (sstr (shutS n)), .ref e0]) hr0
    generalize upd H1 r0 (.tup [.str (sstr (shutS n)), .ref e0]) = H2 at s2 f2 ⊢
    refine ⟨(by show 1 ≤ sizeLine; decide), fun L0 hL0 => ?_⟩
    obtain ⟨s3, f3⟩ := new_at (o := .lst [.ref r0]) hL0
    generalize upd H2 L0 (.lst [.ref r0]) = H3 at s3 f3 ⊢
    intro fa hfa
    have hp3 := s3 _ _ (s2 _ _ (s1 _ _ hp0))
    refine ⟨_, rfl, p, _, 0, .int n, rfl, rfl, SqL.of (same_upd hfa _ _ hp3), atI_nat (j := 0) rfl, "s", (n : Int), rfl, rfl, mulOk_one (by decide +kernel) (by omega) (by omega), ?_⟩
    rw [mul]
    refine ⟨upd_same, [(.inr (sstr (shutS n)), .bl true)], rfl, by show 1 ≤ 15; decide, ?_⟩
    refine ⟨_, _, rfl, ?_⟩
    have s13 := (s1.trans s2).trans s3
    have hF4 : (upd (upd H3 fa (.dK [])) fa (.dK (mergeK [] [(.inr (sstr (shutS n)), .bl true)]))) fa = some (.dK (tabV [shutS n] yes)) := upd_same
    have s4 : Same H3 (upd (upd H3 fa (.dK [])) fa (.dK (mergeK [] [(.inr (sstr (shutS n)), .bl true)]))) := fun b o eb => by
      rw [upd_ne (ne_of_none eb hfa), upd_ne (ne_of_none eb hfa)]
      exact eb
    generalize (upd (upd H3 fa (.dK [])) fa (.dK (mergeK [] [(.inr (sstr (shutS n)), .bl true)]))) = H4 at hF4 s4 ⊢
    have hfaH : H fa = none := s13.free hfa
    have bth : ∀ {i0 : Nat} {es : List Ent} {e : Ent}, BI bs1 (shutS n) i0 es → e ∈ es → e.1.length = n := fun I he => by rw [(I.led _ he).2.2, hshut]
    refine while_by (fun σ H' => ∃ (L : Addr) (i0 : Nat) (ks : List KEnt) (lv : List LEnt) (u4 u5 u6 u7 u8 u9 u10 : Option V), σ = [some (.ref p), some (.ref q), some (.ref L), some (.ref fa), u4, u5, u6, u7, u8, u9, u10] ∧ i0 ≤ ks.length ∧ BI bs1 (shutS n) i0 (ks.map (·.2)) ∧
        (∀ e ∈ (ks.map (·.2)).take i0, diffD bs1 bs2 e.1 = none) ∧ H' fa = some (.dK (tabV (ks.map (·.2.1)) yes)) ∧ RowsEl H' ks ∧ LevAt H' L lv ∧ lv.map (·.2) = ks.drop i0 ∧ Same H H') muA ?_ ?_ ?_
    · exact ⟨L0, 0, [(e0, (shutS n, []))], [(r0, (e0, (shutS n, [])))], _, _, _, _, _, _, _, rfl, Nat.zero_le _, BI.begin, fun e he => (by cases he), hF4, ⟨fun k hk => by rw [List.mem_singleton.mp hk]; exact s4 _ _ (s3 _ _ (s2 _ _ f1))⟩,
        ⟨s4 _ _ f3, fun e he => by rw [List.mem_singleton.mp he]; exact s4 _ _ (s3 _ _ f2)⟩, rfl, s13.trans s4⟩
    · clear hF4 s4 hp3 f1 f2 f3 s1 s2 s3 s13 hfa hL0 hr0 he0
      rintro σ J1 ⟨L, i0, ks, lv, u4, u5, u6, u7, u8, u9, u10, rfl, hi0, I, hno, hF, hE, hL, hlv, s1⟩
      have hfew : ks.length ≤ 128 := by
        have := led_few I.nd I.led h7
        rw [List.length_map] at this
        exact this
      have hll : lv.length = ks.length - i0 := by
        have := congrArg List.length hlv
        rw [List.length_map, List.length_drop] at this
        exact this
      have hlm : ∀ e ∈ lv, e.2 ∈ ks := fun e he => by
        have : e.2 ∈ ks.drop i0 := by rw [← hlv]; exact List.mem_map.mpr ⟨e, he, rfl⟩
        exact List.mem_of_mem_drop this
      have hmu : muA [some (.ref p), some (.ref q), some (.ref L), some (.ref fa), u4, u5, u6, u7, u8, u9, u10] J1 = 128 - i0 := by
        unfold muA
        show 128 - ((match J1 fa with | some (.dK kvs) => kvs.length | _ => 0) - (match J1 L with | some (.lst xs) => xs.length | _ => 0)) = _
        rw [hF, hL.at']
        show 128 - ((tabV (ks.map (·.2.1)) yes).length - (lv.map fun e => V.ref e.1).length) = _
        rw [tab_len, List.length_map, List.length_map, hll]
        omega
      rw [hmu]
      refine ⟨_, rfl, (by show 0 ≤ sizeLine; decide), fun e he => ?_⟩
      have sE := same_upd (o := .lst []) he
      refine ⟨_, _, .lst (SqL.of (sE _ _ hL.at')) (dpAll_lvP (fun e he => sE _ _ (hL.el e he)) fun e he => sE _ _ (hE.el _ (hlm e he))), .lst (SqL.of upd_same) .nil, dok_shaped (dok_list fun d hd => by
        obtain ⟨k, _, rfl⟩ := List.mem_map.mp hd
        exact dok_pair _) (by decide), dok_shaped (dok_list (k := 1) (ds := []) fun d hd => by cases hd) (by decide), _, rfl, ?_⟩
      rw [eqv_pairs]
      have hF2 := sE _ _ hF
      have hE2 := hE.same sE
      have hL2 := hL.same sE
      have s2 := s1.trans sE
      generalize (upd J1 e (HO.lst [])) = J2 at hF2 hE2 hL2 s2 ⊢
      cases hem : lv.isEmpty with
      | true =>
        rw [List.isEmpty_iff_length_eq_zero] at hem
        obtain rfl : i0 = ks.length := by omega
        refine iteF ?_
        rw [← List.length_map (f := fun k : KEnt => k.2) (as := ks)] at I hno
        refine k (ks.map (·.2)) .non J2 s2 I ?_
        rw [List.take_length] at hno
        rw [apart_none_of hno]
        rfl
      | false =>
        have hlt : i0 < ks.length := by
          rcases Nat.lt_or_ge i0 ks.length with z | z
          · exact z
          · have : lv.length = 0 := by omega
            rw [List.length_eq_zero_iff.mp this] at hem
            cases hem
        refine iteT ?_
        refine ⟨(by show 0 ≤ sizeLine; decide), fun Lt hLt => ?_⟩
        have hLtF : Lt ≠ fa := fun z => by rw [z, hF2] at hLt; cases hLt
        have sT := same_upd (o := .lst []) hLt
        have hHLt : H Lt = none := s2.free hLt
        refine ⟨_, rfl, L, rfl, ⟨_, SqL.of (sT _ _ hL2.at')⟩, ?_⟩
        refine for_list (K := K) (a := L) (xs := lv.map fun e => V.ref e.1) (fun j σ H' => ∃ (more : List KEnt) (ml : List LEnt) (u5 u6 u7 u8 u9 u10 : Option V), σ = [some (.ref p), some (.ref q), some (.ref L), some (.ref fa), some (.ref Lt), u5, u6, u7, u8, u9, u10] ∧ BI bs1 (shutS n) (i0 + j) ((ks ++ more).map (·.2)) ∧
            (∀ e ∈ ((ks ++ more).map (·.2)).take (i0 + j), diffD bs1 bs2 e.1 = none) ∧ H' fa = some (.dK (tabV ((ks ++ more).map (·.2.1)) yes)) ∧ RowsEl H' (ks ++ more) ∧ LevAt H' L lv ∧ LevAt H' Lt ml ∧ ml.map (·.2) = more ∧ Same H H')
          ⟨[], [], _, _, _, _, _, _, rfl, by rw [List.append_nil]; exact I, by rw [List.append_nil]; exact hno, by rw [List.append_nil]; exact sT _ _ hF2, by rw [List.append_nil]; exact hE2.same sT, hL2.same sT, ⟨upd_same, fun e he => (by cases he)⟩, rfl, s2.trans sT⟩ ?_ ?_ ?_
        · rintro j σ H' _ ⟨more, ml, _, _, _, _, _, _, _, _, _, _, _, h, _⟩
          exact SqL.of h.at'
        · rintro j x σ J3 hx ⟨more, ml, w5, w6, w7, w8, w9, w10, rfl, I3, hno3, hF3, hE3, hL3, hT3, hml, s3⟩
          rw [List.getElem?_map] at hx
          cases ek : lv[j]? with
          | none => rw [ek] at hx; cases hx
          | some le =>
            rw [ek] at hx
            cases hx
            obtain ⟨pr, kp⟩ := le
            have hprm := List.mem_of_getElem? ek
            have hkp : (ks ++ more)[i0 + j]? = some kp := by
              have z : (ks.drop i0)[j]? = some kp := by rw [← hlv, List.getElem?_map, ek]; rfl
              rw [List.getElem?_drop] at z
              rw [List.getElem?_append_left (List.getElem?_eq_some_iff.mp z).1]
              exact z
            have hkpm : kp ∈ ks ++ more := List.mem_of_getElem? hkp
            have hpe : ((ks ++ more).map (·.2))[i0 + j]? = some kp.2 := by rw [List.getElem?_map, hkp]; rfl
            have hpl : kp.2.1.length = n := bth I3 (List.mem_of_getElem? hpe)
            refine ⟨pr, _, rfl, SqT.of' (hL3.el _ hprm), rfl, _, _, rfl, _, _, rfl, rfl, ?_⟩
            have dr1 : ∀ {H' : Hp}, Same H H' → DrOk H' p kp.2.1.length bs1 := fun s => by rw [hpl]; exact B1.same s
            have dr2 : ∀ {H' : Hp}, Same H H' → DrOk H' q kp.2.1.length bs2 := fun s => by rw [hpl]; exact B2.same s
            refine ⟨_, rfl, _, rfl, ⟨⟨p, bs1, kp.2.1, rfl, dr1 s3, fun fl J4 hfl s4 h4 => ?_⟩⟩⟩
            refine ⟨_, rfl, _, rfl, ⟨⟨q, bs2, kp.2.1, rfl, dr2 (s3.trans s4), fun fr J5 hfr s5 h5 => ?_⟩⟩⟩
            have s45 := s4.trans s5
            have hF5 := s45 _ _ hF3
            have hE5 := hE3.same s45
            have hL5 := hL3.same s45
            have hT5 := hT3.same s45
            have s35 := s3.trans s45
            have h45 := s5 _ _ h4
            have nFl : fl ≠ fa := fun z => by rw [z, hF5] at h45; cases h45
            have nFr : fr ≠ fa := fun z => by rw [z, hF5] at h5; cases h5
            have nTl : fl ≠ Lt := fun z => by rw [z, hT3.at'] at hfl; cases hfl
            have nTr : fr ≠ Lt := fun z => by rw [z, s4 _ _ hT3.at'] at hfr; cases hfr
            have nLT : L ≠ Lt := fun z => by rw [← z, hL2.at'] at hLt; cases hLt
            have ltp : kp.1 ≠ Lt := ne_of (hE3.el _ hkpm) hT3.at' (by intro z; cases z)
            obtain ⟨zs5, hp5⟩ := gd J5 s35
            refine ⟨_, _, rfl, ?_⟩
            refine ⟨_, rfl, p, _, 0, .int n, rfl, rfl, SqL.of hp5, atI_nat (j := 0) rfl, _, rfl, by omega, by omega, ?_⟩
            rw [Int.toNat_natCast]
            refine for_range (lo := 0) (n := n) (fun m σ H' => ∃ (D : Int) (more : List KEnt) (ml : List LEnt) (u9 u10 : Option V), σ = [some (.ref p), some (.ref q), some (.ref L), some (.ref fa), some (.ref Lt), some (.str (sstr kp.2.1)), some (.ref kp.1), some (.ref fl), some (.ref fr), u9, u10] ∧
                BD bs1 (shutS n) (i0 + j) kp.2 (tf bs1 kp.2.1 m) D ((ks ++ more).map (·.2)) ∧ kp ∈ ks ++ more ∧ (∀ e ∈ ((ks ++ more).map (·.2)).take (i0 + j), diffD bs1 bs2 e.1 = none) ∧ (∀ d : Nat, d < m → goesB bs1 kp.2.1 d = goesB bs2 kp.2.1 d) ∧
                H' fa = some (.dK (tabV ((ks ++ more).map (·.2.1)) yes)) ∧ RowsEl H' (ks ++ more) ∧ LevAt H' L lv ∧ LevAt H' Lt ml ∧ ml.map (·.2) = more ∧ Same H H' ∧ H' fl = some (.lst ((freeL bs1 kp.2.1).map V.int)) ∧ H' fr = some (.lst ((freeL bs2 kp.2.1).map V.int)))
              ⟨0, more, ml, _, _, rfl, I3.during hpe, hkpm, hno3, fun d hd => by omega, hF5, hE5, hL5, hT5, hml, s35, h45, h5⟩ ?_ ?_
            · clear hno hF2 hE2 hF3 hE3 hT3 hF5 hE5 hL5 hT5 h45 h5 hno3 I3 hkp hpe hml hkpm
              rintro m σ J6 hm ⟨D, more, ml, v9, v10, rfl, I6, hkpm, hno6, hsm6, hF6, hE6, hL6, hT6, hml6, s6, hl6, hr6⟩
              have em : (0 : Int) + (m : Nat) = (m : Int) := by omega
              rw [em]
              refine ⟨_, rfl, _, rfl, ⟨⟨kp.2.1, m, rfl, by omega, by omega, by omega, fun J7 s7 => ?_⟩⟩⟩
              have hF7 := s7 _ _ hF6
              have hE7 := hE6.same s7
              have hL7 := hL6.same s7
              have hT7 := hT6.same s7
              have hl7 := s7 _ _ hl6
              have hr7 := s7 _ _ hr6
              have s17 := s6.trans s7
              clear hF6 hE6 hL6 hT6 hl6 hr6 s6 s7
              refine ⟨_, rfl, _, rfl, fl, _, rfl, .inl (SqL.of hl7), rfl, flat_ints _, _, rfl, _, rfl, fr, _, rfl, .inl (SqL.of hr7), rfl, flat_ints _, rfl, _, rfl, ?_⟩
              have hml' : m < kp.2.1.length := by omega
              show if (!decide (V.bl (inV (.int m) ((freeL bs1 kp.2.1).map V.int)) = V.bl (inV (.int m) ((freeL bs2 kp.2.1).map V.int)))) = true then _ else _
              rw [inV_ints, inV_ints, mem_free (by omega) (by omega), mem_free (by omega) (by omega), bl_ne]
              have hfew' : (ks ++ more).length ≤ 128 := by
                have := led_few I6.nd I6.led h7
                rw [List.length_map] at this
                exact this
              have hrow := ascD_len I6.asc (i0 + j) kp.2.2 (by rw [List.getElem?_map, I6.at']; rfl)
              have hij : i0 + j < 128 := by
                have e1 := (List.getElem?_eq_some_iff.mp I6.at').1
                rw [List.length_map] at e1
                omega
              have hrl : (kp.2.2.map V.int).length + 1 ≤ sizeLine := by rw [List.length_map]; exact Nat.le_of_lt (small1000 (by omega))
              cases e : (goesB bs1 kp.2.1 m != goesB bs2 kp.2.1 m) with
              | true =>
                refine iteT ?_
                refine ⟨_, rfl, _, rfl, (by show 1 ≤ sizeLine; decide), fun b1 hb1 => ?_⟩
                have sb := same_upd (o := .tup [.int (m : Nat)]) hb1
                refine catA_new (sb _ _ (hE7.el kp hkpm)) upd_same hrl fun tn J8 s8 h8 => ?_
                obtain ⟨fs, If⟩ := bd_all h7 I6 (tf_le _ _ _)
                refine k _ _ _ (s17.trans (sb.trans s8)) If ?_
                rw [apart_at I6.at' hno6 (diff_find hsm6 hml' (by simpa using e))]
                refine ⟨tn, rfl, ?_⟩
                rw [h8, List.map_append]
                rfl
              | false =>
                have eg : goesB bs1 kp.2.1 m = goesB bs2 kp.2.1 m := by simpa using e
                have hsm7 : ∀ d : Nat, d < m + 1 → goesB bs1 kp.2.1 d = goesB bs2 kp.2.1 d := fun d hd => by
                  rcases Nat.lt_or_ge d m with z | z
                  · exact hsm6 d z
                  · obtain rfl : d = m := by omega
                    exact eg
                refine iteF ?_
                refine ⟨_, rfl, _, rfl, fl, _, rfl, .inl (SqL.of hl7), rfl, flat_ints _, _, rfl, ?_⟩
                show if inV (.int m) ((freeL bs1 kp.2.1).map V.int) = true then _ else _
                rw [inV_ints, mem_free (by omega) (by omega)]
                cases eq1 : goesB bs1 kp.2.1 m with
                | false =>
                  refine iteF ⟨D, more, ml, _, _, rfl, ?_, hkpm, hno6, hsm7, hF7, hE7, hL7, hT7, hml6, s17, hl7, hr7⟩
                  rw [tf_step hml', if_neg (by rw [eq1]; exact Bool.false_ne_true)]
                  exact I6
                | true =>
                  refine iteT ?_
                  have hat := tf_at hml' eq1
                  have ets : tf bs1 kp.2.1 (m + 1) = tf bs1 kp.2.1 m + 1 := by rw [tf_step hml', if_pos eq1]
                  refine ⟨_, rfl, _, rfl, fa, _, rfl, DGet.k (k := Sum.inr (sstr (flip kp.2.1 m))) hF7, _, rfl, ?_⟩
                  rw [tab_val]
                  by_cases hin : flip kp.2.1 m ∈ (ks ++ more).map (·.2.1)
                  · rw [if_pos hin]
                    refine iteF ⟨(m : Int) + 1, more, ml, _, _, rfl, ?_, hkpm, hno6, hsm7, hF7, hE7, hL7, hT7, hml6, s17, hl7, hr7⟩
                    rw [ets]
                    exact I6.old hat h7 (by rw [List.map_map]; exact hin)
                  · rw [if_neg hin]
                    refine iteT ?_
                    have hsm : (tabV ((ks ++ more).map (·.2.1)) yes).length < sizeLine := by rw [tab_len, List.length_map]; exact small1000 (by omega)
                    refine ⟨_, rfl, _, rfl, fa, _, rfl, DPut.k (k := Sum.inr (sstr (flip kp.2.1 m))) hF7 hsm, ?_⟩
                    rw [tab_snoc hin]
                    have ey : (fun z => if z = flip kp.2.1 m then V.bl true else yes z) = yes := by
                      funext z
                      by_cases q : z = flip kp.2.1 m
                      · rw [if_pos q]
                      · rw [if_neg q]
                    rw [ey]
                    have hF8 : (upd J7 fa (.dK (tabV ((ks ++ more).map (·.2.1) ++ [flip kp.2.1 m]) yes))) fa = some (.dK (tabV ((ks ++ more).map (·.2.1) ++ [flip kp.2.1 m]) yes)) := upd_same
                    have hE8 : RowsEl (upd J7 fa (.dK (tabV ((ks ++ more).map (·.2.1) ++ [flip kp.2.1 m]) yes))) (ks ++ more) := hE7.updO hF7 (fun xs z => by cases z)
                    have hL8 : LevAt (upd J7 fa (.dK (tabV ((ks ++ more).map (·.2.1) ++ [flip kp.2.1 m]) yes))) L lv := hL7.updO hF7 (fun xs z => by cases z) (ne_of hL7.at' hF7 (by intro z; cases z))
                    have hT8 : LevAt (upd J7 fa (.dK (tabV ((ks ++ more).map (·.2.1) ++ [flip kp.2.1 m]) yes))) Lt ml := hT7.updO hF7 (fun xs z => by cases z) hLtF
                    have hl8 : (upd J7 fa (.dK (tabV ((ks ++ more).map (·.2.1) ++ [flip kp.2.1 m]) yes))) fl = some (.lst ((freeL bs1 kp.2.1).map V.int)) := by rw [upd_ne nFl]; exact hl7
                    have hr8 : (upd J7 fa (.dK (tabV ((ks ++ more).map (·.2.1) ++ [flip kp.2.1 m]) yes))) fr = some (.lst ((freeL bs2 kp.2.1).map V.int)) := by rw [upd_ne nFr]; exact hr7
                    have s8 : Same H (upd J7 fa (.dK (tabV ((ks ++ more).map (·.2.1) ++ [flip kp.2.1 m]) yes))) := fun b o eb => by
                      rw [upd_ne (ne_of_none eb hfaH)]
                      exact s17 _ _ eb
                    generalize (upd J7 fa (.dK (tabV ((ks ++ more).map (·.2.1) ++ [flip kp.2.1 m]) yes))) = J8 at hF8 hE8 hL8 hT8 hl8 hr8 s8 ⊢
                    clear hF7 hE7 hL7 hT7 hl7 hr7 s17
                    refine ⟨_, rfl, .inl ⟨rfl, _, SqL.of hT8.at'⟩, _, rfl, _, rfl, _, rfl, (by show 1 ≤ sizeLine; decide), fun b1 hb1 => ?_⟩
                    have sb := same_upd (o := .tup [.int (m : Nat)]) hb1
                    refine catA_new (sb _ _ (hE8.el kp hkpm)) upd_same hrl fun tn J9 s9 h9 => ?_
                    have h9 : J9 tn = some (.tup ((kp.2.2 ++ [(m : Int)]).map V.int)) := by rw [h9, List.map_append]; rfl
                    refine ⟨(by show 2 ≤ sizeLine; decide), fun pn hpn => ?_⟩
                    obtain ⟨s10, f10⟩ := new_at (o := .tup [.str (sstr (flip kp.2.1 m)), .ref tn]) hpn
                    generalize upd J9 pn (.tup [.str (sstr (flip kp.2.1 m)), .ref tn]) = J10 at s10 f10 ⊢
                    have sA := (sb.trans s9).trans s10
                    have hT10 := hT8.same sA
                    have hml7 : ml.length ≤ 128 := by
                      have := congrArg List.length hml6
                      rw [List.length_map] at this
                      rw [List.length_append] at hfew'
                      omega
                    have nF : HO.lst (ml.map fun e => V.ref e.1) ≠ .dK (tabV ((ks ++ more).map (·.2.1) ++ [flip kp.2.1 m]) yes) := by intro z; cases z
                    refine ⟨Lt, _, _, rfl, rfl, hT10.at', by rw [List.length_map]; exact small1000 (by omega), ?_⟩
                    have hE10 : RowsEl J10 (ks ++ (more ++ [(tn, (flip kp.2.1 m, kp.2.2 ++ [(m : Int)]))])) := ⟨fun k' hk' => by
                      rw [← List.append_assoc] at hk'
                      rcases List.mem_append.mp hk' with hk' | hk'
                      · exact sA _ _ (hE8.el k' hk')
                      · rw [List.mem_singleton.mp hk']; exact s10 _ _ h9⟩
                    refine ⟨(m : Int) + 1, more ++ [(tn, (flip kp.2.1 m, kp.2.2 ++ [(m : Int)]))], ml ++ [(pn, (tn, (flip kp.2.1 m, kp.2.2 ++ [(m : Int)])))], _, _, rfl, ?_, ?_, ?_, hsm7, ?_, hE10.updO hT10.at' (fun xs z => by cases z), (hL8.same sA).updO hT10.at' (fun xs z => by cases z) nLT, ⟨?_, fun e' he' => ?_⟩, by rw [List.map_append, hml6]; rfl, fun b o eb => ?_, by rw [upd_ne nTl]; exact sA _ _ hl8, by rw [upd_ne nTr]; exact sA _ _ hr8⟩
                    · have := I6.new hat h7 (by rw [List.map_map]; exact hin)
                      rw [ets, ← List.append_assoc, List.map_append]
                      exact this
                    · rw [← List.append_assoc]
                      exact List.mem_append_left _ hkpm
                    · rw [← List.append_assoc, List.map_append, List.take_append_of_le_length (Nat.le_of_lt (List.getElem?_eq_some_iff.mp I6.at').1)]
                      exact hno6
                    · rw [upd_ne hLtF.symm, ← List.append_assoc, List.map_append]
                      exact sA _ _ hF8
                    · rw [upd_same, List.map_append]
                      rfl
                    · have z : J10 e'.1 = some (.tup [.str (sstr e'.2.2.1), .ref e'.2.1]) := by
                        rcases List.mem_append.mp he' with h | h
                        · exact hT10.el e' h
                        · rw [List.mem_singleton.mp h]; exact f10
                      rw [upd_ne (ne_of z hT10.at' (by intro y; cases y))]
                      exact z
                    · rw [upd_ne (ne_of_none eb hHLt)]
                      exact sA _ _ (s8 _ _ eb)
            · rintro σ J6 ⟨D, more, ml, v9, v10, rfl, I6, hkpm, hno6, hsm6, hF6, hE6, hL6, hT6, hml6, s6, hl6, hr6⟩
              have I6 : BD bs1 (shutS n) (i0 + j) kp.2 (freeL bs1 kp.2.1).length D ((ks ++ more).map (·.2)) := by
                have z := tf_all bs1 kp.2.1
                rw [hpl] at z
                rw [z] at I6
                exact I6
              have hlt7 := (List.getElem?_eq_some_iff.mp I6.at').1
              refine ⟨more, ml, _, _, _, _, _, _, rfl, I6.done, fun e he => ?_, hF6, hE6, hL6, hT6, hml6, s6⟩
              rcases mem_take_succ I6.at' he with h | rfl
              · exact hno6 e h
              · cases q : diffD bs1 bs2 kp.2.1 with
                | none => rfl
                | some d =>
                  obtain ⟨⟨d0, d1⟩, dne, _⟩ := diff_some q
                  refine absurd ?_ dne
                  have := hsm6 d.toNat (by omega)
                  rw [show ((d.toNat : Nat) : Int) = d by omega] at this
                  exact this
        · rintro σ J3 ⟨more, ml, w5, w6, w7, w8, w9, w10, rfl, I3, hno3, hF3, hE3, hL3, hT3, hml, s3⟩
          have e1 : (lv.map fun e => V.ref e.1).length = ks.length - i0 := by rw [List.length_map, hll]
          rw [e1, show i0 + (ks.length - i0) = ks.length by omega] at I3 hno3
          refine ⟨_, rfl, ?_⟩
          refine ⟨⟨Lt, ks.length, ks ++ more, ml, _, _, _, _, _, _, _, rfl, by rw [List.length_append]; omega, I3, hno3, hF3, hE3, hT3, ?_, s3⟩, ?_⟩
          · rw [List.drop_append_of_le_length (Nat.le_refl _), List.drop_length, List.nil_append]
            exact hml
          · have hmm : ml.length = more.length := by
              have := congrArg List.length hml
              rw [List.length_map] at this
              exact this
            have : muA (([some (V.ref p), some (V.ref q), some (V.ref L), some (V.ref fa), some (V.ref Lt), w5, w6, w7, w8, w9, w10] : L2.St).set 2 (some (.ref Lt))) J3 = 128 - ks.length := by
              unfold muA
              show 128 - ((match J3 fa with | some (.dK kvs) => kvs.length | _ => 0) - (match J3 Lt with | some (.lst xs) => xs.length | _ => 0)) = _
              rw [hF3, hT3.at']
              show 128 - ((tabV ((ks ++ more).map (·.2.1)) yes).length - (ml.map fun e => V.ref e.1).length) = _
              rw [tab_len, List.length_map, List.length_map, List.length_append, hmm]
              omega
            rw [this]
            omega
    · rintro σ H1 Q1 Q2 m ⟨x, e1, hs, hf⟩
      refine ⟨x, e1, hs, fun e he => ?_⟩
      obtain ⟨d, d', h1, h2, h3, h4, c', ec, hq'⟩ := hf e he
      exact ⟨d, d', h1, h2, h3, h4, c', ec, m _ _ hq'⟩
end
end DL

set_option Elab.async false
set_option maxRecDepth 100000
set_option maxHeartbeats 2000000
namespace DL
open PySem PySem.Spec PyProof.Rows L2
/-! ### sets of ints and texts that can be walked -/
/-- what stands in a row of the table for a key -/
structure RowFor (P : Program) (w : World) (k : Key) (e : Int × Value) : Prop where
  val : RelV (kV k) e.2
  hash : e.1 = (mixKind P w).hash k
theorem pair_perm {α β : Type} {R : α → β → Prop} {ys zs : List β} (p : ys.Perm zs) : ∀ {xs : List α}, Paired R xs ys → ∃ ws, ws.Perm xs ∧ Paired R ws zs := by
  induction p with
  | nil => exact fun h => ⟨_, List.Perm.refl _, h⟩
  | cons y _ ih =>
    intro xs h
    cases h with
    | cons r t =>
      obtain ⟨ws, q, u⟩ := ih t
      exact ⟨_, q.cons _, .cons r u⟩
  | swap y z l =>
    intro xs h
    cases h with
    | cons r t =>
      cases t with
      | cons r2 t2 => exact ⟨_, List.Perm.swap _ _ _, .cons r2 (.cons r t2)⟩
  | trans _ _ ih1 ih2 =>
    intro xs h
    obtain ⟨ws, q, u⟩ := ih1 h
    obtain ⟨vs, q2, u2⟩ := ih2 u
    exact ⟨vs, q2.trans q, u2⟩
/-- L2 holds k besides -/
structure Adds (k : Key) (L L2 : List Key) : Prop where
  old : k ∈ L → L2 = L
  new : k ∉ L → L2.Perm (k :: L)
/-- at a: a set of the keys L, in some order, each once -/
structure SetW (P : Program) (w : World) (h : Heap) (a : Addr) (L : List Key) : Prop where
  h : ∃ (o : Obj) (es : Array (Int × Value)) (ep : Nat) (t : SetTable), h.get? a = some o ∧ o.ExactSet ∧ o.data = .set es ep t ∧ Paired (RowFor P w) L es.toList ∧ L.Nodup ∧ L.length < scanBound ∧
    t.fits es.size = true ∧ Ris t.place.toList ∧ (w.params.followText "set-order" = true ∨ t.led = true)
section
variable {P : Program} {w : World} {A : Around} {E : Value → Shared → Prop} {s : Shared} {a : Addr} {L : List Key}
theorem SetW.of {h : Heap} {o : Obj} {es : Array (Int × Value)} {ep : Nat} {t : SetTable} (g : h.get? a = some o) (x : o.ExactSet) (d : o.data = .set es ep t) (p : Paired (RowFor P w) L es.toList) (nd : L.Nodup) (few : L.length < scanBound)
    (f : t.fits es.size = true) (r : Ris t.place.toList) (l : w.params.followText "set-order" = true ∨ t.led = true) : SetW P w h a L := ⟨⟨o, es, ep, t, g, x, d, p, nd, few, f, r, l⟩⟩
theorem SetW.keep {h h' : Heap} (R : SetW P w h a L) (k : ∀ o, h.get? a = some o → h'.get? a = some o) : SetW P w h' a L := by
  obtain ⟨o, es, ep, t, g, rest⟩ := R.h
  exact ⟨⟨o, es, ep, t, k o g, rest⟩⟩
end
end DL

set_option Elab.async false
set_option maxRecDepth 100000
set_option maxHeartbeats 2000000
namespace DL
open PySem PySem.Spec PyProof.Rows L2
/-! ### sets whose members are tuples of ints and texts -/
abbrev IsM (P : Program) (w : World) (h : Heap) (k : List Key) (b : Addr) : Prop := IsTupleKey (mixKind P w) h k b
abbrev hM (P : Program) (w : World) (k : List Key) : Int := tupleKeyHash (mixKind P w) k
abbrev MEnt := Addr × List Key
def rowM (P : Program) (w : World) (e : MEnt) : Int × Value := (hM P w e.2, .ref e.1)
structure PlainV (v : Value) : Prop where
  cls : ∀ n, ofAClassStatement n v = pure false
  hsh : ∀ n, hashByValue n v = pure (plainKind v)
section
variable {P : Program} {w : World} {A : Around} {E : Value → Shared → Prop} {s : Shared}
theorem plain_mix {k : List Key} {vs : List Value} (h : ItemsAre (mixKind P w) k vs) : ∀ v ∈ vs, PlainV v := by
  induction h with
  | nil => exact fun v hv => absurd hv List.not_mem_nil
  | cons h1 _ ih =>
    intro v hv
    rcases List.mem_cons.mp hv with rfl | hv
    · rcases keyIs_shape h1 with ⟨i, t, rfl, rfl⟩ | ⟨x, t, rfl, rfl⟩
      · exact ⟨fun n => by cases n <;> rfl, fun n => hashByValue_scannable n rfl⟩
      · exact ⟨fun n => by cases n <;> rfl, fun n => hashByValue_scannable n rfl⟩
    · exact ih v hv
/-- a loop that leaves nothing: it ends early, or as it began -/
theorem ask_walk {α β : Type} {x0 : β} {f : α → β → Sem (ForInStep β)} {Dn : β → Prop} {vs : List α} {Q : β → Shared → Prop}
    (hf : ∀ v ∈ vs, ∀ R : ForInStep β → Shared → Prop, R (.yield x0) s → (∀ d, Dn d → R (.done d) s) → wpAny (model P w) A (f v x0) R E s) (hd : ∀ d, Dn d → Q d s) (h : Q x0 s) : wpAny (model P w) A (forIn vs x0 f) Q E s := by
  induction vs with
  | nil => exact wpAny_pure h
  | cons v vs ih =>
    rw [List.forIn_cons]
    exact wpAny_bind (hf v List.mem_cons_self _ (ih fun u hu => hf u (List.mem_cons_of_mem _ hu)) fun d z => wpAny_pure (hd d z))
theorem mix_noClass {k : List Key} {b : Addr} {Q : Bool → Shared → Prop} (hk : IsM P w s.heap k b) (h : Q false s) : wpAny (model P w) A (ofAClassStatement 8 (.ref b)) Q E s := by
  have ty := hk.typeIs
  obtain ⟨o, its, m, g, _, dt, hi⟩ := hk
  unfold ofAClassStatement
  refine wpAny_bind (wpAny_typeOf ty ?_)
  have tt : (("tuple" : String) == "tuple") = true := by decide
  simp only [tt, if_true]
  refine wpAny_bind (wpAny_pure ?_)
  simp only [Bool.not_true, Bool.false_eq_true, if_false]
  refine wpAny_bind (wpAny_seqItems g dt ?_)
  dsimp only
  rw [← Array.forIn_toList]
  refine wpAny_bind (ask_walk (Dn := fun _ => False) (fun v hv R hR _ => ?_) (fun _ z => z.elim) ?_)
  · rw [(plain_mix hi v hv).cls]
    exact wpAny_bind (wpAny_pure (wpAny_pure hR))
  · exact wpAny_pure h
theorem mix_hashBy {k : List Key} {b : Addr} {Q : Bool → Shared → Prop} (hk : IsM P w s.heap k b) (h : ∀ x, Q x s) : wpAny (model P w) A (hashByValue 8 (.ref b)) Q E s := by
  have ty := hk.typeIs
  obtain ⟨o, its, m, g, _, dt, hi⟩ := hk
  unfold hashByValue
  refine wpAny_bind (wpAny_specialOf ty F.slot_tuple_hash.lookup ?_)
  refine wpAny_bind (wpAny_seqItems g dt ?_)
  rw [Option.getD_some, ← Array.forIn_toList]
  refine wpAny_bind (ask_walk (Dn := fun d => d = (some false, ⟨⟩)) (fun v hv R hR hD => ?_) (fun d z => ?_) ?_)
  · rw [(plain_mix hi v hv).hsh]
    refine wpAny_bind (wpAny_pure ?_)
    cases plainKind v with
    | true => exact wpAny_pure hR
    | false => exact wpAny_pure (hD _ rfl)
  · subst z
    exact wpAny_pure (h false)
  · exact wpAny_pure (h true)
/-- looking for a tuple among tuples shows nothing of the table -/
theorem mix_unseen {k : List Key} {b : Addr} {Q : Bool → Shared → Prop} (hk : IsM P w s.heap k b) {ys : List Value} (hy : ∀ y ∈ ys, ∃ (k' : List Key) (c : Addr), y = .ref c ∧ IsM P w s.heap k' c) (h : Q false s) :
    wpAny (model P w) A (searchCouldBeSeen (.ref b) ys) Q E s := by
  unfold searchCouldBeSeen
  refine wpAny_bind (ask_walk (Dn := fun _ => False) (fun v hv R hR _ => ?_) (fun _ z => z.elim) (wpAny_pure h))
  obtain ⟨k', c, rfl, hc⟩ := hy v hv
  dsimp only
  split
  · exact wpAny_pure hR
  · refine wpAny_bind (wpAny_eqIsQuiet_tuple hk ?_)
    simp only [Bool.not_true, Bool.false_eq_true, if_false]
    refine wpAny_bind (wpAny_eqIsQuiet_tuple hc ?_)
    simp only [Bool.not_true, Bool.false_eq_true, if_false]
    refine wpAny_bind (mix_noClass hk ?_)
    simp only [Bool.false_eq_true, if_false]
    refine wpAny_bind (mix_noClass hc ?_)
    simp only [Bool.false_eq_true, if_false]
    exact wpAny_pure hR
/-! ### the set itself -/
structure SetM (P : Program) (w : World) (h : Heap) (a : Addr) (L : List MEnt) (es : Array (Int × Value)) (ep : Nat) (t : SetTable) : Prop where
  obj : ∃ o, h.get? a = some o ∧ o.ExactSet ∧ o.data = .set es ep t
  rows : es.toList = L.map (rowM P w)
  tab : TabOk t (L.map fun e => hM P w e.2)
  nd : (L.map (·.2)).Nodup
  mem : ∀ e ∈ L, IsM P w h e.2 e.1
  led : w.params.followText "set-order" = true ∨ t.led = true
  room : L.length * 5 < t.mask * 3
  few : L.length < 64
variable {a : Addr} {L : List MEnt} {es : Array (Int × Value)} {ep : Nat} {t : SetTable}
theorem rowsM_size (e : es.toList = L.map (rowM P w)) : es.size = L.length := by rw [← Array.length_toList, e, List.length_map]
theorem rowsM_at (e : es.toList = L.map (rowM P w)) {i : Nat} {p : MEnt} (h : L[i]? = some p) : es[i]? = some (rowM P w p) := by rw [← Array.getElem?_toList, e, List.getElem?_map, h, Option.map_some]
theorem SetM.fit (R : SetM P w s.heap a L es ep t) : t.fits es.size = true := by
  have z := rowsM_size R.rows
  have y := R.tab.sz
  have x := R.room
  rw [List.length_map] at y
  simp only [SetTable.fits, SetTable.fill, R.tab.dm, Bool.and_eq_true, beq_iff_eq, decide_eq_true_eq]
  refine ⟨y.trans z.symm, ?_⟩
  show t.place.size + 0 ≤ t.mask
  omega
theorem SetM.stays (R : SetM P w s.heap a L es ep t) : t.gaveWay = false := by
  simp only [SetTable.gaveWay, mask_odd R.tab.mok]
  rfl
/-- the c-th step of the way of a hash -/
def stepN (t : SetTable) (x : Int) (c : Nat) : SetTable.Probe := nth t.mask (runAt t.mask (SetTable.bits x % (t.mask + 1)) (SetTable.bits x)) c
theorem stepN_on (x : Int) (c q : Nat) : nth t.mask (stepN t x c) q = stepN t x (c + q) := (nth_add t.mask c _ q).symm
theorem stepN_j (x : Int) (c q : Nat) : (nth t.mask (stepN t x c) q).j = way t.mask x (c + q) := congrArg SetTable.Probe.j (stepN_on x c q)
theorem dummy_nth (m : Nat) : ∀ (n : Nat) (p : SetTable.Probe), p.dummy = none → (nth m p n).dummy = none
  | 0, _, h => h
  | n + 1, p, h => dummy_nth m n (adv m p) (by unfold adv; split <;> exact h)
theorem hash_at (e : es.toList = L.map (rowM P w)) {i : Nat} {p : MEnt} (h : L[i]? = some p) : (es[i]?.map (·.1)).getD 0 = hM P w p.2 := by rw [rowsM_at e h]; rfl
theorem searchM (R : SetM P w s.heap a L es ep t) {y : Addr} {k : List Key} (hy : IsM P w s.heap k y) (hu : A.units < cLine) {x : Int} (ex : hM P w k = x) {N : Nat} (N1 : N < 10 * SetTable.turns t.mask)
    (N2 : way t.mask x N ∉ t.place.toList) (N3 : ∀ c, c < N → way t.mask x c ∈ t.place.toList) {Q : SetFound → Shared → Prop} (here : k ∈ L.map (·.2) → Q (.there none) s) (gone : k ∉ L.map (·.2) → Q (.free (way t.mask x N) false) s) (fuel : Nat) :
    ∀ (c : Nat) (at' : Option SetTable.Probe), at'.getD (t.probeStart x) = stepN t x c → c ≤ N → N - c < fuel → (∀ (i : Nat) p, L[i]? = some p → p.2 = k → ∃ c', c ≤ c' ∧ c' < N ∧ t.place.toList[i]? = some (way t.mask x c')) →
      wpAny (model P w) A (setSearchFrom a (.ref y) x true fuel at') Q E s := by
  induction fuel with
  | zero => exact fun c at' _ _ z _ => absurd z (Nat.not_lt_zero _)
  | succ fuel ih =>
    intro c at' eat cN cf reach
    obtain ⟨o, g, xo, dt⟩ := R.obj
    rw [setSearchFrom_succ]
    refine wpAny_bind (wpAny_setState_of g dt R.fit ?_)
    simp only [R.stays, Bool.false_eq_true, if_false]
    have found := go_spec t R.tab.ris R.tab.dm (fun i : Nat => (es[i]?.map (·.1)).getD 0) x (10 * SetTable.turns t.mask) (N - c) (stepN t x c) (dummy_nth _ _ _ rfl) (by omega)
      (fun q hq => by rw [stepN_j]; exact N3 _ (by omega)) (by rw [stepN_j, Nat.add_sub_cancel' cN]; exact N2)
    -- of an entry of the same tuple: it isn't passed
    have passed : ∀ m, (∀ (k' i' : Nat), k' < m → t.place.toList[i']? = some (nth t.mask (stepN t x c) k').j → (es[i']?.map (·.1)).getD 0 ≠ x) → ∀ (i : Nat) p, L[i]? = some p → p.2 = k → ∀ c', c ≤ c' → c' < c + m → t.place.toList[i]? ≠ some (way t.mask x c') := by
      intro m none' i p hp hk c' c1 c2 z
      refine none' (c' - c) i (by omega) (by rw [stepN_j, Nat.add_sub_cancel' c1]; exact z) ?_
      rw [hash_at R.rows hp, hk, ex]
    rcases found with ⟨q, i, hq, hi, _, none', told⟩ | ⟨none', told⟩
    · have told' : t.probe (fun i : Nat => (es[i]?.map (·.1)).getD 0) x (at'.getD (t.probeStart x)) = some (.candidate (way t.mask x (c + q)) i (stepN t x (c + (q + 1)))) := by
        rw [eat, ← stepN_j, ← stepN_on]
        exact told
      rw [told']
      dsimp only
      rw [stepN_j] at hi
      have il : i < L.length := by
        have z1 := (List.getElem?_eq_some_iff.mp hi).1
        have z2 := R.tab.sz
        rw [List.length_map] at z2
        rw [Array.length_toList] at z1
        omega
      obtain ⟨p, hp⟩ : ∃ p, L[i]? = some p := ⟨_, List.getElem?_eq_getElem il⟩
      have hm := List.mem_of_getElem? hp
      have onward : wpAny (model P w) A (searchRest a (.ref y) x true fuel es t (way t.mask x (c + q)) i (stepN t x (c + (q + 1)))) Q E s := by
        unfold searchRest
        rw [rowsM_at R.rows hp]
        refine wpAny_bind (wpAny_holding (wpAny_eqBool_tuple hu (R.mem p hm) hy ?_))
        refine wpAny_bind (wpAny_setState_of g dt R.fit ?_)
        dsimp only
        by_cases same : p.2 = k
        · rw [decide_eq_true same]
          simp only [Bool.and_self, if_true]
          exact wpAny_pure (here (List.mem_map.mpr ⟨p, hm, same⟩))
        · rw [decide_eq_false same]
          simp only [Bool.and_false, Bool.false_eq_true, if_false]
          have live := slot_live R.tab.ris hi
          rw [sameMem]
          simp only [if_true, live, rowsM_at R.rows hp]
          refine wpAny_bind (wpAny_isSame_ref_self (wpAny_bind (wpAny_pure ?_)))
          simp only [if_true]
          refine ih (c + (q + 1)) _ rfl (by omega) (by omega) fun i0 p0 h0 hk0 => ?_
          obtain ⟨c', c1, c2, c3⟩ := reach i0 p0 h0 hk0
          refine ⟨c', ?_, c2, c3⟩
          rcases Nat.lt_trichotomy c' (c + q) with z | z | z
          · exact absurd c3 (passed q none' i0 p0 h0 hk0 c' c1 z)
          · subst z
            have live2 := slot_live R.tab.ris c3
            rw [live] at live2
            injection live2 with live2
            subst live2
            rw [hp] at h0
            cases h0
            exact absurd hk0 same
          · omega
      cases led : t.led with
      | true =>
        simp only [Bool.not_true, Bool.false_eq_true, if_false]
        exact onward
      | false =>
        simp only [Bool.not_false, if_true]
        refine wpAny_bind (mix_unseen hy (fun v hv => ?_) ?_)
        · obtain ⟨e, he, rfl⟩ := List.mem_map.mp hv
          have he1 : e ∈ es.toList := by
            have z : e ∈ es ∧ e.1 = x := by simpa using he
            exact Array.mem_toList_iff.mpr z.1
          rw [R.rows] at he1
          obtain ⟨p2, hp2, rfl⟩ := List.mem_map.mp he1
          exact ⟨p2.2, p2.1, rfl, R.mem p2 hp2⟩
        · simp only [Bool.false_eq_true, if_false]
          exact onward
    · have told' : t.probe (fun i : Nat => (es[i]?.map (·.1)).getD 0) x (at'.getD (t.probeStart x)) = some (.empty (way t.mask x N) none) := by
        have z : way t.mask x N = (nth t.mask (stepN t x c) (N - c)).j := by rw [stepN_j, Nat.add_sub_cancel' cN]
        rw [eat, z]
        exact told
      rw [told']
      refine wpAny_pure (gone fun hm => ?_)
      obtain ⟨p0, h0, hk0⟩ := List.mem_map.mp hm
      obtain ⟨i0, hi0⟩ := List.getElem?_of_mem h0
      obtain ⟨c', c1, c2, c3⟩ := reach i0 p0 hi0 hk0
      exact passed (N - c) none' i0 p0 hi0 hk0 c' c1 (by omega) c3
theorem searchM_at (R : SetM P w s.heap a L es ep t) {y : Addr} {k : List Key} (hy : IsM P w s.heap k y) (hu : A.units < cLine) {Q : SetFound → Shared → Prop} (here : k ∈ L.map (·.2) → Q (.there none) s)
    (gone : ∀ N, k ∉ L.map (·.2) → way t.mask (hM P w k) N ∉ t.place.toList → (∀ c, c < N → way t.mask (hM P w k) c ∈ t.place.toList) → Q (.free (way t.mask (hM P w k) N) false) s) :
    wpAny (model P w) A (setSearch a (.ref y) (hM P w k) true) Q E s := by
  have room := R.room
  obtain ⟨N, N1, N2, N3⟩ := R.tab.first (by rw [List.length_map]; omega) (hM P w k)
  have small : N < 100000 := by
    have z : SetTable.turns t.mask ≤ 142 := by
      rcases R.tab.mok with e | e | e <;> simp only [SetTable.turns] <;> omega
    omega
  refine searchM R hy hu rfl N1 N2 N3 here (fun z => gone N z N2 N3) 100000 0 none rfl (Nat.zero_le _) small fun i p hp hk => ?_
  have z1 : (L.map fun e => hM P w e.2)[i]? = some (hM P w k) := by rw [List.getElem?_map, hp, ← hk]; rfl
  have z2 : i < t.place.toList.length := by
    have z3 := R.tab.sz
    rw [List.length_map] at z3
    rw [Array.length_toList, z3]
    exact (List.getElem?_eq_some_iff.mp hp).1
  obtain ⟨c, c1, c2⟩ := R.tab.before N2 z1 (List.getElem?_eq_getElem z2)
  exact ⟨c, Nat.zero_le _, c1, by rw [c2]; exact List.getElem?_eq_getElem z2⟩
end
end DL

set_option Elab.async false
set_option maxRecDepth 100000
set_option maxHeartbeats 2000000
namespace DL
open PySem PySem.Spec PyProof.Rows L2
/-! ### one more member of a set of tuples -/
theorem pick_range {α : Type} : ∀ (L : List α), (List.range L.length).filterMap (fun i => L[i]?) = L
  | [] => rfl
  | a :: L => by
    rw [List.length_cons, List.range_succ_eq_map, List.filterMap_cons_some (b := a) (by rfl), List.filterMap_map]
    exact congrArg (a :: ·) (pick_range L)
section
variable {P : Program} {w : World} {A : Around} {E : Value → Shared → Prop} {s : Shared} {a : Addr} {L : List MEnt} {es : Array (Int × Value)} {ep : Nat} {t : SetTable}
theorem IsM.off {h h' : Heap} {k : List Key} {b : Addr} {o : Obj} (x : IsM P w h k b) (g : h.get? a = some o) (dt : o.data = .set es ep t) (sb : Heap.SameBut a h h') : IsM P w h' k b := by
  obtain ⟨o2, its, m, g2, c2, d2, i2⟩ := x
  refine ⟨o2, its, m, (sb.2 b fun e => ?_).trans g2, c2, d2, i2⟩
  subst e
  rw [g] at g2
  cases g2
  rw [dt] at d2
  cases d2
theorem rowsM_all (e : es.toList = L.map (rowM P w)) (i : Nat) : es[i]? = (L[i]?).map (rowM P w) := by rw [← Array.getElem?_toList, e, List.getElem?_map]
/-- rows in another order -/
theorem anew {order : Array Nat} (e : es.toList = L.map (rowM P w)) (p : order.toList.Perm (List.range L.length)) :
    ∃ L2 : List MEnt, (order.filterMap (es[·]?)).toList = L2.map (rowM P w) ∧ L2.Perm L ∧ (L2.map fun e => hM P w e.2) = order.toList.map fun i => (es.map (·.1)).getD i 0 := by
  refine ⟨order.toList.filterMap fun i => L[i]?, ?_, ?_, ?_⟩
  · rw [Array.toList_filterMap, List.map_filterMap]
    exact congrArg (fun f => List.filterMap f order.toList) (funext fun i => rowsM_all e i)
  · have z := p.filterMap fun i => L[i]?
    rw [pick_range] at z
    exact z
  · have all : ∀ l : List Nat, (∀ i ∈ l, i < L.length) → ((l.filterMap fun i => L[i]?).map fun e => hM P w e.2) = l.map fun i => (es.map (·.1)).getD i 0 := by
      intro l
      induction l with
      | nil => exact fun _ => rfl
      | cons i l ih =>
        intro hl
        have hi := hl i List.mem_cons_self
        have ei : L[i]? = some L[i] := List.getElem?_eq_getElem hi
        rw [List.filterMap_cons_some ei, List.map_cons, List.map_cons, ih fun j hj => hl j (List.mem_cons_of_mem _ hj)]
        refine congrArg (· :: _) ?_
        have z : (es.map (·.1))[i]? = some (hM P w (L[i]).2) := by rw [Array.getElem?_map, rowsM_all e, ei]; rfl
        simp [Array.getD_eq_getD_getElem?, z]
    exact all _ fun i hi => List.mem_range.mp (p.mem_iff.mp hi)
theorem relayM {o : Obj} (g : s.heap.get? a = some o) (xo : o.ExactSet) (dt : o.data = .set es ep t) (rows : es.toList = L.map (rowM P w)) (sz : t.place.size = es.size) (dm : t.dummies = #[]) (le : es.size ≤ t.mask)
    (nd : (L.map (·.2)).Nodup) (mem : ∀ e ∈ L, IsM P w s.heap e.2 e.1) (led : w.params.followText "set-order" = true ∨ t.led = true) (few : L.length < 64) {want M : Nat} (w1 : SetTable.sizeAbove want - 1 = M) (w2 : MaskOk M) (w3 : SetTable.sizeAbove want ≤ 128)
    (room : L.length * 5 < M * 3) {Q : Unit → Shared → Prop} (hQ : ∀ h' L' es' ep' t', Heap.SameBut a s.heap h' → SetM P w h' a L' es' ep' t' → L'.Perm L → Q () { s with heap := h' }) : wpAny (model P w) A (setRelay a want) Q E s := by
  have n := rowsM_size rows
  have fit : t.fits es.size = true := by
    simp only [SetTable.fits, SetTable.fill, dm, Bool.and_eq_true, beq_iff_eq, decide_eq_true_eq]
    refine ⟨sz, ?_⟩
    show t.place.size + 0 ≤ t.mask
    omega
  obtain ⟨t2, order, e1, e2, T2, m2, l2, _, _⟩ := relaid_ok t (hs := es.map (·.1)) w1 w2 (by rw [Array.size_map, n]; omega)
  rw [Array.size_map, n] at e2
  obtain ⟨L2, r1, r2, r3⟩ := anew rows e2
  rw [← r3] at T2
  have n2 : (order.filterMap (es[·]?)).size = es.size := by rw [rowsM_size r1, r2.length_eq, n]
  rw [setRelay_eq]
  refine wpAny_bind (wpAny_setState_of g dt fit ?_)
  have sl : 128 ≤ sizeLine := by decide
  have w4 : ¬ SetTable.sizeAbove want > sizeLine := by
    omega
  simp only [w4, if_false, e1, n2, bne_self_eq_false, Bool.false_eq_true]
  refine wpAny_bind (wpAny_pure ?_)
  refine wpAny_storeSet_of g dt ?_ (by rw [n2, n]; exact Nat.le_trans (by omega) sl)
  have sb : Heap.SameBut a s.heap (s.heap.update a (Obj.putSet (order.filterMap (es[·]?)) t2)) := Heap.SameBut.update s.heap a (Obj.putSet _ t2)
  refine hQ _ L2 _ (ep + 1) t2 sb ⟨⟨_, PpSet.storeB_at g dt, ⟨xo.1, xo.2.1, xo.2.2⟩, rfl⟩, r1, T2, (r2.map (·.2)).nodup_iff.mpr nd, fun e he => (mem e (r2.mem_iff.mp he)).off g dt sb, by rw [l2]; exact led, by rw [r2.length_eq, m2]; exact room, by rw [r2.length_eq]; exact few⟩ r2
theorem TabOk.like {t t' : SetTable} {hs : List Int} (T : TabOk t hs) (e1 : t'.place = t.place) (e2 : t'.dummies = t.dummies) (e3 : t'.mask = t.mask) : TabOk t' hs := by
  refine ⟨by rw [e1]; exact T.ris, by rw [e2]; exact T.dm, by rw [e1]; exact T.sz, by rw [e3]; exact T.mok, ?_, ?_⟩
  · rw [e1, e3]
    exact T.bd
  · rw [e1, e3]
    exact T.reach
theorem put_in {α : Type} (L : List α) (p : Nat) (x : α) : (L.take p ++ x :: L.drop p).Perm (x :: L) := by
  have z : (L.take p ++ x :: L.drop p).Perm (x :: (L.take p ++ L.drop p)) := List.perm_middle
  rw [List.take_append_drop] at z
  exact z
theorem addM (R : SetM P w s.heap a L es ep t) {x : Addr} {k : List Key} (hx : IsM P w s.heap k x) (hu : A.units < cLine) (room : L.length + 1 < 64) {Q : Bool → Shared → Prop}
    (hQ : ∀ b h' L' es' ep' t', Heap.SameBut a s.heap h' → SetM P w h' a L' es' ep' t' → (k ∈ L.map (·.2) → L' = L) → (k ∉ L.map (·.2) → L'.Perm ((x, k) :: L)) → Q b { s with heap := h' }) :
    wpAny (model P w) A (setAddHashed a (.ref x) (hM P w k)) Q E s := by
  obtain ⟨o, g, xo, dt⟩ := R.obj
  have n := rowsM_size R.rows
  have sl : 128 ≤ sizeLine := by decide
  have old := R.room
  unfold setAddHashed
  refine wpAny_holding ?_
  rw [show (100000 : Nat) = 99999 + 1 from rfl, setAddHashedIn_succ]
  refine wpAny_bind (wpAny_setState_of g dt R.fit ?_)
  have noScan : byScan (.ref x) es = false := by simp [byScan, Value.scannable]
  simp only [noScan, Bool.false_eq_true, if_false]
  refine wpAny_bind (searchM_at R hx hu (fun m => ?_) fun N m N2 N3 => ?_)
  · exact wpAny_pure (hQ false s.heap L es ep t (Heap.SameBut.refl a s.heap) R (fun _ => rfl) fun z => absurd m z)
  · dsimp only
    refine wpAny_bind (wpAny_setState_of g dt R.fit ?_)
    dsimp only
    obtain ⟨q1, q2, q3, q4, q5, q6, q7, q8, q9⟩ := R.tab.put N2 N3
    generalize t.put (way t.mask (hM P w k) N) = pt at q1 q3 q4 q5 q6 q7 q8 q9 ⊢
    obtain ⟨t1, j⟩ := pt
    dsimp only at q1 q3 q4 q5 q6 q7 q8 q9 ⊢
    subst q1
    generalize hj : SetTable.below t.place (way t.mask (hM P w k) N) = j at q2 q3 ⊢
    have pm := put_in L j (x, k)
    have rows1 : (SetTable.insertAt es j (hM P w k, Value.ref x)).toList = (L.take j ++ (x, k) :: L.drop j).map (rowM P w) := by
      rw [SetTable.toList_insertAt, R.rows, List.map_append, List.map_cons, List.map_take, List.map_drop]
      rfl
    have hash1 : (L.take j ++ (x, k) :: L.drop j).map (fun e => hM P w e.2) = (L.map fun e => hM P w e.2).take j ++ hM P w k :: (L.map fun e => hM P w e.2).drop j := by
      rw [List.map_append, List.map_cons, List.map_take, List.map_drop]
    rw [← hash1] at q3
    have n1 := rowsM_size rows1
    rw [pm.length_eq, List.length_cons] at n1
    have nd1 : ((L.take j ++ (x, k) :: L.drop j).map (·.2)).Nodup := (pm.map (·.2)).nodup_iff.mpr (List.nodup_cons.mpr ⟨m, R.nd⟩)
    generalize L.take j ++ (x, k) :: L.drop j = L1 at pm q3 nd1 rows1
    have len1 : L1.length = L.length + 1 := pm.length_eq
    generalize SetTable.insertAt es j (hM P w k, Value.ref x) = es1 at rows1 n1 ⊢
    rw [n]
    rw [List.length_map] at q9
    have rest : ∀ t2 : SetTable, t2.place = t1.place → t2.dummies = t1.dummies → t2.mask = t1.mask → t2.led = t1.led →
        wpAny (model P w) A (do storeSet a es1 t2; if (!false && t2.tooFull) = true then do setRelay a (SetTable.grown (L.length + 1)); pure true else pure true) Q E s := by
      intro t2 f1 f2 f3 f4
      have T2 := TabOk.like q3 f1 f2 f3
      have fill2 : t2.fill = L.length + 1 := by
        unfold SetTable.fill at q9 ⊢
        rw [f1, f2]
        exact q9
      refine wpAny_bind (wpAny_storeSet_of g dt ?_ (by rw [n1]; omega))
      have sb : Heap.SameBut a s.heap (s.heap.update a (Obj.putSet es1 t2)) := Heap.SameBut.update s.heap a (Obj.putSet es1 t2)
      have g1 := PpSet.storeB_at (es' := es1) (t' := t2) g dt
      generalize s.heap.update a (Obj.putSet es1 t2) = h1 at sb g1 ⊢
      have mem1 : ∀ e ∈ L1, IsM P w h1 e.2 e.1 := fun e he => by
        rcases List.mem_cons.mp (pm.mem_iff.mp he) with rfl | he
        · exact hx.off g dt sb
        · exact (R.mem e he).off g dt sb
      have led1 : w.params.followText "set-order" = true ∨ t2.led = true := by
        rw [f4, q5]
        exact R.led
      have full : t2.tooFull = decide ((L.length + 1) * 5 ≥ t.mask * 3) := by
        unfold SetTable.tooFull
        rw [fill2, f3, q4]
      have sz1 : t2.place.size = es1.size := by
        have z := T2.sz
        rw [List.length_map, len1] at z
        rw [z, n1]
      rw [full]
      by_cases big : (L.length + 1) * 5 ≥ t.mask * 3
      · rw [decide_eq_true big]
        simp only [Bool.not_false, Bool.and_self, if_true]
        have two : (t.mask = 7 ∧ L.length = 4) ∨ (t.mask = 31 ∧ L.length = 18) := by
          rcases R.tab.mok with e | e | e <;> rw [e] at big old
          · exact .inl ⟨e, by omega⟩
          · exact .inr ⟨e, by omega⟩
          · omega
        have grow : ∀ M, SetTable.sizeAbove (SetTable.grown (L.length + 1)) - 1 = M → MaskOk M → SetTable.sizeAbove (SetTable.grown (L.length + 1)) ≤ 128 → (L.length + 1) * 5 < M * 3 →
            wpAny (model P w) A (do setRelay a (SetTable.grown (L.length + 1)); pure true) Q E { s with heap := h1 } := fun M u1 u2 u3 u4 => by
          refine wpAny_bind (relayM (s := { s with heap := h1 }) g1 ⟨xo.1, xo.2.1, xo.2.2⟩ rfl rows1 sz1 T2.dm (by rw [n1, f3, q4]; omega) nd1 mem1 led1 (by omega) u1 u2 u3 (by rw [len1]; exact u4) fun h2 L2 es2 ep2 t3 sb2 R2 pm2 => ?_)
          exact wpAny_pure (hQ true h2 L2 es2 ep2 t3 (sb.trans sb2) R2 (fun z => absurd z m) fun _ => pm2.trans pm)
        rcases two with ⟨_, e⟩ | ⟨_, e⟩
        · exact grow 31 (by rw [e, size_20]) (.inr (.inl rfl)) (by rw [e, size_20]; decide) (by omega)
        · exact grow 127 (by rw [e, size_76]) (.inr (.inr rfl)) (by rw [e, size_76]; decide) (by omega)
      · rw [decide_eq_false big]
        simp only [Bool.and_false, Bool.false_eq_true, if_false]
        exact wpAny_pure (hQ true h1 L1 es1 (ep + 1) t2 sb ⟨⟨_, g1, ⟨xo.1, xo.2.1, xo.2.2⟩, rfl⟩, rows1, T2, nd1, mem1, led1, by rw [len1, f3, q4]; omega, by omega⟩ (fun z => absurd z m) fun _ => pm)
    split
    · refine wpAny_bind (mix_hashBy hx fun b => ?_)
      cases b
      · exact rest _ rfl rfl rfl rfl
      · exact rest _ rfl rfl rfl rfl
    · exact wpAny_bind (wpAny_pure (rest _ rfl rfl rfl rfl))
end
end DL

set_option Elab.async false
set_option maxRecDepth 100000
set_option maxHeartbeats 2000000
namespace DL
open PySem PySem.Spec PyProof.Rows L2
/-! ### {e for x in xs if t} -/
/-! ### sorted of such a set -/
section
variable {X : Cx}
theorem vals_back {L : List Key} : ∀ {us ws : List Value}, Vals (L.map kV) us → us.Perm ws → ∃ L2 : List Key, L2.Perm L ∧ Vals (L2.map kV) ws := fun {us ws} h p => by
  have q : Paired (fun (k : Key) (u : Value) => RelV (kV k) u) L us := by
    clear p
    induction L generalizing us with
    | nil => cases h; exact .nil
    | cons k L ih =>
      cases h with
      | cons r t => exact .cons r (ih t)
  obtain ⟨L2, p2, q2⟩ := pair_perm p q
  refine ⟨L2, p2, ?_⟩
  clear p2 q h p
  induction q2 with
  | nil => exact .nil
  | cons r _ ih => exact .cons r ih
end
end DL

set_option Elab.async false
set_option maxRecDepth 100000
set_option maxHeartbeats 3200000
namespace DL
open PySem PySem.Spec PyProof.Rows L2
/-! ### set(xs), xs a list of ints or texts -/
/-- a set without members, new -/
abbrev bareS (w : World) : Obj := { cls := .type "set", dict := none, data := .set #[] 0 (.fresh 0 0 (!w.params.followText "set-order")) }
/-- L: what the first i of ks are, each once -/
structure MetW (ks : List Key) (i : Nat) (L : List Key) : Prop where
  nd : L.Nodup
  len : L.length ≤ i
  mem : ∀ k, k ∈ L ↔ k ∈ ks.take i
theorem MetW.zero (ks : List Key) : MetW ks 0 [] := ⟨List.nodup_nil, Nat.le_refl _, fun k => by rw [List.take_zero]⟩
theorem MetW.more {ks : List Key} {i : Nat} {L L2 : List Key} {k : Key} (m : MetW ks i L) (e : ks[i]? = some k) (a : Adds k L L2) : MetW ks (i + 1) L2 := by
  have etk : ks.take (i + 1) = ks.take i ++ [k] := by
    obtain ⟨h1, h2⟩ := List.getElem?_eq_some_iff.mp e
    rw [List.take_succ_eq_append_getElem h1, h2]
  by_cases q : k ∈ L
  · rw [a.old q]
    refine ⟨m.nd, Nat.le_succ_of_le m.len, fun j => ?_⟩
    rw [etk, List.mem_append, List.mem_singleton, m.mem j]
    exact ⟨.inl, fun h => h.elim id fun z => by rw [z]; exact (m.mem k).mp q⟩
  · have p := a.new q
    refine ⟨p.nodup_iff.mpr (List.nodup_cons.mpr ⟨q, m.nd⟩), by rw [p.length_eq, List.length_cons]; exact Nat.succ_le_succ m.len, fun j => ?_⟩
    rw [etk, List.mem_append, List.mem_singleton, p.mem_iff, List.mem_cons, m.mem j]
    exact Or.comm
end DL

set_option Elab.async false
set_option maxRecDepth 100000
set_option maxHeartbeats 3200000
namespace DL
open PySem PySem.Spec PyProof.Rows L2
/-! ### set(xs), xs tuples of ints and texts -/
/-- L: what the first i of ks are, each tuple once -/
structure MetM (ks : List MEnt) (i : Nat) (L : List MEnt) : Prop where
  len : L.length ≤ i
  sub : ∀ e ∈ L, e ∈ ks.take i
  all : ∀ e ∈ ks.take i, e.2 ∈ L.map (·.2)
theorem MetM.zero (ks : List MEnt) : MetM ks 0 [] := ⟨Nat.le_refl _, fun e h => (by cases h), fun e h => (by rw [List.take_zero] at h; cases h)⟩
theorem MetM.more {ks L L2 : List MEnt} {i : Nat} {e : MEnt} (m : MetM ks i L) (at' : ks[i]? = some e) (old : e.2 ∈ L.map (·.2) → L2 = L) (new : e.2 ∉ L.map (·.2) → L2.Perm (e :: L)) : MetM ks (i + 1) L2 := by
  have tk : ks.take (i + 1) = ks.take i ++ [e] := by
    obtain ⟨h1, h2⟩ := List.getElem?_eq_some_iff.mp at'
    rw [List.take_succ_eq_append_getElem h1, h2]
  by_cases q : e.2 ∈ L.map (·.2)
  · rw [old q]
    refine ⟨Nat.le_succ_of_le m.len, fun d hd => by rw [tk]; exact List.mem_append_left _ (m.sub d hd), fun d hd => ?_⟩
    rw [tk] at hd
    rcases List.mem_append.mp hd with h | h
    · exact m.all d h
    · rw [List.mem_singleton.mp h]
      exact q
  · have p := new q
    refine ⟨by rw [p.length_eq]; exact Nat.succ_le_succ m.len, fun d hd => ?_, fun d hd => ?_⟩
    · rw [tk]
      rcases List.mem_cons.mp (p.mem_iff.mp hd) with rfl | h
      · exact List.mem_append_right _ (List.mem_singleton.mpr rfl)
      · exact List.mem_append_left _ (m.sub d h)
    · rw [tk] at hd
      refine (p.map (·.2)).mem_iff.mpr ?_
      rcases List.mem_append.mp hd with h | h
      · exact List.mem_cons_of_mem _ (m.all d h)
      · rw [List.mem_singleton.mp h]
        exact List.mem_cons_self
section
variable {P : Program} {w : World} {A : Around} {E : Value → Shared → Prop} {s : Shared}
theorem IsM.keep {h h' : Heap} {k : List Key} {b : Addr} (x : IsM P w h k b) (kp : ∀ c o, h.get? c = some o → h'.get? c = some o) : IsM P w h' k b := by
  obtain ⟨o, its, m, g, r⟩ := x
  exact ⟨o, its, m, kp b o g, r⟩
theorem SetM.keep {h h' : Heap} {a : Addr} {L : List MEnt} {es : Array (Int × Value)} {ep : Nat} {t : SetTable} (R : SetM P w h a L es ep t) (g : ∀ o, h.get? a = some o → h'.get? a = some o) (m : ∀ e ∈ L, IsM P w h' e.2 e.1) : SetM P w h' a L es ep t := by
  obtain ⟨o, go, r⟩ := R.obj
  exact ⟨⟨o, g o go, r⟩, R.rows, R.tab, R.nd, m, R.led, R.room, R.few⟩
theorem setM_bare {h : Heap} {a : Addr} (g : h.get? a = some (bareS w)) : SetM P w h a [] #[] 0 (.fresh 0 0 (!w.params.followText "set-order")) := by
  refine ⟨⟨_, g, ⟨rfl, rfl, rfl⟩, rfl⟩, rfl, ⟨List.Pairwise.nil, rfl, rfl, .inl rfl, fun x hx => (by cases hx), fun i h j hi => (by simp at hi)⟩, List.nodup_nil, fun e he => (by cases he), ?_, ?_, by decide⟩
  · cases q : w.params.followText "set-order" with
    | true => exact .inl rfl
    | false => exact .inr rfl
  · show 0 * 5 < 7 * 3
    decide
theorem pourM {It : Addr} {fp wr : List Addr} {G : Array GenState → Array GenState → Prop} {n : Nat} {Pv : Nat → Value → Prop} {St : Nat → Shared → Prop} {R : Result → Shared → Prop}
    (Wk : WalksS P w A.in1 It fp wr G n Pv St) {D : Addr} (out : D ∉ fp) (ks : List MEnt) (hn : n = ks.length) (few : ks.length < 64) (hv : ∀ i v, Pv i v → ∃ e, ks[i]? = some e ∧ v = .ref e.1)
    (h0 : Heap) (mem : ∀ e ∈ ks, IsM P w h0 e.2 e.1) (noD : h0.get? D = none) (noW : ∀ b ∈ wr, h0.get? b = none) (hu : A.in1.units < cLine) :
    ∀ (m i : Nat) (s : Shared), n - i = m → i ≤ n → St i s → (∀ b o, h0.get? b = some o → s.heap.get? b = some o) → (∃ L es ep t, SetM P w s.heap D L es ep t ∧ MetM ks i L) →
      (∀ s' L es ep t, Moved (D :: wr) G s s' → SetM P w s'.heap D L es ep t → MetM ks n L → R (.ok (.ret .none)) s') → codeAny (model P w) A (.builtin "set.update.loop" ⟨[.ref D, .ref It], []⟩) R s := by
  have outW : D ∉ wr := fun z => out (Wk.sub _ z)
  have wide : ∀ b ∈ wr, b ∈ D :: wr := fun b z => List.mem_cons_of_mem _ z
  have stays : ∀ {s s' : Shared}, Moved wr G s s' → (∀ b o, h0.get? b = some o → s.heap.get? b = some o) → ∀ b o, h0.get? b = some o → s'.heap.get? b = some o := fun mv kp b o e =>
    mv.heap b o (fun z => by rw [noW b z] at e; cases e) (kp b o e)
  intro m
  induction m with
  | zero =>
    intro i s em ei st kp ⟨L, es, ep, t, S, g⟩ hR
    obtain rfl : i = n := by omega
    refine codeAny_builtin F.entry_set_update_loop ?_ ; rw [Around.under_plainId F.plain_set_update_loop _]
    refine wpAny_bind (m := pyNext (.ref It)) (Wk.done s _ _ st fun s' mv => ?_)
    exact wpAny_pure (hR s' L es ep t (mv.mono wide) (S.keep (fun o e => mv.heap D o outW e) fun e he => (mem e (List.mem_of_mem_take (g.sub e he))).keep (stays mv kp)) g)
  | succ m ih =>
    intro i s em ei st kp ⟨L, es, ep, t, S, g⟩ hR
    have lt : i < n := by omega
    refine codeAny_builtin F.entry_set_update_loop ?_ ; rw [Around.under_plainId F.plain_set_update_loop _]
    refine wpAny_bind (m := pyNext (.ref It)) (Wk.item i s _ _ lt st fun v s' pv st' mv => ?_)
    obtain ⟨e, ek, rfl⟩ := hv i v pv
    have kp1 := stays mv kp
    have S1 : SetM P w s'.heap D L es ep t := S.keep (fun o e => mv.heap D o outW e) fun d hd => (mem d (List.mem_of_mem_take (g.sub d hd))).keep kp1
    have hx : IsM P w s'.heap e.2 e.1 := (mem e (List.mem_of_getElem? ek)).keep kp1
    show wpAny _ A.in1 (holding [Value.ref e.1] (setAdd D (.ref e.1)) >>= _) _ _ s'
    refine wpAny_bind (wpAny_holding ?_)
    unfold setAdd
    refine wpAny_holding (wpAny_bind (wpAny_pyHash_tuple hu hx ?_))
    refine addM (s := { s' with toks := s'.toks + (e.2.length + 1) }) S1 hx hu (by have := g.len; omega) fun b h' L2 es2 ep2 t2 sb S2 c1 c2 => ?_
    have same : ∀ c o, c ≠ D → s'.heap.get? c = some o → h'.get? c = some o := fun c o ne e => (sb.2 c ne).trans e
    have kp2 : ∀ b o, h0.get? b = some o → h'.get? b = some o := fun b o z => same b o (fun y => by rw [y, noD] at z; cases z) (kp1 b o z)
    refine wpAny_pure ⟨plainId_quiet F.plain_set_update_loop _, ih (i + 1) _ (by omega) lt (Wk.frame _ s' _ _ st' (Nat.le_add_right _ _) fun c hc o e => same c o (fun z => out (z ▸ hc)) e) kp2 ⟨L2, es2, ep2, t2, S2, g.more ek c1 c2⟩ fun s2 L3 es3 ep3 t3 mv2 S3 g3 => ?_⟩
    exact hR s2 L3 es3 ep3 t3 (Moved.trans Wk.gtrans ((mv.mono wide).then_heap (Nat.le_add_right _ _) fun c o hc e => same c o (fun z => hc (by rw [z]; exact List.mem_cons_self)) e) mv2) S3 g3
end
end DL

set_option Elab.async false
set_option maxRecDepth 100000
set_option maxHeartbeats 3200000
namespace DL
open PySem PySem.Spec PyProof.Rows L2
/-! ### set(xs), xs a tuple of tuples -/
theorem call_setM_tup {P : Program} {w : World} {A : Around} {E : Value → Shared → Prop} {s : Shared} {l : Addr} {items : Array Value} (ks : List MEnt) {Q : Value → Shared → Prop} (hh : A.handled = none) (hl : s.heap.IsTuple l items) (ev : items.toList = ks.map fun e => Value.ref e.1)
    (mem : ∀ e ∈ ks, IsM P w s.heap e.2 e.1) (few : ks.length < 64) (hu : A.units + 3 < cLine)
    (h : ∀ (h' : Heap) (tk : Nat) L es ep t, SetM P w h' s.heap.objs.size L es ep t → MetM ks ks.length L → (∀ b o, s.heap.get? b = some o → h'.get? b = some o) → Q (.ref s.heap.objs.size) { s with heap := h', toks := tk }) :
    wpAny (model P w) A (call (.type "set") [.ref l]) Q E s := by
  have size : items.size = ks.length := by rw [← Array.length_toList, ev, List.length_map]
  obtain ⟨c, tl, hmro⟩ := F.called_set.mro
  have hmade := F.called_set.made ; have hsub := F.called_set.sub
  refine wpAny_call (codeAny_of_tree ?_)
  show wpAny _ _ (callAny (.type "set") _) _ _ _
  refine wpAny_pure ⟨Code.quiet_builtin _ (by decide +kernel), codeAny_builtin F.entry_type_call ?_⟩ ; rw [Around.under_plain (weight_type_call_type "set" [.ref l] []) rfl]
  have h1 := F.called_set.notType ; have h2 := F.called_set.canCreate ; have hct := F.typeCall_set_1 (.ref l)
  repeat (any_goals (first | assumption | wp_step))
  generalize eN : s.heap.push (bareS w) = hN
  have sN : hN.objs.size = s.heap.objs.size + 1 := by rw [← eN]; exact Heap.size_push ..
  have kN : ∀ b o, s.heap.get? b = some o → hN.get? b = some o := fun b o e => by rw [← eN]; exact Heap.get?_push_of_some _ e
  have gN : hN.get? s.heap.objs.size = some (bareS w) := by rw [← eN]; exact Heap.get?_push_size _ rfl
  refine codeAny_mono (code_set_led1 (.ref l) (E := E) (Q₁ := fun obj s₁ => obj = .ref s.heap.objs.size ∧ s₁ = { s with heap := hN }) ⟨rfl, by rw [eN]⟩) fun r s₁ hr => ?_
  match r, hr with
  | .error e, hr => exact hr
  | .ok (.ret obj), hr =>
    obtain ⟨rfl, rfl⟩ := hr
    have hT : Shared.TypeIs { s with heap := hN } (.ref s.heap.objs.size) "set" := ⟨_, gN, rfl⟩
    have hli := F.called_set.init.lookup ; have hbi := F.called_set.init.bind (.ref s.heap.objs.size)
    repeat (any_goals (first | assumption | wp_step))
    refine codeAny_mono (codeAny_call_builtin (R := wants (fun r s₂ => r = .none ∧ ∃ h' tk L es ep t, s₂ = { s with heap := h', toks := tk } ∧ SetM P w h' s.heap.objs.size L es ep t ∧ MetM ks ks.length L ∧ (∀ b o, s.heap.get? b = some o → h'.get? b = some o)) E)
        F.called_set.init.plain F.entry_set_init (check_set_init_1 hT ?_)) fun r₂ s₂ hr₂ => ?_
    · obtain ⟨⟨ocls, odict, odata, oslots⟩, hol, hcl, nl, hdl⟩ := hl
      simp only at hcl hdl
      subst hcl; subst hdl
      have gl : hN.get? l = some { cls := .type "tuple", dict := odict, data := .seq items nl, slots := oslots } := kN _ _ hol
      have c1 := F.sub_tuple_set ; have c2 := F.sub_tuple_frozenset ; have c3 : (Value.type "tuple" == Value.type "dict") = false := by decide
      have lN : hN.IsTuple l items := ⟨_, gl, rfl, nl, rfl⟩
      unfold Builtin.«set.__init__» noKeywords Builtin.Frozenset.updateFrom
      generalize hPI : pyIter = PI
      wp_walk
      subst hPI
      refine wpAny_pyIter_tuple lN (wpAny_bind (wpAny_runValue ?_))
      have ltl : l < s.heap.objs.size := Heap.lt_size hol
      have calm : A.in1.in1.in1.handled = none := by simp [hh]
      have neI : l ≠ hN.objs.size := by rw [sN]; exact Nat.ne_of_lt (Nat.lt_succ_of_lt ltl)
      have out : s.heap.objs.size ∉ [hN.objs.size, l] := by
        rw [sN]
        simp only [List.mem_cons, List.not_mem_nil, or_false, not_or]
        exact ⟨Nat.ne_of_lt (Nat.lt_succ_self _), Nat.ne_of_gt ltl⟩
      have vac : ∀ b, s.heap.objs.size ≤ b → s.heap.get? b = none := fun b hb => by
        cases q : s.heap.get? b with
        | none => rfl
        | some o => exact absurd (Nat.lt_of_lt_of_le (Heap.lt_size q) hb) (Nat.lt_irrefl _)
      refine pourM ((Walks.tuple calm _ l neI items).toS) out ks size few (fun i v z => ?_) s.heap mem (vac _ (Nat.le_refl _)) (fun b hb => vac b ?_) hu (items.size - 0) 0 _ (by omega) (Nat.zero_le _) ⟨⟨_, Heap.get?_push_size _ rfl, rfl, rfl⟩, (lN.push _)⟩ (fun b o e => Heap.get?_push_of_some _ (kN b o e)) ⟨[], #[], 0, _, setM_bare (Heap.get?_push_of_some _ gN), MetM.zero ks⟩ ?_
      · have q : items.toList[i]? = some v := by rw [Array.getElem?_toList]; exact z
        rw [ev, List.getElem?_map] at q
        cases y : ks[i]? with
        | none => rw [y] at q; cases q
        | some e =>
          rw [y] at q
          exact ⟨e, rfl, (Option.some.inj q).symm⟩
      · rw [List.mem_singleton.mp hb, sN]
        exact Nat.le_succ _
      · intro s' L es ep t mv S' g'
        obtain ⟨h', g2, d', tk', os'⟩ := s'
        obtain rfl : g2 = s.gens := mv.gens
        obtain rfl : d' = s.drawn := mv.drawn
        obtain rfl : os' = s.os := mv.os
        rw [size] at g'
        refine wpAny_pure (wpAny_pure ⟨rfl, h', tk', L, es, ep, t, rfl, S', g', fun b o e => ?_⟩)
        have lt := Heap.lt_size e
        refine mv.heap b o (fun z => ?_) (Heap.get?_push_of_some _ (kN b o e))
        rcases List.mem_cons.mp z with z | z
        · exact Nat.lt_irrefl _ (z ▸ lt)
        · have e2 : b = s.heap.objs.size + 1 := (List.mem_singleton.mp z).trans sN
          exact Nat.lt_irrefl _ (Nat.lt_of_succ_lt (e2 ▸ lt))
    · match r₂, hr₂ with
      | .error e, hr₂ => exact hr₂
      | .ok (.ret r), hr₂ =>
        obtain ⟨rfl, h', tk, L, es, ep, t, rfl, S', g', k'⟩ := hr₂
        repeat (any_goals (first | assumption | wp_step))
        exact h _ _ _ _ _ _ S' g' k'
end DL

set_option Elab.async false
set_option maxRecDepth 100000
set_option maxHeartbeats 3200000
namespace DL
open PySem PySem.Spec PyProof.Rows L2
/-! ### set(xs), xs a list of tuples -/
theorem call_setM_lst {P : Program} {w : World} {A : Around} {E : Value → Shared → Prop} {s : Shared} {l : Addr} {items : Array Value} (ks : List MEnt) {Q : Value → Shared → Prop} (hh : A.handled = none) (hl : s.heap.IsList l items) (ev : items.toList = ks.map fun e => Value.ref e.1)
    (mem : ∀ e ∈ ks, IsM P w s.heap e.2 e.1) (few : ks.length < 64) (hu : A.units + 3 < cLine)
    (h : ∀ (h' : Heap) (tk : Nat) L es ep t, SetM P w h' s.heap.objs.size L es ep t → MetM ks ks.length L → (∀ b o, s.heap.get? b = some o → h'.get? b = some o) → Q (.ref s.heap.objs.size) { s with heap := h', toks := tk }) :
    wpAny (model P w) A (call (.type "set") [.ref l]) Q E s := by
  have size : items.size = ks.length := by rw [← Array.length_toList, ev, List.length_map]
  obtain ⟨c, tl, hmro⟩ := F.called_set.mro
  have hmade := F.called_set.made ; have hsub := F.called_set.sub
  refine wpAny_call (codeAny_of_tree ?_)
  show wpAny _ _ (callAny (.type "set") _) _ _ _
  refine wpAny_pure ⟨Code.quiet_builtin _ (by decide +kernel), codeAny_builtin F.entry_type_call ?_⟩ ; rw [Around.under_plain (weight_type_call_type "set" [.ref l] []) rfl]
  have h1 := F.called_set.notType ; have h2 := F.called_set.canCreate ; have hct := F.typeCall_set_1 (.ref l)
  repeat (any_goals (first | assumption | wp_step))
  generalize eN : s.heap.push (bareS w) = hN
  have sN : hN.objs.size = s.heap.objs.size + 1 := by rw [← eN]; exact Heap.size_push ..
  have kN : ∀ b o, s.heap.get? b = some o → hN.get? b = some o := fun b o e => by rw [← eN]; exact Heap.get?_push_of_some _ e
  have gN : hN.get? s.heap.objs.size = some (bareS w) := by rw [← eN]; exact Heap.get?_push_size _ rfl
  refine codeAny_mono (code_set_led1 (.ref l) (E := E) (Q₁ := fun obj s₁ => obj = .ref s.heap.objs.size ∧ s₁ = { s with heap := hN }) ⟨rfl, by rw [eN]⟩) fun r s₁ hr => ?_
  match r, hr with
  | .error e, hr => exact hr
  | .ok (.ret obj), hr =>
    obtain ⟨rfl, rfl⟩ := hr
    have hT : Shared.TypeIs { s with heap := hN } (.ref s.heap.objs.size) "set" := ⟨_, gN, rfl⟩
    have hli := F.called_set.init.lookup ; have hbi := F.called_set.init.bind (.ref s.heap.objs.size)
    repeat (any_goals (first | assumption | wp_step))
    refine codeAny_mono (codeAny_call_builtin (R := wants (fun r s₂ => r = .none ∧ ∃ h' tk L es ep t, s₂ = { s with heap := h', toks := tk } ∧ SetM P w h' s.heap.objs.size L es ep t ∧ MetM ks ks.length L ∧ (∀ b o, s.heap.get? b = some o → h'.get? b = some o)) E)
        F.called_set.init.plain F.entry_set_init (check_set_init_1 hT ?_)) fun r₂ s₂ hr₂ => ?_
    · obtain ⟨⟨ocls, odict, odata, oslots⟩, hol, hcl, nl, hdl⟩ := hl
      simp only at hcl hdl
      subst hcl; subst hdl
      have gl : hN.get? l = some { cls := .type "list", dict := odict, data := .seq items nl, slots := oslots } := kN _ _ hol
      have c1 := F.sub_list_set ; have c2 := F.sub_list_frozenset ; have c3 : (Value.type "list" == Value.type "dict") = false := by decide
      have lN : hN.IsList l items := ⟨_, gl, rfl, nl, rfl⟩
      unfold Builtin.«set.__init__» noKeywords Builtin.Frozenset.updateFrom
      generalize hPI : pyIter = PI
      wp_walk
      subst hPI
      refine wpAny_pyIter_list lN (wpAny_bind (wpAny_runValue ?_))
      have ltl : l < s.heap.objs.size := Heap.lt_size hol
      have calm : A.in1.in1.in1.handled = none := by simp [hh]
      have neI : l ≠ hN.objs.size := by rw [sN]; exact Nat.ne_of_lt (Nat.lt_succ_of_lt ltl)
      have out : s.heap.objs.size ∉ [hN.objs.size, l] := by
        rw [sN]
        simp only [List.mem_cons, List.not_mem_nil, or_false, not_or]
        exact ⟨Nat.ne_of_lt (Nat.lt_succ_self _), Nat.ne_of_gt ltl⟩
      have vac : ∀ b, s.heap.objs.size ≤ b → s.heap.get? b = none := fun b hb => by
        cases q : s.heap.get? b with
        | none => rfl
        | some o => exact absurd (Nat.lt_of_lt_of_le (Heap.lt_size q) hb) (Nat.lt_irrefl _)
      refine pourM ((Walks.list calm _ l neI items).toS) out ks size few (fun i v z => ?_) s.heap mem (vac _ (Nat.le_refl _)) (fun b hb => vac b ?_) hu (items.size - 0) 0 _ (by omega) (Nat.zero_le _) ⟨⟨_, Heap.get?_push_size _ rfl, rfl, rfl⟩, (lN.push _)⟩ (fun b o e => Heap.get?_push_of_some _ (kN b o e)) ⟨[], #[], 0, _, setM_bare (Heap.get?_push_of_some _ gN), MetM.zero ks⟩ ?_
      · have q : items.toList[i]? = some v := by rw [Array.getElem?_toList]; exact z
        rw [ev, List.getElem?_map] at q
        cases y : ks[i]? with
        | none => rw [y] at q; cases q
        | some e =>
          rw [y] at q
          exact ⟨e, rfl, (Option.some.inj q).symm⟩
      · rw [List.mem_singleton.mp hb, sN]
        exact Nat.le_succ _
      · intro s' L es ep t mv S' g'
        obtain ⟨h', g2, d', tk', os'⟩ := s'
        obtain rfl : g2 = s.gens := mv.gens
        obtain rfl : d' = s.drawn := mv.drawn
        obtain rfl : os' = s.os := mv.os
        rw [size] at g'
        refine wpAny_pure (wpAny_pure ⟨rfl, h', tk', L, es, ep, t, rfl, S', g', fun b o e => ?_⟩)
        have lt := Heap.lt_size e
        refine mv.heap b o (fun z => ?_) (Heap.get?_push_of_some _ (kN b o e))
        rcases List.mem_cons.mp z with z | z
        · exact Nat.lt_irrefl _ (z ▸ lt)
        · have e2 : b = s.heap.objs.size + 1 := (List.mem_singleton.mp z).trans sN
          exact Nat.lt_irrefl _ (Nat.lt_of_succ_lt (e2 ▸ lt))
    · match r₂, hr₂ with
      | .error e, hr₂ => exact hr₂
      | .ok (.ret r), hr₂ =>
        obtain ⟨rfl, h', tk, L, es, ep, t, rfl, S', g', k'⟩ := hr₂
        repeat (any_goals (first | assumption | wp_step))
        exact h _ _ _ _ _ _ S' g' k'
end DL

set_option Elab.async false
set_option maxRecDepth 100000
set_option maxHeartbeats 3200000
namespace DL
open PySem PySem.Spec PyProof.Rows L2
/-! ### sets of bars: set(..) and sorted(..) -/
structure SetM0 (P : Program) (w : World) (h : Heap) (a : Addr) (L : List MEnt) : Prop where
  h : ∃ (es : Array (Int × Value)) (ep : Nat) (t : SetTable), (∃ o, h.get? a = some o ∧ o.ExactSet ∧ o.data = .set es ep t) ∧ es.toList = L.map (rowM P w) ∧ TabOk t (L.map fun e => hM P w e.2) ∧ (L.map (·.2)).Nodup ∧
    (w.params.followText "set-order" = true ∨ t.led = true) ∧ L.length * 5 < t.mask * 3 ∧ L.length < 64
def SetMO (P : Program) (w : World) (a : Addr) (L : List MEnt) : HO := .ext fun h => SetM0 P w h a L
theorem SetM.bare {P : Program} {w : World} {h : Heap} {a : Addr} {L : List MEnt} {es : Array (Int × Value)} {ep : Nat} {t : SetTable} (R : SetM P w h a L es ep t) : SetM0 P w h a L := ⟨⟨es, ep, t, R.obj, R.rows, R.tab, R.nd, R.led, R.room, R.few⟩⟩
theorem SetM0.whole {P : Program} {w : World} {h : Heap} {a : Addr} {L : List MEnt} (R : SetM0 P w h a L) (m : ∀ e ∈ L, IsM P w h e.2 e.1) : ∃ es ep t, SetM P w h a L es ep t := by
  obtain ⟨es, ep, t, h1, h2, h3, h4, h5, h6, h7⟩ := R.h
  exact ⟨es, ep, t, h1, h2, h3, h4, m, h5, h6, h7⟩
theorem setMO_ok {P : Program} {w : World} {H : Hp} {h : Heap} {a : Addr} {L : List MEnt} (R : SetM0 P w h a L) : ObjOk P w H h a (SetMO P w a L) := by
  obtain ⟨_, _, _, ⟨o, g, _⟩, _⟩ := id R.h
  refine ⟨R, ⟨o, g⟩, fun _ _ p k => ?_⟩
  obtain ⟨es, ep, t, ⟨o2, g2, r⟩, q⟩ := (show SetM0 P w _ a L from p).h
  exact ⟨⟨es, ep, t, ⟨o2, k o2 g2, r⟩, q⟩⟩
theorem items_mix {P : Program} {w : World} : ∀ {k : List Key} {us : List Value}, Vals (k.map kV) us → ItemsAre (mixKind P w) k us
  | [], _, .nil => .nil
  | _ :: _, _, .cons r t => .cons (kV_is r) (items_mix t)
theorem refs_back : ∀ {ks : List MEnt} {us : List Value}, Vals (ks.map fun e => V.ref e.1) us → us = ks.map fun e => Value.ref e.1
  | [], _, .nil => rfl
  | e :: ks, _, .cons r t => by
    cases r
    rw [refs_back t]
    rfl
section
variable {X : Cx}
theorem inv_mix {pins : List (Addr × Obj)} {σ : L2.St} {H : Hp} {s : Shared} {b : Addr} {k : List Key} (I : Inv X pins σ H s) (h : SqT X.K H b (k.map kV)) : IsM X.prog X.w s.heap k b := by
  obtain ⟨its, r, ⟨o, g, c, n, d⟩, _⟩ := I.tuple h
  exact ⟨o, its.toArray, n, g, c, d, by simpa using items_mix r⟩
def rSetM (K : PySem.W.Frag) (P : Program) (w : World) : List V → Hp → VK → Prop := fun xs H Q => ∃ (l : Addr) (ks : List MEnt), xs = [V.ref l] ∧ (SqL K H l (ks.map fun e => V.ref e.1) ∨ SqT K H l (ks.map fun e => V.ref e.1)) ∧ (∀ e ∈ ks, SqT K H e.1 (e.2.map kV)) ∧ ks.length < 64 ∧
  ∀ a L, H a = none → (∀ e ∈ L, e ∈ ks) → (∀ e ∈ ks, e.2 ∈ L.map (·.2)) → (L.map (·.2)).Nodup → Q (.ref a) (upd H a (SetMO P w a L))
theorem cr_setM (hc : X.calm = true) (hu : X.A.units + 64 < cLine) : CallR X (.type "set") (rSetM X.K X.prog X.w) := by
  intro pins s σ H xs us Q I r h
  obtain ⟨l, ks, rfl, hl, hk, few, q⟩ := h
  rw [Vals.ref1 r]
  have no : H s.heap.objs.size = none := I.hok.fresh (Nat.le_refl _)
  have fin : ∀ (h' : Heap) (tk : Nat) L es ep t, SetM X.prog X.w h' s.heap.objs.size L es ep t → MetM ks ks.length L → (∀ b o, s.heap.get? b = some o → h'.get? b = some o) →
      ∃ v H', Inv X pins σ H' { s with heap := h', toks := tk } ∧ RelV v (Value.ref s.heap.objs.size) ∧ Q v H' := fun h' tk L es ep t R g k =>
    ⟨.ref s.heap.objs.size, upd H s.heap.objs.size (SetMO X.prog X.w s.heap.objs.size L), I.laid (t' := tk) k (Nat.le_refl _) (setMO_ok R.bare), rfl, q _ L no (fun e he => List.mem_of_mem_take (g.sub e he)) (fun e he => g.all e (by rw [List.take_length]; exact he)) R.nd⟩
  rcases hl with hl | hl
  · obtain ⟨its, rv, pl, _⟩ := I.list hl
    exact call_setM_lst (P := X.prog) (w := X.w) ks (I.ok.hd hc) pl.isList (by simpa using refs_back rv) (fun e he => inv_mix I (hk e he)) few (by omega) fin
  · obtain ⟨its, rv, ⟨o, g, c, n, d⟩, _⟩ := I.tuple hl
    exact call_setM_tup (P := X.prog) (w := X.w) ks (I.ok.hd hc) ⟨o, g, c, n, d⟩ (by simpa using refs_back rv) (fun e he => inv_mix I (hk e he)) few (by omega) fin
/-- sorted(set), its members bars -/
def rSortM (P : Program) (w : World) : List V → Hp → VK → Prop := fun vs H Q => ∃ (a : Addr) (bs : List (Addr × Bar)), vs = [V.ref a] ∧ H a = some (SetMO P w a (bs.map fun b => (b.1, b.2.key))) ∧ (∀ b ∈ bs, H b.1 = some (.tup b.2.vs) ∧ b.2.low) ∧
  ∀ (ks : List (Addr × Bar)) (p : Addr), ks.Perm bs → ks.Pairwise (fun x y => x.2.code ≤ y.2.code) → H p = none → Q (.ref p) (upd H p (.lst (ks.map fun k => V.ref k.1)))
def adB (H : Hp) (v : Value) : Addr × Bar := ((match v with | .ref a => a | _ => 0 : Addr), barAt H (backV v))
theorem adB_of {H : Hp} {b : Addr × Bar} (h : H b.1 = some (.tup b.2.vs)) : adB H (.ref b.1) = b := by
  show (b.1, barAt H (.ref b.1)) = b
  rw [barAt_of h]
theorem isBar_of {pins : List (Addr × Obj)} {σ : L2.St} {H : Hp} {s : Shared} {a : Addr} {b : Bar} (I : Inv X pins σ H s) (h : H a = some (.tup b.vs)) : IsBarV s.heap (.ref a) b := by
  obtain ⟨_, its, rv, oo, h1, h2, n, h3⟩ := (show ObjOk X.prog X.w H s.heap a (.tup b.vs) from I.hok a _ h)
  cases rv with
  | cons r1 rv =>
    cases rv with
    | cons r2 rv =>
      cases rv with
      | cons r3 rv =>
        cases rv with
        | cons r4 rv =>
          cases rv
          obtain ⟨t1, rfl⟩ := r1
          obtain ⟨t2, rfl⟩ := r2
          obtain ⟨t3, rfl⟩ := r3
          obtain ⟨t4, rfl⟩ := r4
          exact ⟨a, oo, t1, t2, t3, t4, n, rfl, h1, h2, h3⟩
theorem cr_sortM (calm : X.calm = true) : CallR X (.builtin "sorted") (rSortM X.prog X.w) := by
  intro pins s σ H vs us Q I r h
  obtain ⟨a, bs, rfl, ha, hb, q⟩ := h
  rw [Vals.ref1 r]
  have R0 : SetM0 X.prog X.w s.heap a (bs.map fun b => (b.1, b.2.key)) := (I.hok a _ ha).1
  obtain ⟨es, ep, t, R⟩ := R0.whole fun e he => by
    obtain ⟨b, hbm, rfl⟩ := List.mem_map.mp he
    exact inv_mix I (SqT.of' (by rw [Bar.key_vs]; exact (hb b hbm).1))
  obtain ⟨o, ho, hx, hd⟩ := R.obj
  have few := R.few
  rw [List.length_map] at few
  refine Calls.call_function_entry PyProof.Rows.kind_sorted PyProof.Rows.plain_sorted PyProof.Rows.entry_sorted (PyProof.Rows.args_sorted1 _) ?_
  unfold Builtin.«sorted»
  refine wpAny_bind (m := checkCount "sorted" 1 1 _) (wpAny_pure ?_)
  refine wpAny_bind (collect_set (A := X.A.in1) (I.ok.hd calm) ⟨o, ho, hx.1, hd⟩ R.fit (by rw [rowsM_size R.rows, List.length_map]; exact Nat.lt_trans few (by decide)) R.tab.ris R.led fun s1 out keeps grown g1 o1 pm => ?_)
  have ees : es.toList.map (·.2) = bs.map fun b => Value.ref b.1 := by
    rw [R.rows, List.map_map, List.map_map]
    rfl
  rw [ees] at pm
  have hol : out.length ≤ sizeLine := by
    have h2 : (64 : Nat) ≤ sizeLine := by decide
    rw [pm.length_eq, List.length_map]
    omega
  refine wpAny_bind (wpAny_newList ?_ hol)
  have hoL : (s1.heap.push (seqObj "list" out.toArray 0)).get? s1.heap.objs.size = some (seqObj "list" out.toArray 0) := Heap.get?_push_size _ rfl
  have hbar : ∀ v ∈ out, IsBarV (s1.heap.push (seqObj "list" out.toArray 0)) v (barAt H (backV v)) ∧ (barAt H (backV v)).low := fun v hv => by
    obtain ⟨b, hbm, rfl⟩ := List.mem_map.mp (pm.mem_iff.mp hv)
    have e1 : barAt H (backV (Value.ref b.1)) = b.2 := barAt_of (hb b hbm).1
    rw [e1]
    exact ⟨(isBar_of I (hb b hbm).1).keeps fun c oo e _ => Heap.get?_push_of_some _ (keeps c oo e), (hb b hbm).2⟩
  refine wpAny_bind (wpAny_holding (wpAny_call_entry PyProof.Rows.slot_list_sort ⟨_, hoL, rfl⟩ PyProof.Rows.entry_list_sort
    (SrtO.list_sort_ord (s := { s1 with heap := s1.heap.push (seqObj "list" out.toArray 0) }) (swo_code fun v => barAt H (backV v)) hoL hol (fun h2 => ?_) fun out2 hs hp => ⟨_, rfl, ?_⟩)
    (PyProof.Rows.args_list_sort _)))
  · refine bars_sortableO (by omega) hbar fun oo e => ?_
    have e' : some oo = some (seqObj "list" out.toArray 0) := e.symm.trans hoL
    cases e'
    intro c
    exact absurd (Value.type.inj c) (by decide)
  · obtain ⟨e', he'⟩ := PyProof.Rows.sortedHeap_at (vs := out) (out := out2.toArray) hoL
    have pm2 : out2.Perm (bs.map fun b => Value.ref b.1) := hp.perm.trans pm
    have href : ∀ v ∈ out2, ∃ b ∈ bs, v = Value.ref b.1 := fun v hv => by
      obtain ⟨b, hbm, e⟩ := List.mem_map.mp (pm2.mem_iff.mp hv)
      exact ⟨b, hbm, e.symm⟩
    have e1 : out2.map backV = (out2.map (adB H)).map fun k => V.ref k.1 := by
      rw [List.map_map]
      refine List.map_congr_left fun v hv => ?_
      obtain ⟨b, _, rfl⟩ := href v hv
      rfl
    have pk : (out2.map (adB H)).Perm bs := by
      have z := pm2.map (adB H)
      have y : (bs.map fun b => Value.ref b.1).map (adB H) = bs := by
        rw [List.map_map]
        conv => rhs; rw [← List.map_id bs]
        exact List.map_congr_left fun b hbm => adB_of (hb b hbm).1
      rw [y] at z
      exact z
    have pw : (out2.map (adB H)).Pairwise fun x y => x.2.code ≤ y.2.code := by
      rw [List.pairwise_map]
      refine hs.imp fun {x y} z => ?_
      have z := of_decide_eq_false z
      show (barAt H (backV x)).code ≤ (barAt H (backV y)).code
      omega
    have hno : H s1.heap.objs.size = none := I.hok.fresh grown
    have oldk : ∀ b z, s.heap.get? b = some z → (sortedHeap (s1.heap.push (seqObj "list" out.toArray 0)) s1.heap.objs.size out out2.toArray).get? b = some z := fun b z e => by
      have e1 := keeps b z e
      have lt := Heap.lt_size e1
      rw [PyProof.Rows.sortedHeap_old (Nat.ne_of_lt lt) (by rw [size_push']; exact Nat.lt_succ_of_lt lt)]
      exact Heap.get?_push_of_some _ e1
    have J : Inv X pins σ (upd H s1.heap.objs.size (.lst (out2.map backV))) { s with heap := sortedHeap (s1.heap.push (seqObj "list" out.toArray 0)) s1.heap.objs.size out out2.toArray, gens := s1.gens, drawn := s1.drawn, toks := s1.toks } :=
      I.call (ch := []) (Un.laid oldk grown hno) (I.hok.laid oldk grown ⟨by rw [List.length_map, hp.perm.length_eq]; exact hol, out2, e', L2.vals_back fun v hv => by
        obtain ⟨b, _, e⟩ := href v hv
        exact ⟨b.1, e⟩, he'⟩) (by rw [g1]; exact I.bare) (fun _ z => nomatch z)
    have qq := q (out2.map (adB H)) s1.heap.objs.size pk pw hno
    rw [← e1] at qq
    have same : ({ s1 with heap := sortedHeap (s1.heap.push (seqObj "list" out.toArray 0)) s1.heap.objs.size out out2.toArray } : Shared) = { s with heap := sortedHeap (s1.heap.push (seqObj "list" out.toArray 0)) s1.heap.objs.size out out2.toArray, gens := s1.gens, drawn := s1.drawn, toks := s1.toks } := by
      cases s1
      cases s
      cases o1
      rfl
    refine wpAny_pure ⟨_, rfl, .ref s1.heap.objs.size, _, ?_, rfl, qq⟩
    rw [← same] at J
    exact J
end
end DL

set_option Elab.async false
set_option maxRecDepth 100000
set_option maxHeartbeats 1000000
namespace DL
open PySem L2 HT TL RZ
structure spNear (K : PySem.W.Frag) (vs : List V) (H : Hp) (Q : VK) (_ : XK) : Prop where
  h : ∃ (r sc p t : Addr) (ns : List Int) (N : Nat) (ks0 : List (Addr × Bar)), vs = [.ref r, .ref p] ∧ RowOk H r sc ∧ SqL K H sc (ns.map V.int) ∧ p ≠ r ∧ H p = some (.lst [.int N, .ref t]) ∧ BarsAt H t ks0 ∧ OkBars N (ks0.map (·.2)) ∧ 1 ≤ N ∧ N ≤ 7 ∧ ks0.length ≤ 13 ∧
    ∀ (p2 t2 : Addr) (ks : List (Addr × Bar)) (H' : Hp), p2 ≠ r → H' p2 = some (.lst [.int N, .ref t2]) → BarsAt H' t2 ks → OkBars N (ks.map (·.2)) → ks.length ≤ 63 → RowOk H' r sc → But r H H' → Q (.ref p2) H'
theorem keyedN {cs : List (Addr × Bar)} : ∀ {L : List MEnt}, (∀ e ∈ L, e ∈ cs.map fun b => (b.1, b.2.key)) → ∃ bs : List (Addr × Bar), L = bs.map (fun b => (b.1, b.2.key)) ∧ ∀ b ∈ bs, b ∈ cs
  | [], _ => ⟨[], rfl, fun b hb => (by cases hb)⟩
  | e :: L, h => by
    obtain ⟨bs, e1, h1⟩ := keyedN (L := L) fun d hd => h d (List.mem_cons_of_mem _ hd)
    obtain ⟨b, hb, e2⟩ := List.mem_map.mp (h e List.mem_cons_self)
    refine ⟨b :: bs, by rw [List.map_cons, ← e1, e2], fun d hd => ?_⟩
    rcases List.mem_cons.mp hd with rfl | hd
    · exact hb
    · exact h1 d hd
theorem nd_leN {α : Type} [DecidableEq α] : ∀ {L rs : List α}, L.Nodup → (∀ x ∈ L, x ∈ rs) → L.length ≤ rs.length
  | [], _, _, _ => Nat.zero_le _
  | a :: L, rs, nd, h => by
    rw [List.nodup_cons] at nd
    have ha := h a List.mem_cons_self
    have := nd_leN (rs := rs.erase a) nd.2 fun x hx => (List.mem_erase_of_ne (fun e : x = a => nd.1 (by rw [← e]; exact hx))).mpr (h x (List.mem_cons_of_mem _ hx))
    rw [List.length_erase_of_mem ha] at this
    have : 0 < rs.length := List.length_pos_of_mem ha
    rw [List.length_cons]
    omega
theorem erase_map {α β : Type} (f : α → β) : ∀ (l : List α) (k : Nat), (l.map f).eraseIdx k = (l.eraseIdx k).map f
  | [], _ => rfl
  | _ :: _, 0 => rfl
  | a :: l, k + 1 => by
    rw [List.map_cons, List.eraseIdx_cons_succ, List.eraseIdx_cons_succ, List.map_cons, erase_map f l k]
theorem eqv_nilL (l : List PyData) : PyData.eqv (.list l) (.list []) = l.isEmpty := by
  cases l <;> simp [PyData.eqv, PyData.eqvAll]
section
variable {P : Program} {w : World} {K : PySem.W.Frag} {mg : Str → Option Value} {base : Heap}
abbrev nLN : List Str := ["_law_row", "_law_d", "_law_bars", "_law_many", "_law_k", "_law_drawer", "_law_other"]
theorem scLN : FnScope nLN ["_law_row", "_law_d"] (defScope s__law_near) := ⟨rfl, rfl, rfl, by decide +kernel, rfl, by decide +kernel, by decide +kernel⟩
theorem ok_lawNear {f fT : Addr} {fd dT : FuncData} (F : Fun K "_law_near" "_law_near" s__law_near f fd) (T : Bt mg) (zL : mg "list" = none) (zS : mg "set" = none)
    (GT : FnOk P w K mg base CX0 1 fT dT ["_law_row", "_law_many"] (spTaken K)) (gT : mg "_law_taken" = some (.ref fT)) (kT : PySem.W.keepIn K (.ref fT) = true) (bT : Binds K dT ["_law_row", "_law_many"] []) : FnOk P w K mg base CX0 3 f fd ["_law_row", "_law_d"] (spNear K) := by
  refine F.ok scLN (fun vs H Q E h => ?_) (fun cdv A outer s H vs Q E hr h => ?_)
  · obtain ⟨r, sc, p, t, ns, N, ks0, rfl, _⟩ := h.h
    rfl
  · obtain ⟨r, sc, p, t, ns, N, ks0, rfl, R0, S0, npr, hp, hB, O, n1, n7, h13, k⟩ := h.h
    have hu : _ + 64 < cLine := hr.units
    refine ⟨_, pss_cons (ps_par (i := 2) (j := 3) (by rfl) scLN.nd rfl rfl (by decide) rfl rfl (pa_cons (pe_callTy call_list_of (by rfl) zL (by decide +kernel) (pa_cons (pe_ix ix_list (pv 1) pe_int (fun _ _ => rfl)) pa_nil)) (pa_cons (pe_ix ix_list (pv 1) pe_int (fun _ _ => rfl)) pa_nil)) (by rfl))
      (pss_cons (ps_for PassesOwn.never rfl (pi_range1 (by rfl) T.range (pa_cons (pe_op op_add pe_int (pe_call GT (hr.mono (by decide)) rfl gT kT bT .nil pass0 (pa_cons (pv 0) (pa_cons pe_int pa_nil)))) pa_nil)) (pg_name (i := 4) scLN.nd rfl (Or.inl rfl))
        (pss_one (ps_if (PW.pt (pw_and (pt_cmpR (op_neD hu) (pv 2) (pe_lst pa_nil) (nomark _)) (pw_and1 (pt_cmpR op_eq (pe_call GT (hr.mono (by decide)) rfl gT kT bT .nil pass0 (pa_cons (pv 0) (pa_cons pe_int pa_nil))) pe_int (nomark _)))))
          (pss_one (ps_expr (pe_bm PySem.F.plainAttrs_list PySem.F.slot_list_pop PySem.F.type_list_pop mt_popAt (pv 2) (pa_cons (pe_call GT (hr.mono (by decide)) rfl gT kT bT .nil pass0 (pa_cons (pv 0) (pa_cons (pe_callB call_len_seq (by rfl) T.len PySem.boot_len (pa_cons (pv 2) pa_nil)) pa_nil))) pa_nil))))
          (pss_one (ps_if (pt_cmpR op_gt (pv 3) pe_int (nomark _))
            (pss_cons (ps_set (i := 5) scLN.nd rfl (Or.inl rfl) (pe_call GT (hr.mono (by decide)) rfl gT kT bT .nil pass0 (pa_cons (pv 0) (pa_cons (pv 3) pa_nil))))
            (pss_cons (ps_set (i := 6) scLN.nd rfl (Or.inl rfl) (pe_op op_modN (pe_op op_add (pe_op op_add (pv 5) pe_int) (pe_call GT (hr.mono (by decide)) rfl gT kT bT .nil pass0 (pa_cons (pv 0) (pa_cons (pe_op op_sub (pv 3) pe_int) pa_nil)))) (pv 3)))
            (pss_one (ps_expr (pe_bm PySem.F.plainAttrs_list PySem.F.slot_list_append PySem.F.type_list_append mt_append (pv 2) (pa_cons
              (pe_tup (pa_cons (pv 5) (pa_cons (pe_ix ix_list (pe_lst (pa_cons pe_str (pa_cons pe_str pa_nil))) (pe_call GT (hr.mono (by decide)) rfl gT kT bT .nil pass0 (pa_cons (pv 0) (pa_cons pe_int pa_nil))) (fun _ _ => rfl))
                (pa_cons (pv 6) (pa_cons (pe_ix ix_list (pe_lst (pa_cons pe_str (pa_cons pe_str pa_nil))) (pe_call GT (hr.mono (by decide)) rfl gT kT bT .nil pass0 (pa_cons (pv 0) (pa_cons pe_int pa_nil))) (fun _ _ => rfl)) pa_nil))))) pa_nil)))))) pss_nil)))))
      (pss_one (ps_ret (pe_lst (pa_cons (pv 3) (pa_cons (pe_tupleOf (by rfl) T.tuple (pe_callB (cr_sortM rfl) (by rfl) T.sorted (by decide +kernel) (pa_cons
          (pe_callTy (cr_setM rfl hu) (by rfl) zS (by decide +kernel) (pa_cons (pv 2) pa_nil)) pa_nil))) pa_nil)))))), ?_⟩
    refine ⟨_, rfl, p, _, 1, .ref t, rfl, rfl, SqL.of hp, atI_nat (j := 1) rfl, t, _, rfl, .inr (SqT.of' hB.tu), fun D hD => ?_⟩
    have nDr : D ≠ r := by
      obtain ⟨_, _, _, q, _⟩ := id R0.h
      exact (ne_of_none q hD).symm
    have hok : ∀ k ∈ ks0, k.2.ok N := fun k hk => O.ok _ (List.mem_map.mpr ⟨k, hk, rfl⟩)
    have s1 := same_upd (o := .lst (ks0.map fun k => V.ref k.1)) hD
    refine ⟨_, rfl, p, _, 0, .int N, rfl, rfl, SqL.of (s1 _ _ hp), atI_nat (j := 0) rfl, ?_⟩
    have R1 := R0.same s1
    have B1 : But r H _ := sbut s1
    have hD1 : (upd H D (.lst (ks0.map fun k => V.ref k.1))) D = some (.lst (ks0.map fun k => V.ref k.1)) := upd_same
    have hk1 : ∀ k ∈ ks0, (upd H D (.lst (ks0.map fun k => V.ref k.1))) k.1 = some (.tup k.2.vs) := fun k hk => s1 _ _ (hB.el k hk)
    generalize (upd H D (.lst (ks0.map fun k => V.ref k.1))) = H1 at R1 B1 hD1 hk1 ⊢
    refine ⟨_, _, rfl, ?_⟩
    refine ⟨_, rfl, ⟨⟨r, sc, ns, 2, rfl, R1, B1.seqR R0 S0, by decide, by decide, fun v H2 v0 v1 R2 B2 => ?_⟩⟩⟩
    refine ⟨1, v, rfl, rfl, ?_⟩
    refine ⟨1 + v, rfl, by omega, by omega, ?_⟩
    obtain ⟨z1, z2, z3, hR1, _⟩ := id R1.h
    have B02 := B1.trans B2
    have hD2 := B2 _ _ nDr hD1
    have hk2 : ∀ k ∈ ks0, H2 k.1 = some (.tup k.2.vs) ∧ k.2.ok N := fun k hk => ⟨B2.tup hR1 (hk1 k hk), hok k hk⟩
    refine for_range (lo := 0) (n := (1 + v).toNat) (fun i σ H' => ∃ (cs : List (Addr × Bar)) (v4 v5 v6 : Option V), σ = [some (.ref r), some (.ref p), some (.ref D), some (.int N), v4, v5, v6] ∧ RowOk H' r sc ∧ But r H H' ∧
        H' D = some (.lst (cs.map fun k => V.ref k.1)) ∧ (∀ k ∈ cs, H' k.1 = some (.tup k.2.vs) ∧ k.2.ok N) ∧ cs.length ≤ 13 + i)
      ⟨ks0, _, _, _, rfl, R2, B02, hD2, hk2, by omega⟩ ?_ ?_
    · rintro i σ H3 hi ⟨cs, v4, v5, v6, rfl, R3, B3, hD3, hk3, hl⟩
      clear hD2 hk2 B02 R2 B2 hk1 hD1 B1 R1 hR1
      refine ⟨_, rfl, (by show 0 ≤ sizeLine; decide), fun e he => ?_⟩
      have s4 := same_upd (o := .lst []) he
      have R4 := R3.same s4
      have B4 := B3.trans (sbut s4)
      have hD4 := s4 _ _ hD3
      have hk4 : ∀ k ∈ cs, _ ∧ k.2.ok N := fun k hk => ⟨s4 _ _ (hk3 k hk).1, (hk3 k hk).2⟩
      refine ⟨_, _, .lst (SqL.of hD4) (dpAll_bars fun k hk => (hk4 k hk).1), .lst (SqL.of upd_same) .nil, dok_shaped (dok_list (dok_bars _)) (by decide), dok_shaped (dok_list (k := 1) (ds := []) fun d hd => by cases hd) (by decide), _, rfl, ?_⟩
      rw [eqv_nilL]
      generalize upd H3 e (.lst []) = H4 at R4 B4 hD4 hk4 ⊢
      clear hD3 hk3 R3 B3 s4 he
      cases hem : (cs.map fun k => barD k.2).isEmpty with
      | true =>
        refine iteF ?_
        refine ⟨_, rfl, _, _, rfl, rfl, _, rfl, ?_⟩
        refine ite2 (fun zn => ?_) (fun _ => ⟨cs, _, _, _, rfl, R4, B4, hD4, hk4, by omega⟩)
        have n2 : 1 < N := by
          have z : (1 : Int) < N := of_decide_eq_true zn
          omega
        obtain ⟨_, _, _, hRx, _⟩ := id (R4).h
        refine ⟨_, rfl, _, rfl, ⟨⟨r, sc, ns, N, rfl, R4, (B4).seqR R0 S0, by omega, by omega, fun d J1 d0 d1 Q1 C1 => ?_⟩⟩⟩
        refine ⟨_, rfl, _, _, rfl, rfl, ?_⟩
        refine ⟨_, rfl, ⟨_, rfl, _, _, rfl, rfl, ⟨⟨r, sc, ns, (N : Int) - 1, rfl, Q1, ((B4).trans C1).seqR R0 S0, by omega, by omega, fun x J2 x0 x1 Q2 C2 => ?_⟩⟩⟩⟩
        refine ⟨_, _, rfl, rfl, ?_⟩
        refine ⟨_, rfl, _, _, rfl, rfl, by omega, ?_⟩
        simp only []
        have C12 := C1.trans C2
        generalize hoth : Int.fmod (d + 1 + x) (N : Int) = oth
        have oo : 0 ≤ oth ∧ oth < N ∧ d ≠ oth := by
          rw [Int.fmod_eq_emod_of_nonneg _ (by omega)] at hoth
          rcases Int.lt_or_le (d + 1 + x) N with z | z
          · rw [Int.emod_eq_of_lt (by omega) z] at hoth
            omega
          · rw [← Int.sub_emod_right, Int.emod_eq_of_lt (by omega) (by omega)] at hoth
            omega
        refine ⟨_, rfl, .inl ⟨rfl, _, SqL.of (C12 _ _ nDr hD4)⟩, ?_⟩
        refine ⟨_, rfl, ?_⟩
        refine ⟨(by show 2 ≤ sizeLine; decide), fun l1 hl1 => ?_⟩
        have Q3 := Q2.same (same_upd (o := .lst [V.str "open", V.str "shut"]) hl1)
        have nl1 : l1 ≠ r := by
          obtain ⟨_, _, _, q, _⟩ := id Q2.h
          exact (ne_of_none q hl1).symm
        refine ⟨_, rfl, ⟨⟨r, sc, ns, 2, rfl, Q3, (((B4).trans C12).trans (sbut (same_upd hl1))).seqR R0 S0, by decide, by decide, fun y J3 y0 y1 Q4 C4 => ?_⟩⟩⟩
        obtain ⟨cw, hcw⟩ := two_at y0 y1
        refine ⟨l1, _, _, _, rfl, rfl, SqL.of (C4 _ _ nl1 upd_same), hcw, ?_⟩
        have C14 : But r _ J3 := (C12.trans (sbut (same_upd hl1))).trans C4
        refine ⟨_, rfl, ?_⟩
        refine ⟨(by show 2 ≤ sizeLine; decide), fun l2 hl2 => ?_⟩
        have Q5 := Q4.same (same_upd (o := .lst [V.str "open", V.str "shut"]) hl2)
        have nl2 : l2 ≠ r := by
          obtain ⟨_, _, _, q, _⟩ := id Q4.h
          exact (ne_of_none q hl2).symm
        refine ⟨_, rfl, ⟨⟨r, sc, ns, 2, rfl, Q5, (((B4).trans C14).trans (sbut (same_upd hl2))).seqR R0 S0, by decide, by decide, fun y2 J4 w0 w1 Q6 C6 => ?_⟩⟩⟩
        obtain ⟨ct, hct⟩ := two_at w0 w1
        refine ⟨l2, _, _, _, rfl, rfl, SqL.of (C6 _ _ nl2 upd_same), hct, ?_⟩
        have C16 : But r _ J4 := (C14.trans (sbut (same_upd hl2))).trans C6
        refine ⟨(by show 4 ≤ sizeLine; decide), fun tn htn => ?_⟩
        obtain ⟨s7, f7⟩ := new_at (o := .tup [V.int d, .str (wd cw), .int oth, .str (wd ct)]) htn
        generalize upd J4 tn (.tup [V.int d, .str (wd cw), .int oth, .str (wd ct)]) = J5 at s7 f7 ⊢
        have hD7 := s7 _ _ (C16 _ _ nDr hD4)
        have hK7 : ∀ k ∈ cs, J5 k.1 = some (.tup k.2.vs) ∧ k.2.ok N := fun k hk => ⟨s7 _ _ (C16.tup hRx (hk4 k hk).1), (hk4 k hk).2⟩
        refine ⟨D, _, _, rfl, rfl, hD7, by rw [List.length_map]; exact small1000 (by omega), ?_⟩
        refine ⟨cs ++ [(tn, ⟨d, cw, oth, ct⟩)], _, _, _, rfl, ?_, fun b o hb eb => ?_, ?_, fun e he => ?_, by rw [List.length_append, List.length_singleton]; omega⟩
        · obtain ⟨i', m', e', q1, q2⟩ := (Q6.same s7).h
          exact ⟨⟨i', m', e', by rw [upd_ne (Ne.symm nDr)]; exact q1, q2⟩⟩
        · rw [upd_ne (ne_of_none eb hD)]
          exact s7 _ _ (C16 _ _ hb (B4 _ _ hb eb))
        · rw [upd_same, List.map_append]
          rfl
        · rcases List.mem_append.mp he with h | h
          · have z := (hK7 e h).1
            exact ⟨by rw [upd_ne (ne_of z hD7 (by intro y; cases y))]; exact z, (hK7 e h).2⟩
          · rw [List.mem_singleton.mp h]
            exact ⟨by rw [upd_ne (ne_of f7 hD7 (by intro y; cases y))]; exact f7, d0, d1, oo.1, oo.2.1, oo.2.2⟩
      | false =>
        refine iteT ?_
        obtain ⟨_, _, _, hR4, _⟩ := id R4.h
        refine ⟨_, rfl, ⟨⟨r, sc, ns, 2, rfl, R4, B4.seqR R0 S0, by decide, by decide, fun u H5 w0 w1 R5 B5 => ?_⟩⟩⟩
        have B05 := B4.trans B5
        have hD5 := B5 _ _ nDr hD4
        have hk5 : ∀ k ∈ cs, H5 k.1 = some (.tup k.2.vs) ∧ k.2.ok N := fun k hk => ⟨B5.tup hR4 (hk4 k hk).1, (hk4 k hk).2⟩
        have hpos : 0 < cs.length := by
          cases cs with
          | nil => cases hem
          | cons a l => simp
        refine ⟨rfl, _, rfl, ?_⟩
        refine ite2 (fun _ => ?_) (fun _ => ?_)
        · refine ⟨_, rfl, .inl ⟨rfl, _, SqL.of hD5⟩, ?_⟩
          obtain ⟨_, _, _, hR5, _⟩ := id R5.h
          refine ⟨_, rfl, _, rfl, D, _, rfl, .inl (SqL.of hD5), ⟨⟨r, sc, ns, ((cs.map fun k => V.ref k.1).length : Nat), rfl, R5, B05.seqR R0 S0, by rw [List.length_map]; omega, by rw [List.length_map]; omega, fun x H6 x0 x1 R6 B6 => ?_⟩⟩⟩
          rw [List.length_map] at x1
          have hD6 := B6 _ _ nDr hD5
          have hk6 : ∀ k ∈ cs, H6 k.1 = some (.tup k.2.vs) ∧ k.2.ok N := fun k hk => ⟨B6.tup hR5 (hk5 k hk).1, (hk5 k hk).2⟩
          refine ⟨D, cs.map fun k => V.ref k.1, x, x.toNat, .ref (cs[x.toNat]'(by omega)).1, rfl, rfl, hD6, by omega, by omega, PySem.seqIndex_of x0 (by rw [List.length_map]; exact x1), ?_, ?_⟩
          · rw [List.getElem?_map, List.getElem?_eq_getElem (by omega : x.toNat < cs.length)]
            rfl
          · refine ⟨cs.eraseIdx x.toNat, _, _, _, rfl, ?_, fun b o hb eb => ?_, ?_, fun e he => ?_, ?_⟩
            · obtain ⟨i', m', e', q1, q2⟩ := R6.h
              exact ⟨⟨i', m', e', by rw [upd_ne (Ne.symm nDr)]; exact q1, q2⟩⟩
            · rw [upd_ne (ne_of_none eb hD)]
              exact B6 _ _ hb (B05 _ _ hb eb)
            · rw [upd_same, erase_map]
            · have z := hk6 e (List.mem_of_mem_eraseIdx he)
              exact ⟨by rw [upd_ne (ne_of z.1 hD6 (by intro y; cases y))]; exact z.1, z.2⟩
            · have := List.length_eraseIdx_le cs x.toNat
              omega
        · skip
          refine ⟨_, rfl, _, _, rfl, rfl, _, rfl, ?_⟩
          refine ite2 (fun zn => ?_) (fun _ => ⟨cs, _, _, _, rfl, R5, B05, hD5, hk5, by omega⟩)
          have n2 : 1 < N := by
            have z : (1 : Int) < N := of_decide_eq_true zn
            omega
          obtain ⟨_, _, _, hRx, _⟩ := id (R5).h
          refine ⟨_, rfl, _, rfl, ⟨⟨r, sc, ns, N, rfl, R5, (B05).seqR R0 S0, by omega, by omega, fun d J1 d0 d1 Q1 C1 => ?_⟩⟩⟩
          refine ⟨_, rfl, _, _, rfl, rfl, ?_⟩
          refine ⟨_, rfl, ⟨_, rfl, _, _, rfl, rfl, ⟨⟨r, sc, ns, (N : Int) - 1, rfl, Q1, ((B05).trans C1).seqR R0 S0, by omega, by omega, fun x J2 x0 x1 Q2 C2 => ?_⟩⟩⟩⟩
          refine ⟨_, _, rfl, rfl, ?_⟩
          refine ⟨_, rfl, _, _, rfl, rfl, by omega, ?_⟩
          simp only []
          have C12 := C1.trans C2
          generalize hoth : Int.fmod (d + 1 + x) (N : Int) = oth
          have oo : 0 ≤ oth ∧ oth < N ∧ d ≠ oth := by
            rw [Int.fmod_eq_emod_of_nonneg _ (by omega)] at hoth
            rcases Int.lt_or_le (d + 1 + x) N with z | z
            · rw [Int.emod_eq_of_lt (by omega) z] at hoth
              omega
            · rw [← Int.sub_emod_right, Int.emod_eq_of_lt (by omega) (by omega)] at hoth
              omega
          refine ⟨_, rfl, .inl ⟨rfl, _, SqL.of (C12 _ _ nDr hD5)⟩, ?_⟩
          refine ⟨_, rfl, ?_⟩
          refine ⟨(by show 2 ≤ sizeLine; decide), fun l1 hl1 => ?_⟩
          have Q3 := Q2.same (same_upd (o := .lst [V.str "open", V.str "shut"]) hl1)
          have nl1 : l1 ≠ r := by
            obtain ⟨_, _, _, q, _⟩ := id Q2.h
            exact (ne_of_none q hl1).symm
          refine ⟨_, rfl, ⟨⟨r, sc, ns, 2, rfl, Q3, (((B05).trans C12).trans (sbut (same_upd hl1))).seqR R0 S0, by decide, by decide, fun y J3 y0 y1 Q4 C4 => ?_⟩⟩⟩
          obtain ⟨cw, hcw⟩ := two_at y0 y1
          refine ⟨l1, _, _, _, rfl, rfl, SqL.of (C4 _ _ nl1 upd_same), hcw, ?_⟩
          have C14 : But r _ J3 := (C12.trans (sbut (same_upd hl1))).trans C4
          refine ⟨_, rfl, ?_⟩
          refine ⟨(by show 2 ≤ sizeLine; decide), fun l2 hl2 => ?_⟩
          have Q5 := Q4.same (same_upd (o := .lst [V.str "open", V.str "shut"]) hl2)
          have nl2 : l2 ≠ r := by
            obtain ⟨_, _, _, q, _⟩ := id Q4.h
            exact (ne_of_none q hl2).symm
          refine ⟨_, rfl, ⟨⟨r, sc, ns, 2, rfl, Q5, (((B05).trans C14).trans (sbut (same_upd hl2))).seqR R0 S0, by decide, by decide, fun y2 J4 w0 w1 Q6 C6 => ?_⟩⟩⟩
          obtain ⟨ct, hct⟩ := two_at w0 w1
          refine ⟨l2, _, _, _, rfl, rfl, SqL.of (C6 _ _ nl2 upd_same), hct, ?_⟩
          have C16 : But r _ J4 := (C14.trans (sbut (same_upd hl2))).trans C6
          refine ⟨(by show 4 ≤ sizeLine; decide), fun tn htn => ?_⟩
          obtain ⟨s7, f7⟩ := new_at (o := .tup [V.int d, .str (wd cw), .int oth, .str (wd ct)]) htn
          generalize upd J4 tn (.tup [V.int d, .str (wd cw), .int oth, .str (wd ct)]) = J5 at s7 f7 ⊢
          have hD7 := s7 _ _ (C16 _ _ nDr hD5)
          have hK7 : ∀ k ∈ cs, J5 k.1 = some (.tup k.2.vs) ∧ k.2.ok N := fun k hk => ⟨s7 _ _ (C16.tup hRx (hk5 k hk).1), (hk5 k hk).2⟩
          refine ⟨D, _, _, rfl, rfl, hD7, by rw [List.length_map]; exact small1000 (by omega), ?_⟩
          refine ⟨cs ++ [(tn, ⟨d, cw, oth, ct⟩)], _, _, _, rfl, ?_, fun b o hb eb => ?_, ?_, fun e he => ?_, by rw [List.length_append, List.length_singleton]; omega⟩
          · obtain ⟨i', m', e', q1, q2⟩ := (Q6.same s7).h
            exact ⟨⟨i', m', e', by rw [upd_ne (Ne.symm nDr)]; exact q1, q2⟩⟩
          · rw [upd_ne (ne_of_none eb hD)]
            exact s7 _ _ (C16 _ _ hb (B05 _ _ hb eb))
          · rw [upd_same, List.map_append]
            rfl
          · rcases List.mem_append.mp he with h | h
            · have z := (hK7 e h).1
              exact ⟨by rw [upd_ne (ne_of z hD7 (by intro y; cases y))]; exact z, (hK7 e h).2⟩
            · rw [List.mem_singleton.mp h]
              exact ⟨by rw [upd_ne (ne_of f7 hD7 (by intro y; cases y))]; exact f7, d0, d1, oo.1, oo.2.1, oo.2.2⟩
    · rintro σ H3 ⟨cs, v4, v5, v6, rfl, R3, B3, hD3, hk3, hl⟩
      have lcs : cs.length < 64 := by omega
      clear hD2 hk2 B02 R2 B2 hk1 hD1 B1 R1 hR1
      refine ⟨_, rfl, ?_⟩
      refine ⟨_, rfl, D, cs.map fun b => (b.1, b.2.key), rfl, .inl (by rw [List.map_map]; exact SqL.of hD3), fun e he => ?_, by rw [List.length_map]; exact lcs, fun sa L hsa hsub hall hnd => ?_⟩
      · obtain ⟨b, hb, rfl⟩ := List.mem_map.mp he
        exact SqT.of' (by rw [Bar.key_vs]; exact (hk3 b hb).1)
      obtain ⟨bs, rfl, hbs⟩ := keyedN hsub
      have s7 := same_upd (o := SetMO P w sa (bs.map fun b => (b.1, b.2.key))) hsa
      refine ⟨sa, bs, rfl, upd_same, fun b hb => ⟨s7 _ _ (hk3 b (hbs b hb)).1, (hk3 b (hbs b hb)).2.low (by omega)⟩, fun ks q2 perm pw hq2 => ?_⟩
      have hks : ∀ b ∈ ks, b ∈ cs := fun b hb => hbs b (perm.mem_iff.mp hb)
      have s8 := s7.trans (same_upd (o := .lst (ks.map fun k => V.ref k.1)) hq2)
      refine .inl ⟨q2, _, rfl, SqL.of upd_same, fun t2 ht2 => ?_⟩
      have s9 := s8.trans (same_upd (o := .tup (ks.map fun k => V.ref k.1)) ht2)
      refine ⟨(by show 2 ≤ sizeLine; decide), fun p2 hp2 => ?_⟩
      have s10 := s9.trans (same_upd (o := .lst [.int N, .ref t2]) hp2)
      have ndc : (ks.map (·.2.key)).Nodup := by
        have z := (perm.map fun b : Addr × Bar => b.2.key).nodup_iff.mpr
        rw [List.map_map] at hnd
        exact z hnd
      have lks : ks.length ≤ 63 := by
        have z : (ks.map (·.2.key)).length ≤ (cs.map (·.2.key)).length := nd_leN ndc fun y hy => by
          obtain ⟨b, hb, rfl⟩ := List.mem_map.mp hy
          exact List.mem_map.mpr ⟨b, hks b hb, rfl⟩
        rw [List.length_map, List.length_map] at z
        omega
      have npr2 : p2 ≠ r := by
        obtain ⟨_, _, _, q, _⟩ := id (R3.same s9).h
        exact (ne_of_none q hp2).symm
      refine k p2 t2 ks _ npr2 upd_same ⟨same_upd hp2 _ _ upd_same, fun b hb => s10 _ _ (hk3 b (hks b hb)).1⟩ ⟨fun b hb => ?_, ?_⟩ lks (R3.same s10) (B3.trans (sbut s10))
      · obtain ⟨e, he, rfl⟩ := List.mem_map.mp hb
        exact (hk3 e (hks e he)).2
      · rw [List.pairwise_map]
        have nd2 := List.pairwise_map.mp ndc
        refine List.Pairwise.imp_of_mem (fun {x y} hx hy h => ?_) (pw.and nd2)
        obtain ⟨h1, h2⟩ := h
        rcases Int.lt_or_eq_of_le h1 with z | z
        · exact z
        · exact absurd (congrArg Bar.key (Bar.code_inj ((hk3 x (hks x hx)).2.low (by omega)) ((hk3 y (hks y hy)).2.low (by omega)) z)) h2
end
end DL

set_option Elab.async false
set_option maxRecDepth 100000
set_option maxHeartbeats 1000000

set_option Elab.async false
set_option maxRecDepth 100000
set_option maxHeartbeats 1000000

set_option Elab.async false
set_option maxRecDepth 100000
set_option maxHeartbeats 1000000
namespace DL
open PySem L2 HT TL
/-! ### what is no cabinet -/
def NoCab (K : PySem.W.Frag) (C : Addr) (H : Hp) (v : V) : Prop := ∃ t, (∀ H', Same H H' → TyX K H' v t) ∧ PySem.W.kitOne K t (.ref C) = some false
theorem NoCab.same {K : PySem.W.Frag} {C : Addr} {H H' : Hp} {v : V} (h : NoCab K C H v) (s : Same H H') : NoCab K C H' v := by
  obtain ⟨t, h1, h2⟩ := h
  exact ⟨t, fun H2 s2 => h1 H2 (s.trans s2), h2⟩
section
variable {P : Program} {w : World} {K : PySem.W.Frag} {mg : Str → Option Value} {base : Heap}
theorem scN_fa : FnScope ["one", "other", "standing", "row", "drawer"] ["one", "other"] (defScope s_first_apart) := ⟨rfl, rfl, rfl, by decide +kernel, rfl, by decide +kernel, by decide +kernel⟩
theorem scN_al : FnScope ["one", "other"] ["one", "other"] (defScope s_alike) := ⟨rfl, rfl, rfl, by decide +kernel, rfl, by decide +kernel, by decide +kernel⟩
end
end DL

set_option Elab.async false
set_option maxRecDepth 100000
set_option maxHeartbeats 1000000
namespace DL
open PySem PySem.Spec PyProof.Rows L2 HT TL
/-! ### InvalidText, by its own __init__ -/
/-- whatever its fields and wherever -/
def exAny (C : Addr) (H : Hp) (E : XK) : Prop := ∀ d H', Same H H' → E (.ref C) d H'
theorem exAny.at' {C : Addr} {H H1 : Hp} {E : XK} (k : exAny C H E) (s : Same H H1) : exAny C H1 E := fun d H' s' => k d H' (s.trans s')
section
variable {P : Program} {w : World} {K : PySem.W.Frag} {mg : Str → Option Value} {base : Heap}
/-! ### Unlike -/
structure spUn (C CU : Addr) (vs : List V) (H : Hp) (_ : VK) (E : XK) : Prop where
  h : ∃ (c c2 t t2 : Addr) (n m : Int), vs = [.ref c, .ref c2] ∧ CabAt C H c n t ∧ CabAt C H c2 m t2 ∧ n ≠ m ∧ exAny CU H E
theorem ok_firstApartU {f f0 C CU : Addr} {fd fd0 : FuncData} (F : Fun K "first_apart" "first_apart" s_first_apart f fd) (CP : CabP P w K mg base C) (BT : ErrT K mg "Unlike" CU)
    (G0 : FnOk P w K mg base CX0 1 f0 fd0 ["cabinet"] (spCkCab C)) (g0 : mg "check_cabinet" = some (.ref f0)) (k0 : PySem.W.keepIn K (.ref f0) = true) (b0 : Binds K fd0 ["cabinet"] []) :
    FnOk P w K mg base (L2.CX P w) 4 f fd ["one", "other"] (spUn C CU) := by
  refine F.okX scN_fa (fun vs H Q E h => ?_) (fun cdv A outer s H vs Q E hr h => ?_)
  · obtain ⟨c, c2, t, t2, n, m, rfl, _⟩ := h.h
    rfl
  · obtain ⟨c, c2, t, t2, n, m, rfl, ⟨dx, hc⟩, ⟨dx2, hc2⟩, ne, k⟩ := h.h
    obtain ⟨pD, gD, fdD, hpD, GD, bD⟩ := CP.d
    refine ⟨_, pss_cons (ps_expr (pe_call G0 (hr.mono (by decide)) rfl g0 k0 b0 .nil pass0 (pa_cons (pv 0) pa_nil)))
      (pss_cons (ps_expr (pe_call G0 (hr.mono (by decide)) rfl g0 k0 b0 .nil pass0 (pa_cons (pv 1) pa_nil)))
      (pss_cons (ps_if (pt_cmpR op_ne (pe_prop (pv 0) CP.cl hpD GD (hr.mono (by decide)) bD .nil pass0 rfl) (pe_prop (pv 1) CP.cl hpD GD (hr.mono (by decide)) bD .nil pass0 rfl) (nomark _))
        (pss_one (ps_raise rfl (takes_of rfl rfl rfl rfl) (pmk_own PySem.F.excBase_ValueError BT.x BT.g BT.k (raises_own BT.b BT.t) (by exact rfl)))) pss_nil) pss_never)), ?_⟩
    refine ⟨_, rfl, ⟨⟨c, n, t, rfl, ⟨dx, hc⟩, _, rfl, ⟨⟨c2, m, t2, rfl, ⟨dx2, hc2⟩, ?_⟩⟩⟩⟩⟩
    refine ⟨_, rfl, c, dx, _, rfl, hc, ⟨⟨c, dx, _, t, rfl, hc, _, rfl, c2, dx2, _, rfl, hc2, ⟨⟨c2, dx2, _, t2, rfl, hc2, rfl, _, rfl, ?_⟩⟩⟩⟩⟩
    rw [decide_eq_false fun z => ne (by injection z)]
    exact iteT (k _ _ (Same.refl _))
theorem ok_alikeU {f f0 C CU : Addr} {fd fd0 : FuncData} (F : Fun K "alike" "alike" s_alike f fd)
    (G0 : FnOk P w K mg base (L2.CX P w) 4 f0 fd0 ["one", "other"] (spUn C CU)) (g0 : mg "first_apart" = some (.ref f0)) (k0 : PySem.W.keepIn K (.ref f0) = true) (b0 : Binds K fd0 ["one", "other"] []) :
    FnOk P w K mg base (L2.CX P w) 5 f fd ["one", "other"] (spUn C CU) := by
  refine F.okX scN_al (fun vs H Q E h => ?_) (fun cdv A outer s H vs Q E hr h => ?_)
  · obtain ⟨c, c2, t, t2, n, m, rfl, _⟩ := h.h
    rfl
  · obtain ⟨c, c2, t, t2, n, m, rfl, h2⟩ := h.h
    refine ⟨_, pss_one (ps_ret (pe_cmp (pc_isN (pe_call G0 (hr.mono (by decide)) rfl g0 k0 b0 .nil (passes_call (E := E) (takes_of rfl rfl rfl rfl) (fun _ _ _ _ z => z)) (pa_cons (pv 0) (pa_cons (pv 1) pa_nil)))))), ?_⟩
    exact ⟨_, rfl, _, rfl, ⟨⟨c, c2, t, t2, n, m, rfl, h2⟩⟩⟩
end
end DL

set_option Elab.async false
set_option maxRecDepth 100000
set_option maxHeartbeats 1000000
namespace DL
open PySem L2 HT TL
structure spRefU (C : Addr) (vs : List V) (H : Hp) (Q : VK) (_ : XK) : Prop where
  h : ∃ (kd : Int) (c c2 t t2 : Addr) (n m : Int), vs = [.int kd, .ref c, .ref c2] ∧ 0 ≤ kd ∧ kd < 2 ∧ CabAt C H c n t ∧ CabAt C H c2 m t2 ∧ n ≠ m ∧ ∀ H', Same H H' → Q (.bl true) H'
section
variable {P : Program} {w : World} {K : PySem.W.Frag} {mg : Str → Option Value} {base : Heap}
abbrev nRU : List Str := ["_law_kind", "_law_one", "_law_other", "_law_raised"]
theorem scRU : FnScope nRU ["_law_kind", "_law_one", "_law_other"] (defScope s__law_refused) := ⟨rfl, rfl, rfl, by decide +kernel, rfl, by decide +kernel, by decide +kernel⟩
theorem ok_refU {f f1 f2 C CU : Addr} {fd fd1 fd2 : FuncData} (F : Fun K "_law_refused" "_law_refused" s__law_refused f fd) (BT : ErrT K mg "Unlike" CU) (EX : PySem.W.exmOne K (.ref CU) (.ref CU) = some true)
    (G1 : FnOk P w K mg base (L2.CX P w) 5 f1 fd1 ["one", "other"] (spUn C CU)) (g1 : mg "alike" = some (.ref f1)) (k1 : PySem.W.keepIn K (.ref f1) = true) (b1 : Binds K fd1 ["one", "other"] [])
    (G2 : FnOk P w K mg base (L2.CX P w) 4 f2 fd2 ["one", "other"] (spUn C CU)) (g2 : mg "first_apart" = some (.ref f2)) (k2 : PySem.W.keepIn K (.ref f2) = true) (b2 : Binds K fd2 ["one", "other"] []) :
    FnOk P w K mg base CX0 8 f fd ["_law_kind", "_law_one", "_law_other"] (spRefU C) := by
  refine F.ok scRU (fun vs H Q E h => ?_) (fun cdv A outer s H vs Q E hr h => ?_)
  · obtain ⟨kd, c, c2, t, t2, n, m, rfl, _⟩ := h.h
    rfl
  · obtain ⟨kd, c, c2, t, t2, n, m, rfl, kd0, kd2, hc, hc2, ne, k⟩ := h.h
    have G2' := G2.mono (by decide : 4 ≤ 5)
    refine ⟨_, pss_cons (ps_set (i := 3) scRU.nd rfl (Or.inl rfl) pe_bl)
      (pss_cons (ps_try_only (tb := fun W => tDrop (tCallE [(f1, spUn C CU), (f2, spUn C CU)] (WE W) (tOp (rIxL K) (tLst (tCons (tC (.ref f1)) (tCons (tC (.ref f2)) tNil))) (tVar 0)) (tCons (tVar 1) (tCons (tVar 2) tNil))))
            (ts := fun _ _ _ => tAsg (tC (.bl true)) (gName 3)) (Wout := fun _ _ _ _ => False) rfl rfl ⟨rfl, by decide, Or.inl BT.g⟩ takes0
          (fun W pn xe tk _ => pss_one (ps_expr (by exact (pe_callE (k := 5) (CX := L2.CX P w) (by exact (pe_ix ix_list (pe_lst (pa_cons (pe_glob (v := .ref f1) rfl g1 rfl) (pa_cons (pe_glob (v := .ref f2) rfl g2 rfl) pa_nil))) (pv 0) (fun _ _ => rfl)))
              (fun q hq => by
                simp only [List.mem_cons, List.not_mem_nil, or_false] at hq
                rcases hq with rfl | rfl
                · exact ⟨_, _, G1, k1, b1⟩
                · exact ⟨_, _, G2', k2, b2⟩) (hr.mono (by decide)) (fun σ => passAt tk σ) (by exact (pa_cons (pv 1) (pa_cons (pv 2) pa_nil)))))))
          (fun a oe cls d pn _ _ => pss_one (ps_set (i := 3) scRU.nd rfl (Or.inl rfl) pe_bl)))
      (pss_one (ps_ret (pv 3)))), ?_⟩
    refine ⟨(by show 2 ≤ sizeLine; decide), fun fl hfl => ?_⟩
    obtain ⟨s6, f6⟩ := new_at (o := .lst [.ref f1, .ref f2]) hfl
    generalize upd H fl (.lst [.ref f1, .ref f2]) = H6 at s6 f6 ⊢
    have go : ∃ fx : Addr, (fx, spUn C CU) ∈ [(f1, spUn C CU), (f2, spUn C CU)] ∧ atI [V.ref f1, V.ref f2] kd = some (.ref fx) := by
      have : kd = 0 ∨ kd = 1 := by omega
      rcases this with rfl | rfl
      · exact ⟨f1, by simp, rfl⟩
      · exact ⟨f2, by simp, rfl⟩
    obtain ⟨fx, m1, m2⟩ := go
    have hcs : CabAt C H6 c n t := by obtain ⟨dx, z⟩ := hc; exact ⟨dx, s6 _ _ z⟩
    have hc2s : CabAt C H6 c2 m t2 := by obtain ⟨dx, z⟩ := hc2; exact ⟨dx, s6 _ _ z⟩
    refine ⟨_, rfl, fl, _, kd, _, rfl, rfl, SqL.of f6, m2, fx, _, m1, rfl, ?_⟩
    refine ⟨_, rfl, _, rfl, ?_⟩
    have fin : ∀ E' : XK, (∀ d H7, Same H6 H7 → E' (.ref CU) d H7) → spUn C CU [.ref c, .ref c2] H6 (fun _ _ => False) E' := fun E' q => ⟨⟨c, c2, t, t2, n, m, rfl, hcs, hc2s, ne, q⟩⟩
    refine ⟨⟨c, c2, t, t2, n, m, rfl, hcs, hc2s, ne, fun d H7 s7 => ?_⟩⟩
    refine ⟨true, EX, fun _ a0 _ => ?_, fun q => Bool.noConfusion q⟩
    exact ⟨_, rfl, k H7 (s6.trans s7)⟩
end
end DL

set_option Elab.async false
set_option maxRecDepth 100000
set_option maxHeartbeats 2000000
namespace DL
open PySem L2 HT TL RZ
def spLaw (K : PySem.W.Frag) : Sp := fun vs H Q _ => ∃ (a : Addr) (ns : List Int), vs = [.ref a] ∧ SqL K H a (ns.map V.int) ∧ ns.length ≤ 63 ∧ ∀ H', Q (.bl true) H'
theorem size37 {v : Int} (h0 : 0 ≤ v) (h3 : v < 2) : ∃ m : Int, atI [V.int 3, V.int 7] v = some (.int m) ∧ 1 ≤ m ∧ m ≤ 7 := by
  have : v = 0 ∨ v = 1 := by omega
  rcases this with rfl | rfl
  · exact ⟨3, rfl, by decide, by decide⟩
  · exact ⟨7, rfl, by decide, by decide⟩
def rowOD : Option (List Int) → PyData
  | none => .none
  | some x => .tuple (x.map PyData.int)
theorem rowV_dp {K : PySem.W.Frag} {H : Hp} {o : Option (List Int)} {v : V} (h : RowV H o v) : Dp K H v (rowOD o) := by
  cases o with
  | none =>
    obtain rfl : v = .non := h
    exact .non
  | some x =>
    obtain ⟨p, rfl, h⟩ := h
    exact .tup (SqT.of' h) (dpAll_ints _)
theorem rowOD_ok (o : Option (List Int)) : dok 2 (rowOD o) := by
  cases o with
  | none => exact ⟨dok_none.1, Nat.le_trans dok_none.2 (by decide)⟩
  | some x => exact dok_tuple (dok_ints _)
theorem RowV.same {H H' : Hp} {o : Option (List Int)} {v : V} (h : RowV H o v) (s : Same H H') : RowV H' o v := by
  cases o with
  | none => exact h
  | some x =>
    obtain ⟨p, e, h⟩ := h
    exact ⟨p, e, s _ _ h⟩
section
variable {P : Program} {w : World} {K : PySem.W.Frag} {mg : Str → Option Value} {base : Heap}
abbrev nLaw : List Str := ["_law_script", "_law_row", "_law_turn", "_law_d", "_law_other", "_law_due", "_law_one", "_law_two"]
theorem scLaw : FnScope nLaw ["_law_script"] (defScope s_law) := ⟨rfl, rfl, rfl, by decide +kernel, rfl, by decide +kernel, by decide +kernel⟩
theorem ok_law {f fT fP fM fN fLa fR fFa fAl fI C : Addr} {fd dT dP dM dN dLa dR dFa dAl dI : FuncData} (F : Fun K "law" "law" s_law f fd) (T : Bt mg) (T2 : CabT K mg C) (M : Mk K C fI) (GI : FnOk P w K mg base CX0 5 fI dI ["self", "drawers", "bars"] (spInit C)) (bI : Binds K dI ["self", "drawers", "bars"] [])
    (GT : FnOk P w K mg base CX0 1 fT dT ["_law_row", "_law_many"] (spTaken K)) (gT : mg "_law_taken" = some (.ref fT)) (kT : PySem.W.keepIn K (.ref fT) = true) (bT : Binds K dT ["_law_row", "_law_many"] [])
    (GP : FnOk P w K mg base CX0 2 fP dP ["_law_row", "_law_most"] (spParts K)) (gP : mg "_law_parts" = some (.ref fP)) (kP : PySem.W.keepIn K (.ref fP) = true) (bP : Binds K dP ["_law_row", "_law_most"] [])
    (GM : FnOk P w K mg base CX0 7 fM dM ["_law_d"] (spMade C)) (gM : mg "_law_made" = some (.ref fM)) (kM : PySem.W.keepIn K (.ref fM) = true) (bM : Binds K dM ["_law_d"] [])
    (GN : FnOk P w K mg base CX0 3 fN dN ["_law_row", "_law_d"] (spNear K)) (gN : mg "_law_near" = some (.ref fN)) (kN : PySem.W.keepIn K (.ref fN) = true) (bN : Binds K dN ["_law_row", "_law_d"] [])
    (GLa : FnOk P w K mg base CX0 3 fLa dLa ["_law_one", "_law_other"] spLawApart) (gLa : mg "_law_apart" = some (.ref fLa)) (kLa : PySem.W.keepIn K (.ref fLa) = true) (bLa : Binds K dLa ["_law_one", "_law_other"] [])
    (GR : FnOk P w K mg base CX0 8 fR dR ["_law_kind", "_law_one", "_law_other"] (spRefU C)) (gR : mg "_law_refused" = some (.ref fR)) (kR : PySem.W.keepIn K (.ref fR) = true) (bR : Binds K dR ["_law_kind", "_law_one", "_law_other"] [])
    (GFa : FnOk P w K mg base CX0 14 fFa dFa ["one", "other"] (spApart C)) (gFa : mg "first_apart" = some (.ref fFa)) (kFa : PySem.W.keepIn K (.ref fFa) = true) (bFa : Binds K dFa ["one", "other"] [])
    (GAl : FnOk P w K mg base CX0 16 fAl dAl ["one", "other"] (spAlike C)) (gAl : mg "alike" = some (.ref fAl)) (kAl : PySem.W.keepIn K (.ref fAl) = true) (bAl : Binds K dAl ["one", "other"] []) :
    FnOk P w K mg base CX0 20 f fd ["_law_script"] (spLaw K) := by
  refine F.ok scLaw (fun vs H Q E h => ?_) (fun cdv A outer s H vs Q E hr h => ?_)
  · obtain ⟨a, ns, rfl, _⟩ := h
    rfl
  · obtain ⟨a, ns, rfl, hS, hlen, k⟩ := h
    have hu : _ + 64 < cLine := hr.units
    refine ⟨_, pss_cons (ps_set (i := 1) scLaw.nd rfl (Or.inl rfl) (pe_lst (pa_cons (pv 0) (pa_cons pe_int (pa_cons pe_int (pa_cons pe_int pa_nil))))))
      (pss_cons (ps_for PassesOwn.never rfl (pi_range1 rfl T.range (pa_cons pe_int pa_nil)) (pg_name (i := 2) scLaw.nd rfl (Or.inl rfl))
        (pss_cons (ps_set (i := 3) scLaw.nd rfl (Or.inl rfl) (pe_call GP (hr.mono (by decide)) rfl gP kP bP .nil pass0 (pa_cons (pv 1) (pa_cons (pe_ix ix_list (pe_lst (pa_cons pe_int (pa_cons pe_int pa_nil))) (pe_call GT (hr.mono (by decide)) rfl gT kT bT .nil pass0 (pa_cons (pv 1) (pa_cons pe_int pa_nil))) (fun _ _ => rfl)) pa_nil))))
        (pss_cons (ps_set (i := 4) scLaw.nd rfl (Or.inl rfl) (pe_call GN (hr.mono (by decide)) rfl gN kN bN .nil pass0 (pa_cons (pv 1) (pa_cons (pv 3) pa_nil))))
        (pss_cons (ps_set (i := 5) scLaw.nd rfl (Or.inl rfl) (pe_call GLa (hr.mono (by decide)) rfl gLa kLa bLa .nil pass0 (pa_cons (pv 3) (pa_cons (pv 4) pa_nil))))
        (pss_cons (ps_par (i := 6) (j := 7) (by rfl) scLaw.nd rfl rfl (by decide) rfl rfl (pa_cons (pe_call GM (hr.mono (by decide)) rfl gM kM bM .nil pass0 (pa_cons (pv 3) pa_nil)) (pa_cons (pe_call GM (hr.mono (by decide)) rfl gM kM bM .nil pass0 (pa_cons (pv 4) pa_nil)) pa_nil)) (by rfl))
        (pss_cons (ps_if (PW.pt (pw_or (pt_cmpR (op_neD hu) (pe_call GFa (hr.mono (by decide)) rfl gFa kFa bFa .nil pass0 (pa_cons (pv 6) (pa_cons (pv 7) pa_nil))) (pv 5) (nomark _))
            (pw_or (pt_cmpR (op_neD hu) (pe_call GFa (hr.mono (by decide)) rfl gFa kFa bFa .nil pass0 (pa_cons (pv 7) (pa_cons (pv 6) pa_nil))) (pv 5) (nomark _))
              (pw_or1 (pt_cmpR op_ne (pe_call GAl (hr.mono (by decide)) rfl gAl kAl bAl .nil pass0 (pa_cons (pv 6) (pa_cons (pv 7) pa_nil))) (pe_cmp (pc_isN (pv 5))) (nomark _)))))) (pss_one (ps_ret pe_bl)) pss_nil)
        (pss_one (ps_if (PW.pt (pw_or (pt_not (pt_val (pe_call GAl (hr.mono (by decide)) rfl gAl kAl bAl .nil pass0 (pa_cons (pv 6) (pa_cons (pv 6) pa_nil)))))
            (pw_or1 (pt_not (pt_val (pe_call GR (hr.mono (by decide)) rfl gR kR bR .nil pass0 (pa_cons (pe_call GT (hr.mono (by decide)) rfl gT kT bT .nil pass0 (pa_cons (pv 1) (pa_cons pe_int pa_nil))) (pa_cons (pv 6)
              (pa_cons (pe_make M GI (hr.mono (by decide)) rfl T2.mgC bI .nil pass0 (pa_cons (pe_op op_add (pe_op op_mod (pe_ix ix_list (pv 3) pe_int (fun _ _ => rfl)) pe_int) pe_int) (pa_cons (pe_tup pa_nil) pa_nil))) pa_nil))))))))) (pss_one (ps_ret pe_bl)) pss_nil))))))))
      (pss_one (ps_ret pe_bl))), ?_⟩
    refine ⟨_, rfl, (by show 4 ≤ sizeLine; decide), fun r hr0 => ?_⟩
    have R0 : RowOk (upd H r (.lst [.ref a, .int 0, .int 212, .int 0])) r a := ⟨⟨0, 212, 0, upd_same, by decide, by decide, by decide, by decide⟩⟩
    have S0 : SqL K (upd H r (.lst [.ref a, .int 0, .int 212, .int 0])) a (ns.map V.int) := (same_upd hr0).seq hS
    generalize (upd H r (.lst [.ref a, .int 0, .int 212, .int 0])) = H0 at R0 S0 ⊢
    refine ⟨2, rfl, by decide, by decide, ?_⟩
    refine for_range (lo := 0) (n := 2) (fun i σ H' => ∃ v2 v3 v4 v5 v6 v7 : Option V, σ = [some (.ref a), some (.ref r), v2, v3, v4, v5, v6, v7] ∧ RowOk H' r a ∧ But r H0 H')
      ⟨_, _, _, _, _, _, rfl, R0, But.refl _ _⟩ ?_ ?_
    · rintro i σ H1 hi ⟨v2, v3, v4, v5, v6, v7, rfl, R1, B1⟩
      have S1 := B1.seqR R0 S0
      clear R0 S0 hr0
      refine ⟨_, rfl, (by show 2 ≤ sizeLine; decide), fun l hl => ?_⟩
      have sl := same_upd (o := .lst [.int 3, .int 7]) hl
      have nlr : l ≠ r := by
        obtain ⟨_, _, _, q, _⟩ := id R1.h
        exact (ne_of_none q hl).symm
      refine ⟨_, rfl, ⟨⟨r, a, ns, 2, rfl, R1.same sl, sl.seq S1, by decide, by decide, fun v H2 v0 v1 R2 B2 => ?_⟩⟩⟩
      obtain ⟨m, hm, m1, m7⟩ := size37 v0 v1
      have S2 := B2.seqR (R1.same sl) (sl.seq S1)
      refine ⟨l, _, v, .int m, rfl, rfl, SqL.of (B2 _ _ nlr upd_same), hm, ?_⟩
      have B02 := B1.trans ((sbut sl).trans B2)
      refine ⟨⟨r, a, ns, m, rfl, R2, S2, m1, m7, fun p t n ks0 H3 hp0 ht0 n1 nm hp hB O h13 R3 B3 => ?_⟩⟩
      obtain ⟨N, rfl⟩ : ∃ N : Nat, n = N := ⟨n.toNat, by omega⟩
      have n7 : N ≤ 7 := by omega
      have npr : p ≠ r := by
        obtain ⟨_, _, _, q, _⟩ := id R2.h
        exact (ne_of_none q hp0).symm
      have S3 := B3.seqR R2 S2
      have B03 := B02.trans B3
      clear S2 B02 B3 R2 hp0 ht0 S1 R1 B1 B2 sl hl
      refine ⟨_, rfl, _, rfl, ⟨⟨r, a, p, t, ns, N, ks0, rfl, R3, S3, npr, hp, hB, O, by omega, n7, h13, fun p2 t2 ks2 H4 np2 hp2 hB2 O2 h63 R4 B4 => ?_⟩⟩⟩
      obtain ⟨_, _, _, hR3, _⟩ := id R3.h
      have hp4 := B4 _ _ npr hp
      have hB4 : BarsAt H4 t ks0 := ⟨B4.tup hR3 hB.tu, fun k hk => B4.tup hR3 (hB.el k hk)⟩
      have S4 := B4.seqR R3 S3
      have B04 := B03.trans B4
      clear B03 B4 S3 hB hp hR3 R3
      have dr1 : DrOk H4 p N (ks0.map (·.2)) := ⟨⟨t, ks0, [], hp4, hB4, rfl, O, n1, by omega, by rw [List.length_map]; omega⟩⟩
      have dr2 : DrOk H4 p2 N (ks2.map (·.2)) := ⟨⟨t2, ks2, [], hp2, hB2, rfl, O2, n1, by omega, by rw [List.length_map]; omega⟩⟩
      refine ⟨_, rfl, _, rfl, ⟨⟨p, p2, _, _, N, rfl, dr1, dr2, fun es due H5 s5 I hdue => ?_⟩⟩⟩
      have hshut : (shutS N).length = N := List.length_replicate
      have h7 : (shutS N).length ≤ 7 := by omega
      refine ⟨_, rfl, ⟨⟨p, t, N, ks0, [], rfl, s5 _ _ hp4, n1, by omega, hB4.same s5, O, fun c H6 hc0 hcab s6 => ?_⟩⟩⟩
      have s46 := s5.trans s6
      refine ⟨_, rfl, ⟨⟨p2, t2, N, ks2, [], rfl, s46 _ _ hp2, n1, by omega, hB2.same s46, O2, fun c2 H7 hc20 hcab2 s7 => ?_⟩⟩⟩
      have s47 := s46.trans s7
      have cab1 : ∀ {H' : Hp}, Same H7 H' → CabOk C H' c N (ks0.map (·.2)) := fun s => by
        obtain ⟨dx, h2⟩ := hcab
        exact ⟨⟨t, ks0, ⟨dx, s _ _ (s7 _ _ h2)⟩, hB4.same (s47.trans s), rfl, O, n1, by omega, by rw [List.length_map]; omega⟩⟩
      have cab2 : ∀ {H' : Hp}, Same H7 H' → CabOk C H' c2 N (ks2.map (·.2)) := fun s => by
        obtain ⟨dx, h2⟩ := hcab2
        exact ⟨⟨t2, ks2, ⟨dx, s _ _ h2⟩, hB2.same (s47.trans s), rfl, O2, n1, by omega, by rw [List.length_map]; omega⟩⟩
      have hd7 := hdue.same (s6.trans s7)
      refine ⟨_, _, rfl, ?_⟩
      refine ⟨_, rfl, _, rfl, ⟨⟨c, c2, _, _, N, rfl, cab1 (Same.refl _), cab2 (Same.refl _), fun es1 w1 H8 s8 I1 hw1 => ?_⟩⟩⟩
      obtain rfl : es1 = es := I1.same I h7
      refine ⟨_, rfl, _, _, rowV_dp hw1, rowV_dp (hd7.same s8), dok_shaped (rowOD_ok _) (by decide), dok_shaped (rowOD_ok _) (by decide), _, rfl, ?_⟩
      rw [eqv_self (rowOD_ok _)]
      refine iteF ?_
      refine ⟨_, rfl, _, rfl, ⟨⟨c2, c, _, _, N, rfl, cab2 s8, cab1 s8, fun es2 w2 H9 s9 I2 hw2 => ?_⟩⟩⟩
      rw [← apart_sym I I2 h7] at hw2
      have s89 := s8.trans s9
      refine ⟨_, rfl, _, _, rowV_dp hw2, rowV_dp (hd7.same s89), dok_shaped (rowOD_ok _) (by decide), dok_shaped (rowOD_ok _) (by decide), _, rfl, ?_⟩
      rw [eqv_self (rowOD_ok _)]
      refine iteF ?_
      refine ⟨_, rfl, _, rfl, ⟨⟨c, c2, _, _, N, rfl, cab1 s89, cab2 s89, fun es3 H10 s10 I3 => ?_⟩⟩⟩
      obtain rfl : es3 = es1 := I3.same I h7
      have isn : ∀ (σ : L2.St) (Hx : Hp) (Qx : VK), σ[5]? = some (some due) → Qx (.bl (apartE (ks0.map (·.2)) (ks2.map (·.2)) es3).isNone) Hx → tIsN (tVar 5) σ Hx Qx := by
        intro σ Hx Qx hσ hq
        cases q : apartE (ks0.map (·.2)) (ks2.map (·.2)) es3 with
        | none =>
          rw [q] at hd7 hq
          obtain rfl : due = .non := hd7
          exact ⟨_, hσ, hq⟩
        | some x =>
          rw [q] at hd7 hq
          obtain ⟨pp, rfl, _⟩ := hd7
          exact ⟨_, hσ, hq⟩
      refine isn _ _ _ rfl ?_
      refine ⟨rfl, _, rfl, ?_⟩
      rw [bl_ne, bne_self_eq_false]
      refine iteF ?_
      have s810 := s89.trans s10
      refine ⟨_, rfl, _, rfl, ⟨⟨c, c, _, _, N, rfl, cab1 s810, cab1 s810, fun es4 H11 s11 I4 => ?_⟩⟩⟩
      rw [apart_self]
      have s711 := s810.trans s11
      have s411 := s47.trans s711
      refine ⟨_, rfl, iteF ?_⟩
      have R11 := R4.same s411
      refine ⟨_, rfl, ⟨⟨r, a, ns, 2, rfl, R11, s411.seq S4, by decide, by decide, fun kd H12 kd0 kd2 R12 B12 => ?_⟩⟩⟩
      obtain ⟨_, _, _, hR11, _⟩ := id R11.h
      have hp12 := B12 _ _ npr (s411 _ _ hp4)
      refine ⟨_, rfl, ?_⟩
      refine ⟨_, rfl, p, _, 0, .int N, rfl, rfl, SqL.of hp12, atI_nat (j := 0) rfl, _, _, rfl, rfl, (by show (0 : Int) < 7; decide), _, _, rfl, rfl, ?_⟩
      refine ⟨(by show 0 ≤ sizeLine; decide), fun q hq => ?_⟩
      obtain ⟨s13, f13⟩ := new_at (o := .tup []) hq
      generalize upd H12 q (.tup []) = H13 at s13 f13 ⊢
      intro x dx2 nx ndx nex
      have s0 : Same H13 (upd (upd H13 dx2 (.own x)) x (.ins C dx2 [])) := fun b o e => by
        rw [upd_ne (ne_of_none e nx), upd_ne (ne_of_none e ndx)]
        exact e
      have hBq : BarsAt H13 q [] := ⟨f13, fun k hk => (by cases hk)⟩
      have nm : (N : Int) % 7 + 1 ≠ N := by omega
      refine ⟨⟨x, dx2, (N : Int) % 7 + 1, q, [], rfl, upd_same, by omega, by omega, hBq.same s0, ⟨fun b hb => (by cases hb), List.Pairwise.nil⟩, fun H14 hx kp => ⟨rfl, ?_⟩⟩⟩
      have s14 : Same H13 H14 := fun b o e => kp b o (ne_of_none e nx) (s0 b o e)
      obtain ⟨dxc, hc7⟩ : CabAt C H7 c N t := by
        obtain ⟨dx, z⟩ := hcab
        exact ⟨dx, s7 _ _ z⟩
      have hc11 := s711 _ _ hc7
      have ncr : c ≠ r := ne_of hc11 hR11 (by intro z; cases z)
      have hc14 := s14 _ _ (s13 _ _ (B12 _ _ ncr hc11))
      refine ⟨⟨kd, c, x, t, q, N, (N : Int) % 7 + 1, rfl, kd0, kd2, ⟨dxc, hc14⟩, ⟨dx2, hx⟩, fun z => nm z.symm, fun H15 s15 => ?_⟩⟩
      refine ⟨_, rfl, iteF ?_⟩
      have s1215 := (s13.trans s14).trans s15
      exact ⟨_, _, _, _, _, _, rfl, R12.same s1215, (B04.trans (sbut s411)).trans (B12.trans (sbut s1215))⟩
    · rintro σ H1 ⟨v2, v3, v4, v5, v6, v7, rfl, _, _⟩
      exact k H1
end
end DL

set_option Elab.async false
set_option maxRecDepth 100000
set_option maxHeartbeats 8000000
namespace DL
open PySem L2 HT TL
/-! ### what the top has written -/
theorem all_mk {l : PySem.W.OpenLaw} {w : World} {K : PySem.W.Frag} {h : Heap} {mg : Str → Option Value} {fa : Addr} (X : K.In h) (G : h.Ns mainGlobals mg) (hfa : mg "law" = some (.ref fa))
    {f_is_integer : Addr} {od_is_integer an_is_integer : Option Addr} {sl_is_integer : Array (Option Value)} {oc_is_integer kV_is_integer dc_is_integer pm_is_integer cd_is_integer ct_is_integer : Value}
    {f_is_drawer_count : Addr} {od_is_drawer_count an_is_drawer_count : Option Addr} {sl_is_drawer_count : Array (Option Value)} {oc_is_drawer_count kV_is_drawer_count dc_is_drawer_count pm_is_drawer_count cd_is_drawer_count ct_is_drawer_count : Value}
    {f_is_drawer : Addr} {od_is_drawer an_is_drawer : Option Addr} {sl_is_drawer : Array (Option Value)} {oc_is_drawer kV_is_drawer dc_is_drawer pm_is_drawer cd_is_drawer ct_is_drawer : Value}
    {f_is_bar : Addr} {od_is_bar an_is_bar : Option Addr} {sl_is_bar : Array (Option Value)} {oc_is_bar kV_is_bar dc_is_bar pm_is_bar cd_is_bar ct_is_bar : Value}
    {f_check_drawers : Addr} {od_check_drawers an_check_drawers : Option Addr} {sl_check_drawers : Array (Option Value)} {oc_check_drawers kV_check_drawers dc_check_drawers pm_check_drawers cd_check_drawers ct_check_drawers : Value}
    {f_check_bars : Addr} {od_check_bars an_check_bars : Option Addr} {sl_check_bars : Array (Option Value)} {oc_check_bars kV_check_bars dc_check_bars pm_check_bars cd_check_bars ct_check_bars : Value}
    {f__law_taken : Addr} {od__law_taken an__law_taken : Option Addr} {sl__law_taken : Array (Option Value)} {oc__law_taken kV__law_taken dc__law_taken pm__law_taken cd__law_taken ct__law_taken : Value}
    {f__law_parts : Addr} {od__law_parts an__law_parts : Option Addr} {sl__law_parts : Array (Option Value)} {oc__law_parts kV__law_parts dc__law_parts pm__law_parts cd__law_parts ct__law_parts : Value}
    {f__law_made : Addr} {od__law_made an__law_made : Option Addr} {sl__law_made : Array (Option Value)} {oc__law_made kV__law_made dc__law_made pm__law_made cd__law_made ct__law_made : Value}
    {f_hinders : Addr} {od_hinders an_hinders : Option Addr} {sl_hinders : Array (Option Value)} {oc_hinders kV_hinders dc_hinders pm_hinders cd_hinders ct_hinders : Value}
    {f_moved : Addr} {od_moved an_moved : Option Addr} {sl_moved : Array (Option Value)} {oc_moved kV_moved dc_moved pm_moved cd_moved ct_moved : Value}
    {f_bars_against : Addr} {od_bars_against an_bars_against : Option Addr} {sl_bars_against : Array (Option Value)} {oc_bars_against kV_bars_against dc_bars_against pm_bars_against cd_bars_against ct_bars_against : Value}
    {f_goes : Addr} {od_goes an_goes : Option Addr} {sl_goes : Array (Option Value)} {oc_goes kV_goes dc_goes pm_goes cd_goes ct_goes : Value}
    {f_free_drawers : Addr} {od_free_drawers an_free_drawers : Option Addr} {sl_free_drawers : Array (Option Value)} {oc_free_drawers kV_free_drawers dc_free_drawers pm_free_drawers cd_free_drawers ct_free_drawers : Value}
    {f__law_hold : Addr} {od__law_hold an__law_hold : Option Addr} {sl__law_hold : Array (Option Value)} {oc__law_hold kV__law_hold dc__law_hold pm__law_hold cd__law_hold ct__law_hold : Value}
    {f__law_free : Addr} {od__law_free an__law_free : Option Addr} {sl__law_free : Array (Option Value)} {oc__law_free kV__law_free dc__law_free pm__law_free cd__law_free ct__law_free : Value}
    {f__law_moved : Addr} {od__law_moved an__law_moved : Option Addr} {sl__law_moved : Array (Option Value)} {oc__law_moved kV__law_moved dc__law_moved pm__law_moved cd__law_moved ct__law_moved : Value}
    {f_check_cabinet : Addr} {od_check_cabinet an_check_cabinet : Option Addr} {sl_check_cabinet : Array (Option Value)} {oc_check_cabinet kV_check_cabinet dc_check_cabinet pm_check_cabinet cd_check_cabinet ct_check_cabinet : Value}
    {f_first_standing : Addr} {od_first_standing an_first_standing : Option Addr} {sl_first_standing : Array (Option Value)} {oc_first_standing kV_first_standing dc_first_standing pm_first_standing cd_first_standing ct_first_standing : Value}
    {f_rows_from : Addr} {od_rows_from an_rows_from : Option Addr} {sl_rows_from : Array (Option Value)} {oc_rows_from kV_rows_from dc_rows_from pm_rows_from cd_rows_from ct_rows_from : Value}
    {f_first_rows : Addr} {od_first_rows an_first_rows : Option Addr} {sl_first_rows : Array (Option Value)} {oc_first_rows kV_first_rows dc_first_rows pm_first_rows cd_first_rows ct_first_rows : Value}
    {f_first_apart : Addr} {od_first_apart an_first_apart : Option Addr} {sl_first_apart : Array (Option Value)} {oc_first_apart kV_first_apart dc_first_apart pm_first_apart cd_first_apart ct_first_apart : Value}
    {f_alike : Addr} {od_alike an_alike : Option Addr} {sl_alike : Array (Option Value)} {oc_alike kV_alike dc_alike pm_alike cd_alike ct_alike : Value}
    {f__law_refused : Addr} {od__law_refused an__law_refused : Option Addr} {sl__law_refused : Array (Option Value)} {oc__law_refused kV__law_refused dc__law_refused pm__law_refused cd__law_refused ct__law_refused : Value}
    {f__law_near : Addr} {od__law_near an__law_near : Option Addr} {sl__law_near : Array (Option Value)} {oc__law_near kV__law_near dc__law_near pm__law_near cd__law_near ct__law_near : Value}
    {f__law_apart : Addr} {od__law_apart an__law_apart : Option Addr} {sl__law_apart : Array (Option Value)} {oc__law_apart kV__law_apart dc__law_apart pm__law_apart cd__law_apart ct__law_apart : Value}
    {f_law : Addr} {od_law an_law : Option Addr} {sl_law : Array (Option Value)} {oc_law kV_law dc_law pm_law cd_law ct_law : Value}
    {C : Addr}
    {f_Cabinet___init__ : Addr} {od_Cabinet___init__ an_Cabinet___init__ : Option Addr} {sl_Cabinet___init__ : Array (Option Value)} {oc_Cabinet___init__ kV_Cabinet___init__ dc_Cabinet___init__ pm_Cabinet___init__ cd_Cabinet___init__ ct_Cabinet___init__ : Value}
    {p_drawers : Addr} {rest_drawers : List Value}
    {f_Cabinet_drawers : Addr} {od_Cabinet_drawers an_Cabinet_drawers : Option Addr} {sl_Cabinet_drawers : Array (Option Value)} {oc_Cabinet_drawers kV_Cabinet_drawers dc_Cabinet_drawers pm_Cabinet_drawers cd_Cabinet_drawers ct_Cabinet_drawers : Value}
    {p_bars : Addr} {rest_bars : List Value}
    {f_Cabinet_bars : Addr} {od_Cabinet_bars an_Cabinet_bars : Option Addr} {sl_Cabinet_bars : Array (Option Value)} {oc_Cabinet_bars kV_Cabinet_bars dc_Cabinet_bars pm_Cabinet_bars cd_Cabinet_bars ct_Cabinet_bars : Value}
    {tM : Tok}
    {fW : Addr}
    {ddW : Option Addr} {tW1 tW2 : Tok} {nW : Nat} {slW : Array (Option Value)}
    {fS : Addr}
    {esS : Array DictEntry} {nS : Nat}
    {tS1 : Tok}
    {tS2 : Tok}
    {CUn : Addr}
    (a_is_integer : PySem.W.nsIn K mainGlobals "is_integer" = some (some (.ref f_is_integer)))
    (l_is_integer : K.lookup f_is_integer = some ⟨oc_is_integer, od_is_integer, .func (PySem.W.fnOf "is_integer" "is_integer" (defArgs sIsInt) (defBody sIsInt) (defScope sIsInt) .none kV_is_integer dc_is_integer pm_is_integer an_is_integer cd_is_integer ct_is_integer), sl_is_integer⟩)
    (c_is_integer : PySem.W.codeIn K cd_is_integer "is_integer" = true)
    (k_is_integer : PySem.W.keepIn K (.ref f_is_integer) = true)
    (a_is_drawer_count : PySem.W.nsIn K mainGlobals "is_drawer_count" = some (some (.ref f_is_drawer_count)))
    (l_is_drawer_count : K.lookup f_is_drawer_count = some ⟨oc_is_drawer_count, od_is_drawer_count, .func (PySem.W.fnOf "is_drawer_count" "is_drawer_count" (defArgs sIsCount) (defBody sIsCount) (defScope sIsCount) .none kV_is_drawer_count dc_is_drawer_count pm_is_drawer_count an_is_drawer_count cd_is_drawer_count ct_is_drawer_count), sl_is_drawer_count⟩)
    (c_is_drawer_count : PySem.W.codeIn K cd_is_drawer_count "is_drawer_count" = true)
    (k_is_drawer_count : PySem.W.keepIn K (.ref f_is_drawer_count) = true)
    (a_is_drawer : PySem.W.nsIn K mainGlobals "is_drawer" = some (some (.ref f_is_drawer)))
    (l_is_drawer : K.lookup f_is_drawer = some ⟨oc_is_drawer, od_is_drawer, .func (PySem.W.fnOf "is_drawer" "is_drawer" (defArgs sIsDrawer) (defBody sIsDrawer) (defScope sIsDrawer) .none kV_is_drawer dc_is_drawer pm_is_drawer an_is_drawer cd_is_drawer ct_is_drawer), sl_is_drawer⟩)
    (c_is_drawer : PySem.W.codeIn K cd_is_drawer "is_drawer" = true)
    (k_is_drawer : PySem.W.keepIn K (.ref f_is_drawer) = true)
    (a_is_bar : PySem.W.nsIn K mainGlobals "is_bar" = some (some (.ref f_is_bar)))
    (l_is_bar : K.lookup f_is_bar = some ⟨oc_is_bar, od_is_bar, .func (PySem.W.fnOf "is_bar" "is_bar" (defArgs sIsBar) (defBody sIsBar) (defScope sIsBar) .none kV_is_bar dc_is_bar pm_is_bar an_is_bar cd_is_bar ct_is_bar), sl_is_bar⟩)
    (c_is_bar : PySem.W.codeIn K cd_is_bar "is_bar" = true)
    (k_is_bar : PySem.W.keepIn K (.ref f_is_bar) = true)
    (a_check_drawers : PySem.W.nsIn K mainGlobals "check_drawers" = some (some (.ref f_check_drawers)))
    (l_check_drawers : K.lookup f_check_drawers = some ⟨oc_check_drawers, od_check_drawers, .func (PySem.W.fnOf "check_drawers" "check_drawers" (defArgs sCheckDrawers) (defBody sCheckDrawers) (defScope sCheckDrawers) .none kV_check_drawers dc_check_drawers pm_check_drawers an_check_drawers cd_check_drawers ct_check_drawers), sl_check_drawers⟩)
    (c_check_drawers : PySem.W.codeIn K cd_check_drawers "check_drawers" = true)
    (k_check_drawers : PySem.W.keepIn K (.ref f_check_drawers) = true)
    (a_check_bars : PySem.W.nsIn K mainGlobals "check_bars" = some (some (.ref f_check_bars)))
    (l_check_bars : K.lookup f_check_bars = some ⟨oc_check_bars, od_check_bars, .func (PySem.W.fnOf "check_bars" "check_bars" (defArgs sCheckBars) (defBody sCheckBars) (defScope sCheckBars) .none kV_check_bars dc_check_bars pm_check_bars an_check_bars cd_check_bars ct_check_bars), sl_check_bars⟩)
    (c_check_bars : PySem.W.codeIn K cd_check_bars "check_bars" = true)
    (k_check_bars : PySem.W.keepIn K (.ref f_check_bars) = true)
    (a__law_taken : PySem.W.nsIn K mainGlobals "_law_taken" = some (some (.ref f__law_taken)))
    (l__law_taken : K.lookup f__law_taken = some ⟨oc__law_taken, od__law_taken, .func (PySem.W.fnOf "_law_taken" "_law_taken" (defArgs sTaken) (defBody sTaken) (defScope sTaken) .none kV__law_taken dc__law_taken pm__law_taken an__law_taken cd__law_taken ct__law_taken), sl__law_taken⟩)
    (c__law_taken : PySem.W.codeIn K cd__law_taken "_law_taken" = true)
    (k__law_taken : PySem.W.keepIn K (.ref f__law_taken) = true)
    (a__law_parts : PySem.W.nsIn K mainGlobals "_law_parts" = some (some (.ref f__law_parts)))
    (l__law_parts : K.lookup f__law_parts = some ⟨oc__law_parts, od__law_parts, .func (PySem.W.fnOf "_law_parts" "_law_parts" (defArgs sParts) (defBody sParts) (defScope sParts) .none kV__law_parts dc__law_parts pm__law_parts an__law_parts cd__law_parts ct__law_parts), sl__law_parts⟩)
    (c__law_parts : PySem.W.codeIn K cd__law_parts "_law_parts" = true)
    (k__law_parts : PySem.W.keepIn K (.ref f__law_parts) = true)
    (a__law_made : PySem.W.nsIn K mainGlobals "_law_made" = some (some (.ref f__law_made)))
    (l__law_made : K.lookup f__law_made = some ⟨oc__law_made, od__law_made, .func (PySem.W.fnOf "_law_made" "_law_made" (defArgs sMade) (defBody sMade) (defScope sMade) .none kV__law_made dc__law_made pm__law_made an__law_made cd__law_made ct__law_made), sl__law_made⟩)
    (c__law_made : PySem.W.codeIn K cd__law_made "_law_made" = true)
    (k__law_made : PySem.W.keepIn K (.ref f__law_made) = true)
    (a_hinders : PySem.W.nsIn K mainGlobals "hinders" = some (some (.ref f_hinders)))
    (l_hinders : K.lookup f_hinders = some ⟨oc_hinders, od_hinders, .func (PySem.W.fnOf "hinders" "hinders" (defArgs s_hinders) (defBody s_hinders) (defScope s_hinders) .none kV_hinders dc_hinders pm_hinders an_hinders cd_hinders ct_hinders), sl_hinders⟩)
    (c_hinders : PySem.W.codeIn K cd_hinders "hinders" = true)
    (k_hinders : PySem.W.keepIn K (.ref f_hinders) = true)
    (a_moved : PySem.W.nsIn K mainGlobals "moved" = some (some (.ref f_moved)))
    (l_moved : K.lookup f_moved = some ⟨oc_moved, od_moved, .func (PySem.W.fnOf "moved" "moved" (defArgs s_moved) (defBody s_moved) (defScope s_moved) .none kV_moved dc_moved pm_moved an_moved cd_moved ct_moved), sl_moved⟩)
    (c_moved : PySem.W.codeIn K cd_moved "moved" = true)
    (k_moved : PySem.W.keepIn K (.ref f_moved) = true)
    (a_bars_against : PySem.W.nsIn K mainGlobals "bars_against" = some (some (.ref f_bars_against)))
    (l_bars_against : K.lookup f_bars_against = some ⟨oc_bars_against, od_bars_against, .func (PySem.W.fnOf "bars_against" "bars_against" (defArgs s_bars_against) (defBody s_bars_against) (defScope s_bars_against) .none kV_bars_against dc_bars_against pm_bars_against an_bars_against cd_bars_against ct_bars_against), sl_bars_against⟩)
    (c_bars_against : PySem.W.codeIn K cd_bars_against "bars_against" = true)
    (k_bars_against : PySem.W.keepIn K (.ref f_bars_against) = true)
    (a_goes : PySem.W.nsIn K mainGlobals "goes" = some (some (.ref f_goes)))
    (l_goes : K.lookup f_goes = some ⟨oc_goes, od_goes, .func (PySem.W.fnOf "goes" "goes" (defArgs s_goes) (defBody s_goes) (defScope s_goes) .none kV_goes dc_goes pm_goes an_goes cd_goes ct_goes), sl_goes⟩)
    (c_goes : PySem.W.codeIn K cd_goes "goes" = true)
    (k_goes : PySem.W.keepIn K (.ref f_goes) = true)
    (a_free_drawers : PySem.W.nsIn K mainGlobals "free_drawers" = some (some (.ref f_free_drawers)))
    (l_free_drawers : K.lookup f_free_drawers = some ⟨oc_free_drawers, od_free_drawers, .func (PySem.W.fnOf "free_drawers" "free_drawers" (defArgs s_free_drawers) (defBody s_free_drawers) (defScope s_free_drawers) .none kV_free_drawers dc_free_drawers pm_free_drawers an_free_drawers cd_free_drawers ct_free_drawers), sl_free_drawers⟩)
    (c_free_drawers : PySem.W.codeIn K cd_free_drawers "free_drawers" = true)
    (k_free_drawers : PySem.W.keepIn K (.ref f_free_drawers) = true)
    (a__law_hold : PySem.W.nsIn K mainGlobals "_law_hold" = some (some (.ref f__law_hold)))
    (l__law_hold : K.lookup f__law_hold = some ⟨oc__law_hold, od__law_hold, .func (PySem.W.fnOf "_law_hold" "_law_hold" (defArgs s__law_hold) (defBody s__law_hold) (defScope s__law_hold) .none kV__law_hold dc__law_hold pm__law_hold an__law_hold cd__law_hold ct__law_hold), sl__law_hold⟩)
    (c__law_hold : PySem.W.codeIn K cd__law_hold "_law_hold" = true)
    (k__law_hold : PySem.W.keepIn K (.ref f__law_hold) = true)
    (a__law_free : PySem.W.nsIn K mainGlobals "_law_free" = some (some (.ref f__law_free)))
    (l__law_free : K.lookup f__law_free = some ⟨oc__law_free, od__law_free, .func (PySem.W.fnOf "_law_free" "_law_free" (defArgs s__law_free) (defBody s__law_free) (defScope s__law_free) .none kV__law_free dc__law_free pm__law_free an__law_free cd__law_free ct__law_free), sl__law_free⟩)
    (c__law_free : PySem.W.codeIn K cd__law_free "_law_free" = true)
    (k__law_free : PySem.W.keepIn K (.ref f__law_free) = true)
    (a__law_moved : PySem.W.nsIn K mainGlobals "_law_moved" = some (some (.ref f__law_moved)))
    (l__law_moved : K.lookup f__law_moved = some ⟨oc__law_moved, od__law_moved, .func (PySem.W.fnOf "_law_moved" "_law_moved" (defArgs s__law_moved) (defBody s__law_moved) (defScope s__law_moved) .none kV__law_moved dc__law_moved pm__law_moved an__law_moved cd__law_moved ct__law_moved), sl__law_moved⟩)
    (c__law_moved : PySem.W.codeIn K cd__law_moved "_law_moved" = true)
    (k__law_moved : PySem.W.keepIn K (.ref f__law_moved) = true)
    (a_check_cabinet : PySem.W.nsIn K mainGlobals "check_cabinet" = some (some (.ref f_check_cabinet)))
    (l_check_cabinet : K.lookup f_check_cabinet = some ⟨oc_check_cabinet, od_check_cabinet, .func (PySem.W.fnOf "check_cabinet" "check_cabinet" (defArgs s_check_cabinet) (defBody s_check_cabinet) (defScope s_check_cabinet) .none kV_check_cabinet dc_check_cabinet pm_check_cabinet an_check_cabinet cd_check_cabinet ct_check_cabinet), sl_check_cabinet⟩)
    (c_check_cabinet : PySem.W.codeIn K cd_check_cabinet "check_cabinet" = true)
    (k_check_cabinet : PySem.W.keepIn K (.ref f_check_cabinet) = true)
    (a_first_standing : PySem.W.nsIn K mainGlobals "first_standing" = some (some (.ref f_first_standing)))
    (l_first_standing : K.lookup f_first_standing = some ⟨oc_first_standing, od_first_standing, .func (PySem.W.fnOf "first_standing" "first_standing" (defArgs s_first_standing) (defBody s_first_standing) (defScope s_first_standing) .none kV_first_standing dc_first_standing pm_first_standing an_first_standing cd_first_standing ct_first_standing), sl_first_standing⟩)
    (c_first_standing : PySem.W.codeIn K cd_first_standing "first_standing" = true)
    (k_first_standing : PySem.W.keepIn K (.ref f_first_standing) = true)
    (a_rows_from : PySem.W.nsIn K mainGlobals "rows_from" = some (some (.ref f_rows_from)))
    (l_rows_from : K.lookup f_rows_from = some ⟨oc_rows_from, od_rows_from, .func (PySem.W.fnOf "rows_from" "rows_from" (defArgs s_rows_from) (defBody s_rows_from) (defScope s_rows_from) .none kV_rows_from dc_rows_from pm_rows_from an_rows_from cd_rows_from ct_rows_from), sl_rows_from⟩)
    (c_rows_from : PySem.W.codeIn K cd_rows_from "rows_from" = true)
    (k_rows_from : PySem.W.keepIn K (.ref f_rows_from) = true)
    (a_first_rows : PySem.W.nsIn K mainGlobals "first_rows" = some (some (.ref f_first_rows)))
    (l_first_rows : K.lookup f_first_rows = some ⟨oc_first_rows, od_first_rows, .func (PySem.W.fnOf "first_rows" "first_rows" (defArgs s_first_rows) (defBody s_first_rows) (defScope s_first_rows) .none kV_first_rows dc_first_rows pm_first_rows an_first_rows cd_first_rows ct_first_rows), sl_first_rows⟩)
    (c_first_rows : PySem.W.codeIn K cd_first_rows "first_rows" = true)
    (k_first_rows : PySem.W.keepIn K (.ref f_first_rows) = true)
    (a_first_apart : PySem.W.nsIn K mainGlobals "first_apart" = some (some (.ref f_first_apart)))
    (l_first_apart : K.lookup f_first_apart = some ⟨oc_first_apart, od_first_apart, .func (PySem.W.fnOf "first_apart" "first_apart" (defArgs s_first_apart) (defBody s_first_apart) (defScope s_first_apart) .none kV_first_apart dc_first_apart pm_first_apart an_first_apart cd_first_apart ct_first_apart), sl_first_apart⟩)
    (c_first_apart : PySem.W.codeIn K cd_first_apart "first_apart" = true)
    (k_first_apart : PySem.W.keepIn K (.ref f_first_apart) = true)
    (a_alike : PySem.W.nsIn K mainGlobals "alike" = some (some (.ref f_alike)))
    (l_alike : K.lookup f_alike = some ⟨oc_alike, od_alike, .func (PySem.W.fnOf "alike" "alike" (defArgs s_alike) (defBody s_alike) (defScope s_alike) .none kV_alike dc_alike pm_alike an_alike cd_alike ct_alike), sl_alike⟩)
    (c_alike : PySem.W.codeIn K cd_alike "alike" = true)
    (k_alike : PySem.W.keepIn K (.ref f_alike) = true)
    (a__law_refused : PySem.W.nsIn K mainGlobals "_law_refused" = some (some (.ref f__law_refused)))
    (l__law_refused : K.lookup f__law_refused = some ⟨oc__law_refused, od__law_refused, .func (PySem.W.fnOf "_law_refused" "_law_refused" (defArgs s__law_refused) (defBody s__law_refused) (defScope s__law_refused) .none kV__law_refused dc__law_refused pm__law_refused an__law_refused cd__law_refused ct__law_refused), sl__law_refused⟩)
    (c__law_refused : PySem.W.codeIn K cd__law_refused "_law_refused" = true)
    (k__law_refused : PySem.W.keepIn K (.ref f__law_refused) = true)
    (a__law_near : PySem.W.nsIn K mainGlobals "_law_near" = some (some (.ref f__law_near)))
    (l__law_near : K.lookup f__law_near = some ⟨oc__law_near, od__law_near, .func (PySem.W.fnOf "_law_near" "_law_near" (defArgs s__law_near) (defBody s__law_near) (defScope s__law_near) .none kV__law_near dc__law_near pm__law_near an__law_near cd__law_near ct__law_near), sl__law_near⟩)
    (c__law_near : PySem.W.codeIn K cd__law_near "_law_near" = true)
    (k__law_near : PySem.W.keepIn K (.ref f__law_near) = true)
    (a__law_apart : PySem.W.nsIn K mainGlobals "_law_apart" = some (some (.ref f__law_apart)))
    (l__law_apart : K.lookup f__law_apart = some ⟨oc__law_apart, od__law_apart, .func (PySem.W.fnOf "_law_apart" "_law_apart" (defArgs s__law_apart) (defBody s__law_apart) (defScope s__law_apart) .none kV__law_apart dc__law_apart pm__law_apart an__law_apart cd__law_apart ct__law_apart), sl__law_apart⟩)
    (c__law_apart : PySem.W.codeIn K cd__law_apart "_law_apart" = true)
    (k__law_apart : PySem.W.keepIn K (.ref f__law_apart) = true)
    (a_law : PySem.W.nsIn K mainGlobals "law" = some (some (.ref f_law)))
    (l_law : K.lookup f_law = some ⟨oc_law, od_law, .func (PySem.W.fnOf "law" "law" (defArgs s_law) (defBody s_law) (defScope s_law) .none kV_law dc_law pm_law an_law cd_law ct_law), sl_law⟩)
    (c_law : PySem.W.codeIn K cd_law "law" = true)
    (k_law : PySem.W.keepIn K (.ref f_law) = true)
    (aC : PySem.W.nsIn K mainGlobals "Cabinet" = some (some (.ref C)))
    (pg : PySem.W.plainGet K C Str.empty = true)
    (hd : PySem.W.hasDictIn K C = true)
    (po : PySem.W.plainOver K C = true)
    (sa : PySem.W.findIn K (.ref C) "__setattr__" = some (some (.builtin "object.__setattr__")))
    (mk : PySem.W.makesIn K C = true)
    (kc : PySem.W.keepIn K (.ref C) = true)
    (nD : PySem.W.findIn K (.ref C) "_drawers" = some none)
    (nB : PySem.W.findIn K (.ref C) "_bars" = some none)
    (a_Cabinet___init__ : PySem.W.findIn K (.ref C) "__init__" = some (some (.ref f_Cabinet___init__)))
    (l_Cabinet___init__ : K.lookup f_Cabinet___init__ = some ⟨oc_Cabinet___init__, od_Cabinet___init__, .func (PySem.W.fnOf "__init__" "Cabinet.__init__" (defArgs sInit) (defBody sInit) (defScope sInit) .none kV_Cabinet___init__ dc_Cabinet___init__ pm_Cabinet___init__ an_Cabinet___init__ cd_Cabinet___init__ ct_Cabinet___init__), sl_Cabinet___init__⟩)
    (c_Cabinet___init__ : PySem.W.codeIn K cd_Cabinet___init__ "Cabinet.__init__" = true)
    (k_Cabinet___init__ : PySem.W.keepIn K (.ref f_Cabinet___init__) = true)
    (i_init : PySem.W.isFn K (.ref f_Cabinet___init__) = true)
    (pa_drawers : PySem.W.findIn K (.ref C) "drawers" = some (some (.ref p_drawers)))
    (pg_drawers : PySem.W.specialIn K (.ref p_drawers) "__get__" = some (some (.builtin "property.__get__")))
    (pt_drawers : PySem.W.takesIn K (.ref p_drawers) = some true)
    (pr_drawers : PySem.W.recIn K p_drawers "property" = some (.ref f_Cabinet_drawers :: rest_drawers))
    (l_Cabinet_drawers : K.lookup f_Cabinet_drawers = some ⟨oc_Cabinet_drawers, od_Cabinet_drawers, .func (PySem.W.fnOf "drawers" "Cabinet.drawers" (defArgs sDrawers) (defBody sDrawers) (defScope sDrawers) .none kV_Cabinet_drawers dc_Cabinet_drawers pm_Cabinet_drawers an_Cabinet_drawers cd_Cabinet_drawers ct_Cabinet_drawers), sl_Cabinet_drawers⟩)
    (c_Cabinet_drawers : PySem.W.codeIn K cd_Cabinet_drawers "Cabinet.drawers" = true)
    (k_Cabinet_drawers : PySem.W.keepIn K (.ref f_Cabinet_drawers) = true)
    (pa_bars : PySem.W.findIn K (.ref C) "bars" = some (some (.ref p_bars)))
    (pg_bars : PySem.W.specialIn K (.ref p_bars) "__get__" = some (some (.builtin "property.__get__")))
    (pt_bars : PySem.W.takesIn K (.ref p_bars) = some true)
    (pr_bars : PySem.W.recIn K p_bars "property" = some (.ref f_Cabinet_bars :: rest_bars))
    (l_Cabinet_bars : K.lookup f_Cabinet_bars = some ⟨oc_Cabinet_bars, od_Cabinet_bars, .func (PySem.W.fnOf "bars" "Cabinet.bars" (defArgs sBars) (defBody sBars) (defScope sBars) .none kV_Cabinet_bars dc_Cabinet_bars pm_Cabinet_bars an_Cabinet_bars cd_Cabinet_bars ct_Cabinet_bars), sl_Cabinet_bars⟩)
    (c_Cabinet_bars : PySem.W.codeIn K cd_Cabinet_bars "Cabinet.bars" = true)
    (k_Cabinet_bars : PySem.W.keepIn K (.ref f_Cabinet_bars) = true)
    (ci1 : PySem.W.findIn K (.ref C) "__class__" = some (some (.builtin "object.__class__")))
    (ci2 : PySem.W.specialIn K (.builtin "object.__class__") "__get__" = some (some (.builtin "getset_descriptor.__get__")))
    (ci3 : PySem.W.takesIn K (.builtin "object.__class__") = some true)
    (ci4 : PySem.W.mroIn K C (.type "object") = some true)
    (ci5 : PySem.W.kitOne K (.ref C) (.ref C) = some true)
    (z_isinstance : PySem.W.nsIn K mainGlobals "isinstance" = some none)
    (z_int : PySem.W.nsIn K mainGlobals "int" = some none)
    (z_bool : PySem.W.nsIn K mainGlobals "bool" = some none)
    (z_tuple : PySem.W.nsIn K mainGlobals "tuple" = some none)
    (z_len : PySem.W.nsIn K mainGlobals "len" = some none)
    (z_enumerate : PySem.W.nsIn K mainGlobals "enumerate" = some none)
    (z_range : PySem.W.nsIn K mainGlobals "range" = some none)
    (z_sorted : PySem.W.nsIn K mainGlobals "sorted" = some none)
    (z_list : PySem.W.nsIn K mainGlobals "list" = some none)
    (z_set : PySem.W.nsIn K mainGlobals "set" = some none)
    (z_any : PySem.W.nsIn K mainGlobals "any" = some none)
    (aM : PySem.W.nsIn K mainGlobals "MOST_DRAWERS" = some (some (.int 7 tM)))
    (aW : PySem.W.nsIn K mainGlobals "WORDS" = some (some (.ref fW)))
    (lW : K.lookup fW = some ⟨.type "tuple", ddW, .seq #[.str "open" tW1, .str "shut" tW2] nW, slW⟩)
    (aS : PySem.W.nsIn K mainGlobals "SIGNS" = some (some (.ref fS)))
    (lS : K.lookup fS = some ⟨.type "dict", none, .dict esS nS, #[]⟩)
    (kS : PySem.W.KeysLit w.params esS.toList)
    (oS : PySem.W.nsIn K fS "open" = some (some (.str "o" tS1)))
    (sS : PySem.W.nsIn K fS "shut" = some (some (.str "s" tS2)))
    (aUn : PySem.W.nsIn K mainGlobals "Unlike" = some (some (.ref CUn)))
    (xUn : PySem.W.excIn K CUn [.type "ValueError", .type "Exception", .type "BaseException", .type "object"] "ValueError.__new__" = true)
    (kUn : PySem.W.keepIn K (.ref CUn) = true)
    (bUn : PySem.W.subIn K (.ref CUn) (.type "BaseException") = some true)
    (tUn : PySem.W.typeIn K (.ref CUn) = some (.type "type"))
    (iUn : PySem.W.isClsIn K CUn = true)
    (sUn : PySem.W.subIn K (.ref CUn) (.ref CUn) = some true)
    : ∃ fd : FuncData, (∀ (s : Shared) (v : Value), BindsTo s fd ⟨[v], []⟩ [("_law_script", v)]) ∧ ∀ base : Heap, K.In base → base.Ns mainGlobals mg → FnOk l.prog w K mg base CX0 20 fa fd ["_law_script"] (spLaw K) := by
  have e := hfa.symm.trans (PySem.W.mg_of X G a_law)
  cases e
  have F_is_integer := fun_mk (st := sIsInt) l_is_integer c_is_integer k_is_integer
  have b_is_integer := F_is_integer.binds (ps := ["value"]) fun _ _ _ _ _ _ us hl => match us, hl with | [_], _ => rfl
  have g_is_integer := PySem.W.mg_of X G a_is_integer
  have F_is_drawer_count := fun_mk (st := sIsCount) l_is_drawer_count c_is_drawer_count k_is_drawer_count
  have b_is_drawer_count := F_is_drawer_count.binds (ps := ["value"]) fun _ _ _ _ _ _ us hl => match us, hl with | [_], _ => rfl
  have g_is_drawer_count := PySem.W.mg_of X G a_is_drawer_count
  have F_is_drawer := fun_mk (st := sIsDrawer) l_is_drawer c_is_drawer k_is_drawer
  have b_is_drawer := F_is_drawer.binds (ps := ["drawers", "value"]) fun _ _ _ _ _ _ us hl => match us, hl with | [_, _], _ => rfl
  have g_is_drawer := PySem.W.mg_of X G a_is_drawer
  have F_is_bar := fun_mk (st := sIsBar) l_is_bar c_is_bar k_is_bar
  have b_is_bar := F_is_bar.binds (ps := ["drawers", "value"]) fun _ _ _ _ _ _ us hl => match us, hl with | [_, _], _ => rfl
  have g_is_bar := PySem.W.mg_of X G a_is_bar
  have F_check_drawers := fun_mk (st := sCheckDrawers) l_check_drawers c_check_drawers k_check_drawers
  have b_check_drawers := F_check_drawers.binds (ps := ["drawers"]) fun _ _ _ _ _ _ us hl => match us, hl with | [_], _ => rfl
  have g_check_drawers := PySem.W.mg_of X G a_check_drawers
  have F_check_bars := fun_mk (st := sCheckBars) l_check_bars c_check_bars k_check_bars
  have b_check_bars := F_check_bars.binds (ps := ["drawers", "bars"]) fun _ _ _ _ _ _ us hl => match us, hl with | [_, _], _ => rfl
  have g_check_bars := PySem.W.mg_of X G a_check_bars
  have F__law_taken := fun_mk (st := sTaken) l__law_taken c__law_taken k__law_taken
  have b__law_taken := F__law_taken.binds (ps := ["_law_row", "_law_many"]) fun _ _ _ _ _ _ us hl => match us, hl with | [_, _], _ => rfl
  have g__law_taken := PySem.W.mg_of X G a__law_taken
  have F__law_parts := fun_mk (st := sParts) l__law_parts c__law_parts k__law_parts
  have b__law_parts := F__law_parts.binds (ps := ["_law_row", "_law_most"]) fun _ _ _ _ _ _ us hl => match us, hl with | [_, _], _ => rfl
  have g__law_parts := PySem.W.mg_of X G a__law_parts
  have F__law_made := fun_mk (st := sMade) l__law_made c__law_made k__law_made
  have b__law_made := F__law_made.binds (ps := ["_law_d"]) fun _ _ _ _ _ _ us hl => match us, hl with | [_], _ => rfl
  have g__law_made := PySem.W.mg_of X G a__law_made
  have F_hinders := fun_mk (st := s_hinders) l_hinders c_hinders k_hinders
  have b_hinders := F_hinders.binds (ps := ["bar", "standing", "drawer"]) fun _ _ _ _ _ _ us hl => match us, hl with | [_, _, _], _ => rfl
  have g_hinders := PySem.W.mg_of X G a_hinders
  have F_moved := fun_mk (st := s_moved) l_moved c_moved k_moved
  have b_moved := F_moved.binds (ps := ["standing", "drawer"]) fun _ _ _ _ _ _ us hl => match us, hl with | [_, _], _ => rfl
  have g_moved := PySem.W.mg_of X G a_moved
  have F_bars_against := fun_mk (st := s_bars_against) l_bars_against c_bars_against k_bars_against
  have b_bars_against := F_bars_against.binds (ps := ["cabinet", "standing", "drawer"]) fun _ _ _ _ _ _ us hl => match us, hl with | [_, _, _], _ => rfl
  have g_bars_against := PySem.W.mg_of X G a_bars_against
  have F_goes := fun_mk (st := s_goes) l_goes c_goes k_goes
  have b_goes := F_goes.binds (ps := ["cabinet", "standing", "drawer"]) fun _ _ _ _ _ _ us hl => match us, hl with | [_, _, _], _ => rfl
  have g_goes := PySem.W.mg_of X G a_goes
  have F_free_drawers := fun_mk (st := s_free_drawers) l_free_drawers c_free_drawers k_free_drawers
  have b_free_drawers := F_free_drawers.binds (ps := ["cabinet", "standing"]) fun _ _ _ _ _ _ us hl => match us, hl with | [_, _], _ => rfl
  have g_free_drawers := PySem.W.mg_of X G a_free_drawers
  have F__law_hold := fun_mk (st := s__law_hold) l__law_hold c__law_hold k__law_hold
  have b__law_hold := F__law_hold.binds (ps := ["_law_bar", "_law_standing", "_law_drawer"]) fun _ _ _ _ _ _ us hl => match us, hl with | [_, _, _], _ => rfl
  have g__law_hold := PySem.W.mg_of X G a__law_hold
  have F__law_free := fun_mk (st := s__law_free) l__law_free c__law_free k__law_free
  have b__law_free := F__law_free.binds (ps := ["_law_d", "_law_standing"]) fun _ _ _ _ _ _ us hl => match us, hl with | [_, _], _ => rfl
  have g__law_free := PySem.W.mg_of X G a__law_free
  have F__law_moved := fun_mk (st := s__law_moved) l__law_moved c__law_moved k__law_moved
  have b__law_moved := F__law_moved.binds (ps := ["_law_standing", "_law_drawer"]) fun _ _ _ _ _ _ us hl => match us, hl with | [_, _], _ => rfl
  have g__law_moved := PySem.W.mg_of X G a__law_moved
  have F_check_cabinet := fun_mk (st := s_check_cabinet) l_check_cabinet c_check_cabinet k_check_cabinet
  have b_check_cabinet := F_check_cabinet.binds (ps := ["cabinet"]) fun _ _ _ _ _ _ us hl => match us, hl with | [_], _ => rfl
  have g_check_cabinet := PySem.W.mg_of X G a_check_cabinet
  have F_first_standing := fun_mk (st := s_first_standing) l_first_standing c_first_standing k_first_standing
  have b_first_standing := F_first_standing.binds (ps := ["drawers"]) fun _ _ _ _ _ _ us hl => match us, hl with | [_], _ => rfl
  have g_first_standing := PySem.W.mg_of X G a_first_standing
  have F_rows_from := fun_mk (st := s_rows_from) l_rows_from c_rows_from k_rows_from
  have b_rows_from := F_rows_from.binds (ps := ["cabinet", "standing"]) fun _ _ _ _ _ _ us hl => match us, hl with | [_, _], _ => rfl
  have g_rows_from := PySem.W.mg_of X G a_rows_from
  have F_first_rows := fun_mk (st := s_first_rows) l_first_rows c_first_rows k_first_rows
  have b_first_rows := F_first_rows.binds (ps := ["cabinet"]) fun _ _ _ _ _ _ us hl => match us, hl with | [_], _ => rfl
  have g_first_rows := PySem.W.mg_of X G a_first_rows
  have F_first_apart := fun_mk (st := s_first_apart) l_first_apart c_first_apart k_first_apart
  have b_first_apart := F_first_apart.binds (ps := ["one", "other"]) fun _ _ _ _ _ _ us hl => match us, hl with | [_, _], _ => rfl
  have g_first_apart := PySem.W.mg_of X G a_first_apart
  have F_alike := fun_mk (st := s_alike) l_alike c_alike k_alike
  have b_alike := F_alike.binds (ps := ["one", "other"]) fun _ _ _ _ _ _ us hl => match us, hl with | [_, _], _ => rfl
  have g_alike := PySem.W.mg_of X G a_alike
  have F__law_refused := fun_mk (st := s__law_refused) l__law_refused c__law_refused k__law_refused
  have b__law_refused := F__law_refused.binds (ps := ["_law_kind", "_law_one", "_law_other"]) fun _ _ _ _ _ _ us hl => match us, hl with | [_, _, _], _ => rfl
  have g__law_refused := PySem.W.mg_of X G a__law_refused
  have F__law_near := fun_mk (st := s__law_near) l__law_near c__law_near k__law_near
  have b__law_near := F__law_near.binds (ps := ["_law_row", "_law_d"]) fun _ _ _ _ _ _ us hl => match us, hl with | [_, _], _ => rfl
  have g__law_near := PySem.W.mg_of X G a__law_near
  have F__law_apart := fun_mk (st := s__law_apart) l__law_apart c__law_apart k__law_apart
  have b__law_apart := F__law_apart.binds (ps := ["_law_one", "_law_other"]) fun _ _ _ _ _ _ us hl => match us, hl with | [_, _], _ => rfl
  have g__law_apart := PySem.W.mg_of X G a__law_apart
  have F_law := fun_mk (st := s_law) l_law c_law k_law
  have b_law := F_law.binds (ps := ["_law_script"]) fun _ _ _ _ _ _ us hl => match us, hl with | [_], _ => rfl
  have g_law := PySem.W.mg_of X G a_law
  have F_Cabinet___init__ := fun_mk (st := sInit) l_Cabinet___init__ c_Cabinet___init__ k_Cabinet___init__
  have b_Cabinet___init__ := F_Cabinet___init__.binds (ps := ["self", "drawers", "bars"]) fun _ _ _ _ _ _ us hl => match us, hl with | [_, _, _], _ => rfl
  have F_Cabinet_drawers := fun_mk (st := sDrawers) l_Cabinet_drawers c_Cabinet_drawers k_Cabinet_drawers
  have b_Cabinet_drawers := F_Cabinet_drawers.binds (ps := ["self"]) fun _ _ _ _ _ _ us hl => match us, hl with | [_], _ => rfl
  have F_Cabinet_bars := fun_mk (st := sBars) l_Cabinet_bars c_Cabinet_bars k_Cabinet_bars
  have b_Cabinet_bars := F_Cabinet_bars.binds (ps := ["self"]) fun _ _ _ _ _ _ us hl => match us, hl with | [_], _ => rfl
  have TC : CabT K mg C := ⟨⟨pg, hd, po, sa⟩, nD, nB, PySem.W.mg_of X G aC⟩
  have MC : Mk K C f_Cabinet___init__ := ⟨mk, a_Cabinet___init__, i_init, kc⟩
  have IC : CabI K mg C := ⟨⟨pg, hd, po, sa⟩, PySem.W.mg_of X G aC, ci1, ci2, ci3, ci4, ci5⟩
  have TB : Bt mg := ⟨PySem.W.mg_none_of X G z_isinstance, PySem.W.mg_none_of X G z_int, PySem.W.mg_none_of X G z_bool, PySem.W.mg_none_of X G z_tuple, PySem.W.mg_none_of X G z_len, PySem.W.mg_none_of X G z_enumerate, PySem.W.mg_none_of X G z_range, PySem.W.mg_none_of X G z_sorted⟩
  have n_isinstance := PySem.W.mg_none_of X G z_isinstance
  have n_int := PySem.W.mg_none_of X G z_int
  have n_bool := PySem.W.mg_none_of X G z_bool
  have n_tuple := PySem.W.mg_none_of X G z_tuple
  have n_len := PySem.W.mg_none_of X G z_len
  have n_enumerate := PySem.W.mg_none_of X G z_enumerate
  have n_range := PySem.W.mg_none_of X G z_range
  have n_sorted := PySem.W.mg_none_of X G z_sorted
  have n_list := PySem.W.mg_none_of X G z_list
  have n_set := PySem.W.mg_none_of X G z_set
  have n_any := PySem.W.mg_none_of X G z_any
  have gM := PySem.W.mg_of X G aM
  have gW := PySem.W.mg_of X G aW
  have hW : ∀ H, SqT K H fW [.str "open", .str "shut"] := fun H => .inr ⟨_, _, _, lW, rfl, rfl, by show 2 ≤ sizeLine; decide, .cons ⟨_, rfl⟩ (.cons ⟨_, rfl⟩ .nil)⟩
  have gS := PySem.W.mg_of X G aS
  have TS : SgT K w mg fS := ⟨gS, ⟨esS, nS, _, lS, kS, oS, _, rfl⟩, ⟨esS, nS, _, lS, kS, sS, _, rfl⟩⟩
  have ETUn : ErrT K mg "Unlike" CUn := ⟨PySem.W.mg_of X G aUn, xUn, kUn, bUn, tUn⟩
  have EXUn := exm_of bUn iUn tUn sUn
  refine ⟨PySem.W.fnOf "law" "law" (defArgs s_law) (defBody s_law) (defScope s_law) .none kV_law dc_law pm_law an_law cd_law ct_law, fun s v => .of_eq rfl, fun base hKX hGX => ?_⟩
  have OD := ok_getD (P := l.prog) (w := w) (base := base) F_Cabinet_drawers TC
  have OB := ok_getB (P := l.prog) (w := w) (base := base) F_Cabinet_bars TC
  have CP : CabP l.prog w K mg base C := ⟨TC.cl, ⟨_, _, _, ⟨pa_drawers, pg_drawers, pt_drawers, ⟨_, pr_drawers⟩⟩, OD, b_Cabinet_drawers⟩, ⟨_, _, _, ⟨pa_bars, pg_bars, pt_bars, ⟨_, pr_bars⟩⟩, OB, b_Cabinet_bars⟩⟩
  have O__law_taken := ok_taken (P := l.prog) (w := w) (base := base) F__law_taken TB
  have O__law_parts := ok_parts F__law_parts TB O__law_taken g__law_taken k__law_taken b__law_taken
  have O_is_integer := ok_isInt (P := l.prog) (w := w) (base := base) F_is_integer TB
  have O_is_drawer_count := ok_isCount F_is_drawer_count TB O_is_integer g_is_integer k_is_integer b_is_integer ⟨_, gM⟩
  have O_check_drawers := ok_checkDrawers F_check_drawers O_is_drawer_count g_is_drawer_count k_is_drawer_count b_is_drawer_count
  have O_is_drawer := ok_isDrawer F_is_drawer TB O_is_integer g_is_integer k_is_integer b_is_integer
  have O_is_bar := ok_isBar F_is_bar TB O_is_drawer g_is_drawer k_is_drawer b_is_drawer ⟨fW, gW, hW⟩
  have O_check_bars := ok_checkBars F_check_bars TB O_is_bar g_is_bar k_is_bar b_is_bar
  have O_Cabinet___init__ := ok_init F_Cabinet___init__ TC O_check_drawers g_check_drawers k_check_drawers b_check_drawers O_check_bars g_check_bars k_check_bars b_check_bars
  have O__law_made := ok_made F__law_made TC MC O_Cabinet___init__ b_Cabinet___init__
  have O__law_near := ok_lawNear F__law_near TB n_list n_set O__law_taken g__law_taken k__law_taken b__law_taken
  have O__law_hold := ok_lawHold (P := l.prog) (w := w) (mg := mg) (base := base) F__law_hold
  have O__law_free := ok_lawFree F__law_free TB O__law_hold g__law_hold k__law_hold b__law_hold n_any
  have O__law_moved := ok_lawMoved (P := l.prog) (w := w) (base := base) F__law_moved TB
  have O__law_apart := ok_lawApart F__law_apart TB O__law_free g__law_free k__law_free b__law_free O__law_moved g__law_moved k__law_moved b__law_moved
  have O_check_cabinet := ok_ckCab (P := l.prog) (w := w) (base := base) F_check_cabinet TB IC
  have O_x_faU := ok_firstApartU F_first_apart CP ETUn O_check_cabinet g_check_cabinet k_check_cabinet b_check_cabinet
  have O_x_alU := ok_alikeU F_alike O_x_faU g_first_apart k_first_apart b_first_apart
  have O__law_refused := ok_refU F__law_refused ETUn EXUn O_x_alU g_alike k_alike b_alike O_x_faU g_first_apart k_first_apart b_first_apart
  have O_hinders := ok_hinders (P := l.prog) (base := base) F_hinders TS
  have O_bars_against := ok_against F_bars_against CP O_hinders g_hinders k_hinders b_hinders
  have O_goes := ok_goes F_goes O_bars_against g_bars_against k_bars_against b_bars_against
  have O_free_drawers := ok_freeDrawers F_free_drawers TB CP O_goes g_goes k_goes b_goes
  have O_moved := ok_moved (P := l.prog) (base := base) F_moved TS
  have O_rows_from := ok_rowsFrom F_rows_from TB O_free_drawers g_free_drawers k_free_drawers b_free_drawers O_moved g_moved k_moved b_moved
  have O_first_standing := ok_first (P := l.prog) (base := base) F_first_standing TS
  have O_first_rows := ok_firstRows F_first_rows CP O_rows_from g_rows_from k_rows_from b_rows_from O_first_standing g_first_standing k_first_standing b_first_standing
  have O_first_apart := ok_apart F_first_apart TB CP O_check_cabinet g_check_cabinet k_check_cabinet b_check_cabinet O_first_rows g_first_rows k_first_rows b_first_rows O_goes g_goes k_goes b_goes
  have O_alike := ok_alike F_alike O_first_apart g_first_apart k_first_apart b_first_apart
  exact ok_law F_law TB TC MC O_Cabinet___init__ b_Cabinet___init__ O__law_taken g__law_taken k__law_taken b__law_taken O__law_parts g__law_parts k__law_parts b__law_parts O__law_made g__law_made k__law_made b__law_made O__law_near g__law_near k__law_near b__law_near O__law_apart g__law_apart k__law_apart b__law_apart O__law_refused g__law_refused k__law_refused b__law_refused O_first_apart g_first_apart k_first_apart b_first_apart O_alike g_alike k_alike b_alike
end DL


set_option Elab.async false
set_option linter.all false
set_option maxRecDepth 100000
set_option maxHeartbeats 2000000
/-! A head whose facts are read off by a Hook: functions by their parts, the rest by Bools. -/
namespace HX
open PySem PySem.Spec PyProof.Rows L2
abbrev Fr := PySem.W.Frag
/-! ### what the Hook looks at -/
def fdA (K : Fr) (f : Addr) : Option FuncData := match K.lookup f with
  | some ⟨_, _, .func fd, _⟩ => some fd
  | _ => none
abbrev FnL : Type := Option (Str × Str × Arguments × FuncBody × Scope × Addr × List Str × Value × Addr)
def fnL (K : Fr) (f : Addr) : FnL := (fdA K f).map fun fd => (fd.name, fd.qualname, fd.params, fd.body, fd.scope, fd.globals, fd.closure.map (·.1), fd.defaults, fd.builtins)
/-- a def: its address, its parts; own: it holds its class in a cell -/
structure FD where
  ad : Fr → Addr
  name : Str
  qual : Str
  params : Arguments
  body : List Stmt
  scope : Scope
  own : List Str := []
def FD.val (d : FD) : FnL := some (d.name, d.qual, d.params, .stmts d.body, d.scope, mainGlobals, d.own, .none, builtinsNs)
def codeB (K : Fr) (f : Addr) (q : Str) : Bool := match fdA K f with
  | some fd => PySem.W.codeIn K fd.code q
  | none => false
theorem fdA_ok {K : Fr} {f : Addr} {fd : FuncData} (h : fdA K f = some fd) : ∃ oc od sl, K.lookup f = some ⟨oc, od, .func fd, sl⟩ := by
  unfold fdA at h
  cases q : K.lookup f with
  | none => rw [q] at h; cases h
  | some o =>
    obtain ⟨oc, od, dt, sl⟩ := o
    rw [q] at h
    cases dt with
    | func fd' =>
      injection h with h
      subst h
      exact ⟨oc, od, sl, rfl⟩
    | _ => cases h
theorem fnL_ok {K : Fr} {d : FD} (e : fnL K (d.ad K) = d.val) : ∃ fd, fdA K (d.ad K) = some fd ∧ fd.name = d.name ∧ fd.qualname = d.qual ∧ fd.params = d.params ∧ fd.body = .stmts d.body ∧ fd.scope = d.scope ∧ fd.globals = mainGlobals ∧ fd.closure.map (·.1) = d.own ∧ fd.defaults = .none ∧ fd.builtins = builtinsNs := by
  unfold fnL FD.val at e
  cases q : fdA K (d.ad K) with
  | none => rw [q] at e; cases e
  | some fd =>
    rw [q] at e
    simp only [Option.map_some, Option.some.injEq, Prod.mk.injEq] at e
    obtain ⟨h1, h2, h3, h4, h5, h6, h7, h8, h9⟩ := e
    exact ⟨fd, rfl, h1, h2, h3, h4, h5, h6, h7, h8, h9⟩
/-- a def without a cell -/
theorem fd_plain {K : Fr} {d : FD} (ho : d.own = []) (e : fnL K (d.ad K) = d.val) (c : codeB K (d.ad K) d.qual = true) :
    ∃ (od an : Option Addr) (sl : Array (Option Value)) (oc kV dc pm cd ct : Value), K.lookup (d.ad K) = some ⟨oc, od, .func (PySem.W.fnOf d.name d.qual d.params d.body d.scope .none kV dc pm an cd ct), sl⟩ ∧ PySem.W.codeIn K cd d.qual = true := by
  obtain ⟨fd, hf, h1, h2, h3, h4, h5, h6, h7, h8, h9⟩ := fnL_ok e
  obtain ⟨oc, od, sl, hl⟩ := fdA_ok hf
  unfold codeB at c
  rw [hf] at c
  obtain ⟨n1, n2, n3, n4, n5, n6, n7, n8, n9, n10, n11, n12, n13, n14, n15⟩ := fd
  simp only at h1 h2 h3 h4 h5 h6 h7 h8 h9 c
  rw [ho] at h7
  obtain rfl : n7 = [] := List.map_eq_nil_iff.mp h7
  subst h1 h2 h3 h4 h5 h6 h8 h9
  exact ⟨od, n12, sl, oc, n9, n10, n11, n13, n14, hl, c⟩
/-! ### a def with super(): its code's file, its cell -/
/-! ### an own error's class under another own one -/
/-! ### names, values -/
def intB (K : Fr) (a : Addr) (x : Str) (i : Int) : Bool := match PySem.W.nsIn K a x with
  | some (some (.int j _)) => decide (j = i)
  | _ => false
theorem int_ok {K : Fr} {a : Addr} {x : Str} {i : Int} (h : intB K a x i = true) : ∃ t, PySem.W.nsIn K a x = some (some (.int i t)) := by
  unfold intB at h
  split at h
  · rename_i j t e
    rw [of_decide_eq_true h] at e
    exact ⟨t, e⟩
  · cases h
def strB (K : Fr) (a : Addr) (x z : Str) : Bool := match PySem.W.nsIn K a x with
  | some (some (.str y _)) => decide (y = z)
  | _ => false
theorem str_ok {K : Fr} {a : Addr} {x z : Str} (h : strB K a x z = true) : ∃ t, PySem.W.nsIn K a x = some (some (.str z t)) := by
  unfold strB at h
  split at h
  · rename_i j t e
    rw [of_decide_eq_true h] at e
    exact ⟨t, e⟩
  · cases h
def tup2B (K : Fr) (a : Addr) (x y : Str) : Bool := match K.lookup a with
  | some ⟨.type c, _, .seq ⟨[.str p _, .str q _]⟩ _, _⟩ => decide (c = "tuple") && (decide (p = x) && decide (q = y))
  | _ => false
theorem tup2_ok {K : Fr} {a : Addr} {x y : Str} (h : tup2B K a x y = true) : ∃ dd t1 t2 n sl, K.lookup a = some ⟨.type "tuple", dd, .seq #[.str x t1, .str y t2] n, sl⟩ := by
  unfold tup2B at h
  split at h
  · rename_i c dd p t1 q t2 n sl e
    simp only [Bool.and_eq_true, decide_eq_true_eq] at h
    obtain ⟨rfl, rfl, rfl⟩ := h
    exact ⟨dd, t1, t2, n, sl, e⟩
  · cases h
/-- a property's def -/
def prA (K : Fr) (p : Addr) : Addr := match PySem.W.recIn K p "property" with
  | some (.ref f :: _) => f
  | _ => 0
def prR (K : Fr) (p : Addr) : List Value := match PySem.W.recIn K p "property" with
  | some (_ :: r) => r
  | _ => []
def prB (K : Fr) (p : Addr) : Bool := match PySem.W.recIn K p "property" with
  | some (.ref _ :: _) => true
  | _ => false
theorem pr_ok {K : Fr} {p : Addr} (h : prB K p = true) : PySem.W.recIn K p "property" = some (.ref (prA K p) :: prR K p) := by
  unfold prB at h
  unfold prA prR
  split at h
  · rename_i f r e
    rw [e]
  · cases h
/-- a dict's keys, with their hashes -/
def keyO (e : DictEntry) : Option (Str × Int) := match e.key with
  | .str x _ => some (x, e.hash)
  | _ => none
def dicO (K : Fr) (a : Addr) : Option (List (Option (Str × Int))) := match K.lookup a with
  | some ⟨.type c, none, .dict es _, ⟨[]⟩⟩ => (match c == "dict" with
    | true => some (es.toList.map keyO)
    | false => none)
  | _ => none
theorem dic_ok {K : Fr} {a : Addr} {P : Params} {ks : List Str} (h : dicO K a = some (ks.map fun x => some (x, PyData.keyHash P x))) : ∃ es n, K.lookup a = some ⟨.type "dict", none, .dict es n, #[]⟩ ∧ PySem.W.KeysLit P es.toList := by
  unfold dicO at h
  split at h
  · rename_i c es n e
    split at h
    · rename_i hc
      injection h with h
      rw [beq_iff_eq.mp hc] at e
      refine ⟨es, n, e, ?_⟩
      generalize es.toList = l at h
      clear e
      induction l generalizing ks with
      | nil => trivial
      | cons d l ih =>
        cases ks with
        | nil => cases h
        | cons k ks =>
          rw [List.map_cons, List.map_cons] at h
          injection h with h1 h2
          refine ⟨?_, ih h2⟩
          unfold keyO at h1
          split at h1
          · rename_i x t ek
            injection h1 with h1
            injection h1 with h1 h3
            subst h1
            exact ⟨_, t, ek, h3⟩
          · cases h1
    · cases h
  · cases h
/-! ### the Hook -/
def memN (a : Nat) : List Nat → Bool
  | [] => false
  | b :: r => match Nat.beq a b with
    | true => true
    | false => memN a r
/-- of these the ones that are not there yet -/
def newN : List Nat → List Nat → List Nat → List Nat
  | [], _, acc => acc
  | a :: r, seen, acc => match memN a seen with
    | true => newN r seen acc
    | false => (match memN a acc with
      | true => newN r seen acc
      | false => newN r seen (a :: acc))
/-- the objects that matter to the facts: a dict's values, a def's code and cells, a class's names and bases, a property's defs -/
def refsX (o : Obj) : List Addr := match o.data with
  | .dict es _ => es.toList.flatMap fun e => He.refV e.val
  | .func fd => He.refV fd.code ++ fd.closure.map (·.2)
  | .cls cd => cd.ns :: cd.mro.flatMap He.refV
  | .fields vs => (match o.cls with
    | .type c => (match c == "property" with
      | true => vs.toList.flatMap He.refV
      | false => [])
    | _ => [])
  | _ => []
def outX (g : Addr → Option Obj) : List Addr → List Addr
  | [] => []
  | a :: r => (match g a with
    | some o => refsX o
    | none => []) ++ outX g r
def walkX (g : Addr → Option Obj) : Nat → List Addr → List Addr → List Addr
  | 0, seen, _ => seen
  | n + 1, seen, front => (fun nw => walkX g n (seen ++ nw) nw) (newN (outX g front) seen [])
def asX (g : Addr → Option Obj) (n : Nat) : List Addr := walkX g n [mainGlobals, cStatics] [mainGlobals, cStatics]
abbrev AlX : Type := Bool × List FnL × Option (List (Option (Str × Int)))
structure Look where
  bs : Fr → List Bool
  fn : List FD
  di : Fr → Addr
  ks : List Str
def Look.obs (L : Look) (K : Fr) : AlX := ((L.bs K).all id, L.fn.map fun d => fnL K (d.ad K), dicO K (L.di K))
def Look.val (L : Look) (w : World) : AlX := (true, L.fn.map FD.val, some (L.ks.map fun x => some (x, PyData.keyHash w.params x)))
def Look.hook (n : Nat) (L : Look) : PySem.W.Hook where
  α := AlX
  obs := fun s => L.obs (He.frG s.heap.get? (asX s.heap.get? n))
  val := fun w => L.val w
  says := fun w h => ∃ K : Fr, K.In h ∧ L.obs K = L.val w
  of := fun _ _ e => ⟨_, He.frG_in, e⟩
  keeps := fun _ _ _ ⟨K, hK, c⟩ k => ⟨K, PySem.W.Frag.In.keeps hK k, c⟩
def Look.ob (n : Nat) (L : Look) (s : PySem.W.SharedT) : AlX := L.obs (He.frG (HandSHeadRun.getT s) (asX (HandSHeadRun.getT s) n))
theorem Look.ob_eq (n : Nat) (L : Look) (s : PySem.W.SharedT) : L.ob n s = (L.hook n).obs s.abs := by
  have e : HandSHeadRun.getT s = s.abs.heap.get? := funext (HandSHeadRun.getT_eq s)
  show L.obs (He.frG (HandSHeadRun.getT s) (asX (HandSHeadRun.getT s) n)) = L.obs (He.frG s.abs.heap.get? (asX s.abs.heap.get? n))
  rw [e]
section
variable {L : Look} {K : Fr} {w : World}
theorem Look.bit (c : L.obs K = L.val w) (i : Nat) {b : Bool} (h : (L.bs K)[i]? = some b) : b = true := by
  have c1 : (L.bs K).all id = true := congrArg (fun z : AlX => z.1) c
  exact List.all_eq_true.mp c1 b (List.mem_of_getElem? h)
theorem Look.eq (c : L.obs K = L.val w) (i : Nat) {p : Prop} [Decidable p] (h : (L.bs K)[i]? = some (decide p)) : p := of_decide_eq_true (Look.bit c i h)
theorem Look.def_ (c : L.obs K = L.val w) (i : Nat) {d : FD} (h : L.fn[i]? = some d) : fnL K (d.ad K) = d.val := by
  have e : L.fn.map (fun d => fnL K (d.ad K)) = L.fn.map FD.val := congrArg (fun z : AlX => z.2.1) c
  have e2 : (L.fn.map fun d => fnL K (d.ad K))[i]? = (L.fn.map FD.val)[i]? := by rw [e]
  rw [List.getElem?_map, List.getElem?_map, h] at e2
  exact Option.some.inj e2
theorem Look.dic (c : L.obs K = L.val w) : ∃ es n, K.lookup (L.di K) = some ⟨.type "dict", none, .dict es n, #[]⟩ ∧ PySem.W.KeysLit w.params es.toList := dic_ok (congrArg (fun z : AlX => z.2.2) c)
end
end HX

set_option Elab.async false
set_option linter.all false
set_option maxRecDepth 100000
set_option maxHeartbeats 0
namespace HDG
open PySem PySem.Spec PyProof.Rows L2 DL
abbrev R : PySem.W.OpenRow := PySem.W.OpenLaw.row PySem.Challenge.rw_drawerlocks_k12_whole_likeness
def l0 : List PySem.Str := [PySem.Str.ofString "__name__", PySem.Str.ofString "DrawerError", PySem.Str.ofString "BadDrawers", PySem.Str.ofString "BadBars", PySem.Str.ofString "BadCabinet", PySem.Str.ofString "Unlike", PySem.Str.ofString "MOST_DRAWERS", PySem.Str.ofString "WORDS", PySem.Str.ofString "SIGNS", PySem.Str.ofString "is_integer", PySem.Str.ofString "is_drawer_count", PySem.Str.ofString "is_drawer", PySem.Str.ofString "is_bar", PySem.Str.ofString "first_standing", PySem.Str.ofString "hinders", PySem.Str.ofString "moved", PySem.Str.ofString "Cabinet", PySem.Str.ofString "free_drawers", PySem.Str.ofString "goes", PySem.Str.ofString "bars_against", PySem.Str.ofString "check_drawers", PySem.Str.ofString "check_bars", PySem.Str.ofString "check_cabinet", PySem.Str.ofString "first_rows", PySem.Str.ofString "rows_from", PySem.Str.ofString "alike", PySem.Str.ofString "first_apart", PySem.Str.ofString "_law_taken", PySem.Str.ofString "_law_parts", PySem.Str.ofString "_law_made", PySem.Str.ofString "_law_hold", PySem.Str.ofString "_law_free", PySem.Str.ofString "_law_moved", PySem.Str.ofString "_law_near", PySem.Str.ofString "_law_apart"]
def l1 : List PySem.Str := [PySem.Str.ofString "_law_refused"]
def loose : List PySem.Str := l0 ++ l1
def fd0 : HX.FD := ⟨fun K => He.ga K "is_integer", "is_integer", "is_integer", (defArgs sIsInt), (defBody sIsInt), (defScope sIsInt), []⟩
def fd1 : HX.FD := ⟨fun K => He.ga K "is_drawer_count", "is_drawer_count", "is_drawer_count", (defArgs sIsCount), (defBody sIsCount), (defScope sIsCount), []⟩
def fd2 : HX.FD := ⟨fun K => He.ga K "is_drawer", "is_drawer", "is_drawer", (defArgs sIsDrawer), (defBody sIsDrawer), (defScope sIsDrawer), []⟩
def fd3 : HX.FD := ⟨fun K => He.ga K "is_bar", "is_bar", "is_bar", (defArgs sIsBar), (defBody sIsBar), (defScope sIsBar), []⟩
def fd4 : HX.FD := ⟨fun K => He.ga K "check_drawers", "check_drawers", "check_drawers", (defArgs sCheckDrawers), (defBody sCheckDrawers), (defScope sCheckDrawers), []⟩
def fd5 : HX.FD := ⟨fun K => He.ga K "check_bars", "check_bars", "check_bars", (defArgs sCheckBars), (defBody sCheckBars), (defScope sCheckBars), []⟩
def fd6 : HX.FD := ⟨fun K => He.ga K "_law_taken", "_law_taken", "_law_taken", (defArgs sTaken), (defBody sTaken), (defScope sTaken), []⟩
def fd7 : HX.FD := ⟨fun K => He.ga K "_law_parts", "_law_parts", "_law_parts", (defArgs sParts), (defBody sParts), (defScope sParts), []⟩
def fd8 : HX.FD := ⟨fun K => He.ga K "_law_made", "_law_made", "_law_made", (defArgs sMade), (defBody sMade), (defScope sMade), []⟩
def fd9 : HX.FD := ⟨fun K => He.ga K "hinders", "hinders", "hinders", (defArgs s_hinders), (defBody s_hinders), (defScope s_hinders), []⟩
def fd10 : HX.FD := ⟨fun K => He.ga K "moved", "moved", "moved", (defArgs s_moved), (defBody s_moved), (defScope s_moved), []⟩
def fd11 : HX.FD := ⟨fun K => He.ga K "bars_against", "bars_against", "bars_against", (defArgs s_bars_against), (defBody s_bars_against), (defScope s_bars_against), []⟩
def fd12 : HX.FD := ⟨fun K => He.ga K "goes", "goes", "goes", (defArgs s_goes), (defBody s_goes), (defScope s_goes), []⟩
def fd13 : HX.FD := ⟨fun K => He.ga K "free_drawers", "free_drawers", "free_drawers", (defArgs s_free_drawers), (defBody s_free_drawers), (defScope s_free_drawers), []⟩
def fd14 : HX.FD := ⟨fun K => He.ga K "_law_hold", "_law_hold", "_law_hold", (defArgs s__law_hold), (defBody s__law_hold), (defScope s__law_hold), []⟩
def fd15 : HX.FD := ⟨fun K => He.ga K "_law_free", "_law_free", "_law_free", (defArgs s__law_free), (defBody s__law_free), (defScope s__law_free), []⟩
def fd16 : HX.FD := ⟨fun K => He.ga K "_law_moved", "_law_moved", "_law_moved", (defArgs s__law_moved), (defBody s__law_moved), (defScope s__law_moved), []⟩
def fd17 : HX.FD := ⟨fun K => He.ga K "check_cabinet", "check_cabinet", "check_cabinet", (defArgs s_check_cabinet), (defBody s_check_cabinet), (defScope s_check_cabinet), []⟩
def fd18 : HX.FD := ⟨fun K => He.ga K "first_standing", "first_standing", "first_standing", (defArgs s_first_standing), (defBody s_first_standing), (defScope s_first_standing), []⟩
def fd19 : HX.FD := ⟨fun K => He.ga K "rows_from", "rows_from", "rows_from", (defArgs s_rows_from), (defBody s_rows_from), (defScope s_rows_from), []⟩
def fd20 : HX.FD := ⟨fun K => He.ga K "first_rows", "first_rows", "first_rows", (defArgs s_first_rows), (defBody s_first_rows), (defScope s_first_rows), []⟩
def fd21 : HX.FD := ⟨fun K => He.ga K "first_apart", "first_apart", "first_apart", (defArgs s_first_apart), (defBody s_first_apart), (defScope s_first_apart), []⟩
def fd22 : HX.FD := ⟨fun K => He.ga K "alike", "alike", "alike", (defArgs s_alike), (defBody s_alike), (defScope s_alike), []⟩
def fd23 : HX.FD := ⟨fun K => He.ga K "_law_refused", "_law_refused", "_law_refused", (defArgs s__law_refused), (defBody s__law_refused), (defScope s__law_refused), []⟩
def fd24 : HX.FD := ⟨fun K => He.ga K "_law_near", "_law_near", "_law_near", (defArgs s__law_near), (defBody s__law_near), (defScope s__law_near), []⟩
def fd25 : HX.FD := ⟨fun K => He.ga K "_law_apart", "_law_apart", "_law_apart", (defArgs s__law_apart), (defBody s__law_apart), (defScope s__law_apart), []⟩
def fd26 : HX.FD := ⟨fun K => He.ga K "law", "law", "law", (defArgs s_law), (defBody s_law), (defScope s_law), []⟩
def fd27 : HX.FD := ⟨fun K => He.ma K (He.ga K "Cabinet") "__init__", "__init__", "Cabinet.__init__", (defArgs sInit), (defBody sInit), (defScope sInit), []⟩
def fd28 : HX.FD := ⟨fun K => HX.prA K (He.ma K (He.ga K "Cabinet") "drawers"), "drawers", "Cabinet.drawers", (defArgs sDrawers), (defBody sDrawers), (defScope sDrawers), []⟩
def fd29 : HX.FD := ⟨fun K => HX.prA K (He.ma K (He.ga K "Cabinet") "bars"), "bars", "Cabinet.bars", (defArgs sBars), (defBody sBars), (defScope sBars), []⟩
def b0 (K : HX.Fr) (r : List Bool) : List Bool :=
  decide (PySem.W.nsIn K mainGlobals "is_integer" = some (some (.ref (He.ga K "is_integer")))) ::
  HX.codeB K (He.ga K "is_integer") "is_integer" ::
  PySem.W.keepIn K (.ref (He.ga K "is_integer")) ::
  decide (PySem.W.nsIn K mainGlobals "is_drawer_count" = some (some (.ref (He.ga K "is_drawer_count")))) ::
  HX.codeB K (He.ga K "is_drawer_count") "is_drawer_count" ::
  PySem.W.keepIn K (.ref (He.ga K "is_drawer_count")) ::
  decide (PySem.W.nsIn K mainGlobals "is_drawer" = some (some (.ref (He.ga K "is_drawer")))) ::
  HX.codeB K (He.ga K "is_drawer") "is_drawer" ::
  PySem.W.keepIn K (.ref (He.ga K "is_drawer")) ::
  decide (PySem.W.nsIn K mainGlobals "is_bar" = some (some (.ref (He.ga K "is_bar")))) ::
  HX.codeB K (He.ga K "is_bar") "is_bar" ::
  PySem.W.keepIn K (.ref (He.ga K "is_bar")) ::
  decide (PySem.W.nsIn K mainGlobals "check_drawers" = some (some (.ref (He.ga K "check_drawers")))) ::
  HX.codeB K (He.ga K "check_drawers") "check_drawers" ::
  PySem.W.keepIn K (.ref (He.ga K "check_drawers")) ::
  decide (PySem.W.nsIn K mainGlobals "check_bars" = some (some (.ref (He.ga K "check_bars")))) ::
  HX.codeB K (He.ga K "check_bars") "check_bars" ::
  PySem.W.keepIn K (.ref (He.ga K "check_bars")) ::
  decide (PySem.W.nsIn K mainGlobals "_law_taken" = some (some (.ref (He.ga K "_law_taken")))) ::
  HX.codeB K (He.ga K "_law_taken") "_law_taken" ::
  PySem.W.keepIn K (.ref (He.ga K "_law_taken")) ::
  decide (PySem.W.nsIn K mainGlobals "_law_parts" = some (some (.ref (He.ga K "_law_parts")))) ::
  HX.codeB K (He.ga K "_law_parts") "_law_parts" ::
  PySem.W.keepIn K (.ref (He.ga K "_law_parts")) ::
  decide (PySem.W.nsIn K mainGlobals "_law_made" = some (some (.ref (He.ga K "_law_made")))) ::
  HX.codeB K (He.ga K "_law_made") "_law_made" ::
  PySem.W.keepIn K (.ref (He.ga K "_law_made")) ::
  decide (PySem.W.nsIn K mainGlobals "hinders" = some (some (.ref (He.ga K "hinders")))) ::
  HX.codeB K (He.ga K "hinders") "hinders" ::
  PySem.W.keepIn K (.ref (He.ga K "hinders")) ::
  decide (PySem.W.nsIn K mainGlobals "moved" = some (some (.ref (He.ga K "moved")))) ::
  HX.codeB K (He.ga K "moved") "moved" ::
  PySem.W.keepIn K (.ref (He.ga K "moved")) ::
  decide (PySem.W.nsIn K mainGlobals "bars_against" = some (some (.ref (He.ga K "bars_against")))) ::
  HX.codeB K (He.ga K "bars_against") "bars_against" ::
  PySem.W.keepIn K (.ref (He.ga K "bars_against")) ::
  decide (PySem.W.nsIn K mainGlobals "goes" = some (some (.ref (He.ga K "goes")))) ::
  HX.codeB K (He.ga K "goes") "goes" ::
  PySem.W.keepIn K (.ref (He.ga K "goes")) ::
  decide (PySem.W.nsIn K mainGlobals "free_drawers" = some (some (.ref (He.ga K "free_drawers")))) ::
  r
def b1 (K : HX.Fr) (r : List Bool) : List Bool :=
  HX.codeB K (He.ga K "free_drawers") "free_drawers" ::
  PySem.W.keepIn K (.ref (He.ga K "free_drawers")) ::
  decide (PySem.W.nsIn K mainGlobals "_law_hold" = some (some (.ref (He.ga K "_law_hold")))) ::
  HX.codeB K (He.ga K "_law_hold") "_law_hold" ::
  PySem.W.keepIn K (.ref (He.ga K "_law_hold")) ::
  decide (PySem.W.nsIn K mainGlobals "_law_free" = some (some (.ref (He.ga K "_law_free")))) ::
  HX.codeB K (He.ga K "_law_free") "_law_free" ::
  PySem.W.keepIn K (.ref (He.ga K "_law_free")) ::
  decide (PySem.W.nsIn K mainGlobals "_law_moved" = some (some (.ref (He.ga K "_law_moved")))) ::
  HX.codeB K (He.ga K "_law_moved") "_law_moved" ::
  PySem.W.keepIn K (.ref (He.ga K "_law_moved")) ::
  decide (PySem.W.nsIn K mainGlobals "check_cabinet" = some (some (.ref (He.ga K "check_cabinet")))) ::
  HX.codeB K (He.ga K "check_cabinet") "check_cabinet" ::
  PySem.W.keepIn K (.ref (He.ga K "check_cabinet")) ::
  decide (PySem.W.nsIn K mainGlobals "first_standing" = some (some (.ref (He.ga K "first_standing")))) ::
  HX.codeB K (He.ga K "first_standing") "first_standing" ::
  PySem.W.keepIn K (.ref (He.ga K "first_standing")) ::
  decide (PySem.W.nsIn K mainGlobals "rows_from" = some (some (.ref (He.ga K "rows_from")))) ::
  HX.codeB K (He.ga K "rows_from") "rows_from" ::
  PySem.W.keepIn K (.ref (He.ga K "rows_from")) ::
  decide (PySem.W.nsIn K mainGlobals "first_rows" = some (some (.ref (He.ga K "first_rows")))) ::
  HX.codeB K (He.ga K "first_rows") "first_rows" ::
  PySem.W.keepIn K (.ref (He.ga K "first_rows")) ::
  decide (PySem.W.nsIn K mainGlobals "first_apart" = some (some (.ref (He.ga K "first_apart")))) ::
  HX.codeB K (He.ga K "first_apart") "first_apart" ::
  PySem.W.keepIn K (.ref (He.ga K "first_apart")) ::
  decide (PySem.W.nsIn K mainGlobals "alike" = some (some (.ref (He.ga K "alike")))) ::
  HX.codeB K (He.ga K "alike") "alike" ::
  PySem.W.keepIn K (.ref (He.ga K "alike")) ::
  decide (PySem.W.nsIn K mainGlobals "_law_refused" = some (some (.ref (He.ga K "_law_refused")))) ::
  HX.codeB K (He.ga K "_law_refused") "_law_refused" ::
  PySem.W.keepIn K (.ref (He.ga K "_law_refused")) ::
  decide (PySem.W.nsIn K mainGlobals "_law_near" = some (some (.ref (He.ga K "_law_near")))) ::
  HX.codeB K (He.ga K "_law_near") "_law_near" ::
  PySem.W.keepIn K (.ref (He.ga K "_law_near")) ::
  decide (PySem.W.nsIn K mainGlobals "_law_apart" = some (some (.ref (He.ga K "_law_apart")))) ::
  HX.codeB K (He.ga K "_law_apart") "_law_apart" ::
  PySem.W.keepIn K (.ref (He.ga K "_law_apart")) ::
  decide (PySem.W.nsIn K mainGlobals "law" = some (some (.ref (He.ga K "law")))) ::
  HX.codeB K (He.ga K "law") "law" ::
  r
def b2 (K : HX.Fr) (r : List Bool) : List Bool :=
  PySem.W.keepIn K (.ref (He.ga K "law")) ::
  decide (PySem.W.nsIn K mainGlobals "Cabinet" = some (some (.ref (He.ga K "Cabinet")))) ::
  PySem.W.plainGet K (He.ga K "Cabinet") Str.empty ::
  PySem.W.hasDictIn K (He.ga K "Cabinet") ::
  PySem.W.plainOver K (He.ga K "Cabinet") ::
  decide (PySem.W.findIn K (.ref (He.ga K "Cabinet")) "__setattr__" = some (some (.builtin "object.__setattr__"))) ::
  PySem.W.makesIn K (He.ga K "Cabinet") ::
  PySem.W.keepIn K (.ref (He.ga K "Cabinet")) ::
  decide (PySem.W.findIn K (.ref (He.ga K "Cabinet")) "_drawers" = some none) ::
  decide (PySem.W.findIn K (.ref (He.ga K "Cabinet")) "_bars" = some none) ::
  decide (PySem.W.findIn K (.ref (He.ga K "Cabinet")) "__init__" = some (some (.ref (He.ma K (He.ga K "Cabinet") "__init__")))) ::
  HX.codeB K (He.ma K (He.ga K "Cabinet") "__init__") "Cabinet.__init__" ::
  PySem.W.keepIn K (.ref (He.ma K (He.ga K "Cabinet") "__init__")) ::
  PySem.W.isFn K (.ref (He.ma K (He.ga K "Cabinet") "__init__")) ::
  decide (PySem.W.findIn K (.ref (He.ga K "Cabinet")) "drawers" = some (some (.ref (He.ma K (He.ga K "Cabinet") "drawers")))) ::
  decide (PySem.W.specialIn K (.ref (He.ma K (He.ga K "Cabinet") "drawers")) "__get__" = some (some (.builtin "property.__get__"))) ::
  decide (PySem.W.takesIn K (.ref (He.ma K (He.ga K "Cabinet") "drawers")) = some true) ::
  HX.prB K (He.ma K (He.ga K "Cabinet") "drawers") ::
  HX.codeB K (HX.prA K (He.ma K (He.ga K "Cabinet") "drawers")) "Cabinet.drawers" ::
  PySem.W.keepIn K (.ref (HX.prA K (He.ma K (He.ga K "Cabinet") "drawers"))) ::
  decide (PySem.W.findIn K (.ref (He.ga K "Cabinet")) "bars" = some (some (.ref (He.ma K (He.ga K "Cabinet") "bars")))) ::
  decide (PySem.W.specialIn K (.ref (He.ma K (He.ga K "Cabinet") "bars")) "__get__" = some (some (.builtin "property.__get__"))) ::
  decide (PySem.W.takesIn K (.ref (He.ma K (He.ga K "Cabinet") "bars")) = some true) ::
  HX.prB K (He.ma K (He.ga K "Cabinet") "bars") ::
  HX.codeB K (HX.prA K (He.ma K (He.ga K "Cabinet") "bars")) "Cabinet.bars" ::
  PySem.W.keepIn K (.ref (HX.prA K (He.ma K (He.ga K "Cabinet") "bars"))) ::
  decide (PySem.W.findIn K (.ref (He.ga K "Cabinet")) "__class__" = some (some (.builtin "object.__class__"))) ::
  decide (PySem.W.specialIn K (.builtin "object.__class__") "__get__" = some (some (.builtin "getset_descriptor.__get__"))) ::
  decide (PySem.W.takesIn K (.builtin "object.__class__") = some true) ::
  decide (PySem.W.mroIn K (He.ga K "Cabinet") (.type "object") = some true) ::
  decide (PySem.W.kitOne K (.ref (He.ga K "Cabinet")) (.ref (He.ga K "Cabinet")) = some true) ::
  decide (PySem.W.nsIn K mainGlobals "isinstance" = some none) ::
  decide (PySem.W.nsIn K mainGlobals "int" = some none) ::
  decide (PySem.W.nsIn K mainGlobals "bool" = some none) ::
  decide (PySem.W.nsIn K mainGlobals "tuple" = some none) ::
  decide (PySem.W.nsIn K mainGlobals "len" = some none) ::
  decide (PySem.W.nsIn K mainGlobals "enumerate" = some none) ::
  decide (PySem.W.nsIn K mainGlobals "range" = some none) ::
  decide (PySem.W.nsIn K mainGlobals "sorted" = some none) ::
  decide (PySem.W.nsIn K mainGlobals "list" = some none) ::
  r
def b3 (K : HX.Fr) (r : List Bool) : List Bool :=
  decide (PySem.W.nsIn K mainGlobals "set" = some none) ::
  decide (PySem.W.nsIn K mainGlobals "any" = some none) ::
  HX.intB K mainGlobals "MOST_DRAWERS" 7 ::
  decide (PySem.W.nsIn K mainGlobals "WORDS" = some (some (.ref (He.ga K "WORDS")))) ::
  HX.tup2B K (He.ga K "WORDS") "open" "shut" ::
  decide (PySem.W.nsIn K mainGlobals "SIGNS" = some (some (.ref (He.ga K "SIGNS")))) ::
  HX.strB K (He.ga K "SIGNS") "open" "o" ::
  HX.strB K (He.ga K "SIGNS") "shut" "s" ::
  decide (PySem.W.nsIn K mainGlobals "Unlike" = some (some (.ref (He.ga K "Unlike")))) ::
  PySem.W.excIn K (He.ga K "Unlike") [.type "ValueError", .type "Exception", .type "BaseException", .type "object"] "ValueError.__new__" ::
  PySem.W.keepIn K (.ref (He.ga K "Unlike")) ::
  decide (PySem.W.subIn K (.ref (He.ga K "Unlike")) (.type "BaseException") = some true) ::
  decide (PySem.W.typeIn K (.ref (He.ga K "Unlike")) = some (.type "type")) ::
  PySem.W.isClsIn K (He.ga K "Unlike") ::
  decide (PySem.W.subIn K (.ref (He.ga K "Unlike")) (.ref (He.ga K "Unlike")) = some true) ::
  r
def bs (K : HX.Fr) : List Bool := b0 K (b1 K (b2 K (b3 K ([]))))
def fn : List HX.FD := fd0 :: fd1 :: fd2 :: fd3 :: fd4 :: fd5 :: fd6 :: fd7 :: fd8 :: fd9 :: fd10 :: fd11 :: fd12 :: fd13 :: fd14 :: fd15 :: fd16 :: fd17 :: fd18 :: fd19 :: fd20 :: fd21 :: fd22 :: fd23 :: fd24 :: fd25 :: fd26 :: fd27 :: fd28 :: fd29 :: []
def L : HX.Look := ⟨bs, fn, fun K => He.ga K "SIGNS", ["open", "shut"]⟩
abbrev hk : PySem.W.Hook := HX.Look.hook 6 L
def ob (s : PySem.W.SharedT) : HX.AlX := HX.Look.ob 6 L s
theorem ob_eq (s : PySem.W.SharedT) : ob s = hk.obs s.abs := HX.Look.ob_eq 6 L s
theorem run0 (w : World) : HandSHeadRun.RunEq R (PySem.W.view R.prog [41]) hk ob 60000 loose (w.withFollow "special-get-raises" false) := fun os => by kernel_rfl
theorem run1 (w : World) : HandSHeadRun.RunEq R (PySem.W.view R.prog [41]) hk ob 60000 loose (w.withFollow "special-get-raises" true) := fun os => by kernel_rfl
theorem run (w : World) : HandSHeadRun.RunEq R (PySem.W.view R.prog [41]) hk ob 60000 loose w :=
  PySem.W.byRow2 "special-get-raises" (P := fun w => HandSHeadRun.RunEq R (PySem.W.view R.prog [41]) hk ob 60000 loose w) run0 run1 w
theorem facts {w : World} {K : HX.Fr} {h : Heap} {mg : Str → Option Value} {fa : Addr} (KX : K.In h) (G : h.Ns mainGlobals mg) (hmg : mg "law" = some (.ref fa)) (c : L.obs K = L.val w) :
    ∃ fd : FuncData, (∀ (s : Shared) (v : Value), BindsTo s fd ⟨[v], []⟩ [("_law_script", v)]) ∧ ∀ base : Heap, K.In base → base.Ns mainGlobals mg → FnOk (PySem.Challenge.rw_drawerlocks_k12_whole_likeness).prog w K mg base CX0 20 fa fd ["_law_script"] (spLaw K) := by
  have a_is_integer : PySem.W.nsIn K mainGlobals "is_integer" = some (some (.ref (He.ga K "is_integer"))) := HX.Look.eq c 0 rfl
  obtain ⟨_, _, _, _, _, _, _, _, _, l_is_integer, c_is_integer⟩ := HX.fd_plain (d := fd0) rfl (HX.Look.def_ c 0 rfl) (HX.Look.bit c 1 rfl)
  have k_is_integer : PySem.W.keepIn K (.ref (He.ga K "is_integer")) = true := HX.Look.bit c 2 rfl
  have a_is_drawer_count : PySem.W.nsIn K mainGlobals "is_drawer_count" = some (some (.ref (He.ga K "is_drawer_count"))) := HX.Look.eq c 3 rfl
  obtain ⟨_, _, _, _, _, _, _, _, _, l_is_drawer_count, c_is_drawer_count⟩ := HX.fd_plain (d := fd1) rfl (HX.Look.def_ c 1 rfl) (HX.Look.bit c 4 rfl)
  have k_is_drawer_count : PySem.W.keepIn K (.ref (He.ga K "is_drawer_count")) = true := HX.Look.bit c 5 rfl
  have a_is_drawer : PySem.W.nsIn K mainGlobals "is_drawer" = some (some (.ref (He.ga K "is_drawer"))) := HX.Look.eq c 6 rfl
  obtain ⟨_, _, _, _, _, _, _, _, _, l_is_drawer, c_is_drawer⟩ := HX.fd_plain (d := fd2) rfl (HX.Look.def_ c 2 rfl) (HX.Look.bit c 7 rfl)
  have k_is_drawer : PySem.W.keepIn K (.ref (He.ga K "is_drawer")) = true := HX.Look.bit c 8 rfl
  have a_is_bar : PySem.W.nsIn K mainGlobals "is_bar" = some (some (.ref (He.ga K "is_bar"))) := HX.Look.eq c 9 rfl
  obtain ⟨_, _, _, _, _, _, _, _, _, l_is_bar, c_is_bar⟩ := HX.fd_plain (d := fd3) rfl (HX.Look.def_ c 3 rfl) (HX.Look.bit c 10 rfl)
  have k_is_bar : PySem.W.keepIn K (.ref (He.ga K "is_bar")) = true := HX.Look.bit c 11 rfl
  have a_check_drawers : PySem.W.nsIn K mainGlobals "check_drawers" = some (some (.ref (He.ga K "check_drawers"))) := HX.Look.eq c 12 rfl
  obtain ⟨_, _, _, _, _, _, _, _, _, l_check_drawers, c_check_drawers⟩ := HX.fd_plain (d := fd4) rfl (HX.Look.def_ c 4 rfl) (HX.Look.bit c 13 rfl)
  have k_check_drawers : PySem.W.keepIn K (.ref (He.ga K "check_drawers")) = true := HX.Look.bit c 14 rfl
  have a_check_bars : PySem.W.nsIn K mainGlobals "check_bars" = some (some (.ref (He.ga K "check_bars"))) := HX.Look.eq c 15 rfl
  obtain ⟨_, _, _, _, _, _, _, _, _, l_check_bars, c_check_bars⟩ := HX.fd_plain (d := fd5) rfl (HX.Look.def_ c 5 rfl) (HX.Look.bit c 16 rfl)
  have k_check_bars : PySem.W.keepIn K (.ref (He.ga K "check_bars")) = true := HX.Look.bit c 17 rfl
  have a__law_taken : PySem.W.nsIn K mainGlobals "_law_taken" = some (some (.ref (He.ga K "_law_taken"))) := HX.Look.eq c 18 rfl
  obtain ⟨_, _, _, _, _, _, _, _, _, l__law_taken, c__law_taken⟩ := HX.fd_plain (d := fd6) rfl (HX.Look.def_ c 6 rfl) (HX.Look.bit c 19 rfl)
  have k__law_taken : PySem.W.keepIn K (.ref (He.ga K "_law_taken")) = true := HX.Look.bit c 20 rfl
  have a__law_parts : PySem.W.nsIn K mainGlobals "_law_parts" = some (some (.ref (He.ga K "_law_parts"))) := HX.Look.eq c 21 rfl
  obtain ⟨_, _, _, _, _, _, _, _, _, l__law_parts, c__law_parts⟩ := HX.fd_plain (d := fd7) rfl (HX.Look.def_ c 7 rfl) (HX.Look.bit c 22 rfl)
  have k__law_parts : PySem.W.keepIn K (.ref (He.ga K "_law_parts")) = true := HX.Look.bit c 23 rfl
  have a__law_made : PySem.W.nsIn K mainGlobals "_law_made" = some (some (.ref (He.ga K "_law_made"))) := HX.Look.eq c 24 rfl
  obtain ⟨_, _, _, _, _, _, _, _, _, l__law_made, c__law_made⟩ := HX.fd_plain (d := fd8) rfl (HX.Look.def_ c 8 rfl) (HX.Look.bit c 25 rfl)
  have k__law_made : PySem.W.keepIn K (.ref (He.ga K "_law_made")) = true := HX.Look.bit c 26 rfl
  have a_hinders : PySem.W.nsIn K mainGlobals "hinders" = some (some (.ref (He.ga K "hinders"))) := HX.Look.eq c 27 rfl
  obtain ⟨_, _, _, _, _, _, _, _, _, l_hinders, c_hinders⟩ := HX.fd_plain (d := fd9) rfl (HX.Look.def_ c 9 rfl) (HX.Look.bit c 28 rfl)
  have k_hinders : PySem.W.keepIn K (.ref (He.ga K "hinders")) = true := HX.Look.bit c 29 rfl
  have a_moved : PySem.W.nsIn K mainGlobals "moved" = some (some (.ref (He.ga K "moved"))) := HX.Look.eq c 30 rfl
  obtain ⟨_, _, _, _, _, _, _, _, _, l_moved, c_moved⟩ := HX.fd_plain (d := fd10) rfl (HX.Look.def_ c 10 rfl) (HX.Look.bit c 31 rfl)
  have k_moved : PySem.W.keepIn K (.ref (He.ga K "moved")) = true := HX.Look.bit c 32 rfl
  have a_bars_against : PySem.W.nsIn K mainGlobals "bars_against" = some (some (.ref (He.ga K "bars_against"))) := HX.Look.eq c 33 rfl
  obtain ⟨_, _, _, _, _, _, _, _, _, l_bars_against, c_bars_against⟩ := HX.fd_plain (d := fd11) rfl (HX.Look.def_ c 11 rfl) (HX.Look.bit c 34 rfl)
  have k_bars_against : PySem.W.keepIn K (.ref (He.ga K "bars_against")) = true := HX.Look.bit c 35 rfl
  have a_goes : PySem.W.nsIn K mainGlobals "goes" = some (some (.ref (He.ga K "goes"))) := HX.Look.eq c 36 rfl
  obtain ⟨_, _, _, _, _, _, _, _, _, l_goes, c_goes⟩ := HX.fd_plain (d := fd12) rfl (HX.Look.def_ c 12 rfl) (HX.Look.bit c 37 rfl)
  have k_goes : PySem.W.keepIn K (.ref (He.ga K "goes")) = true := HX.Look.bit c 38 rfl
  have a_free_drawers : PySem.W.nsIn K mainGlobals "free_drawers" = some (some (.ref (He.ga K "free_drawers"))) := HX.Look.eq c 39 rfl
  obtain ⟨_, _, _, _, _, _, _, _, _, l_free_drawers, c_free_drawers⟩ := HX.fd_plain (d := fd13) rfl (HX.Look.def_ c 13 rfl) (HX.Look.bit c 40 rfl)
  have k_free_drawers : PySem.W.keepIn K (.ref (He.ga K "free_drawers")) = true := HX.Look.bit c 41 rfl
  have a__law_hold : PySem.W.nsIn K mainGlobals "_law_hold" = some (some (.ref (He.ga K "_law_hold"))) := HX.Look.eq c 42 rfl
  obtain ⟨_, _, _, _, _, _, _, _, _, l__law_hold, c__law_hold⟩ := HX.fd_plain (d := fd14) rfl (HX.Look.def_ c 14 rfl) (HX.Look.bit c 43 rfl)
  have k__law_hold : PySem.W.keepIn K (.ref (He.ga K "_law_hold")) = true := HX.Look.bit c 44 rfl
  have a__law_free : PySem.W.nsIn K mainGlobals "_law_free" = some (some (.ref (He.ga K "_law_free"))) := HX.Look.eq c 45 rfl
  obtain ⟨_, _, _, _, _, _, _, _, _, l__law_free, c__law_free⟩ := HX.fd_plain (d := fd15) rfl (HX.Look.def_ c 15 rfl) (HX.Look.bit c 46 rfl)
  have k__law_free : PySem.W.keepIn K (.ref (He.ga K "_law_free")) = true := HX.Look.bit c 47 rfl
  have a__law_moved : PySem.W.nsIn K mainGlobals "_law_moved" = some (some (.ref (He.ga K "_law_moved"))) := HX.Look.eq c 48 rfl
  obtain ⟨_, _, _, _, _, _, _, _, _, l__law_moved, c__law_moved⟩ := HX.fd_plain (d := fd16) rfl (HX.Look.def_ c 16 rfl) (HX.Look.bit c 49 rfl)
  have k__law_moved : PySem.W.keepIn K (.ref (He.ga K "_law_moved")) = true := HX.Look.bit c 50 rfl
  have a_check_cabinet : PySem.W.nsIn K mainGlobals "check_cabinet" = some (some (.ref (He.ga K "check_cabinet"))) := HX.Look.eq c 51 rfl
  obtain ⟨_, _, _, _, _, _, _, _, _, l_check_cabinet, c_check_cabinet⟩ := HX.fd_plain (d := fd17) rfl (HX.Look.def_ c 17 rfl) (HX.Look.bit c 52 rfl)
  have k_check_cabinet : PySem.W.keepIn K (.ref (He.ga K "check_cabinet")) = true := HX.Look.bit c 53 rfl
  have a_first_standing : PySem.W.nsIn K mainGlobals "first_standing" = some (some (.ref (He.ga K "first_standing"))) := HX.Look.eq c 54 rfl
  obtain ⟨_, _, _, _, _, _, _, _, _, l_first_standing, c_first_standing⟩ := HX.fd_plain (d := fd18) rfl (HX.Look.def_ c 18 rfl) (HX.Look.bit c 55 rfl)
  have k_first_standing : PySem.W.keepIn K (.ref (He.ga K "first_standing")) = true := HX.Look.bit c 56 rfl
  have a_rows_from : PySem.W.nsIn K mainGlobals "rows_from" = some (some (.ref (He.ga K "rows_from"))) := HX.Look.eq c 57 rfl
  obtain ⟨_, _, _, _, _, _, _, _, _, l_rows_from, c_rows_from⟩ := HX.fd_plain (d := fd19) rfl (HX.Look.def_ c 19 rfl) (HX.Look.bit c 58 rfl)
  have k_rows_from : PySem.W.keepIn K (.ref (He.ga K "rows_from")) = true := HX.Look.bit c 59 rfl
  have a_first_rows : PySem.W.nsIn K mainGlobals "first_rows" = some (some (.ref (He.ga K "first_rows"))) := HX.Look.eq c 60 rfl
  obtain ⟨_, _, _, _, _, _, _, _, _, l_first_rows, c_first_rows⟩ := HX.fd_plain (d := fd20) rfl (HX.Look.def_ c 20 rfl) (HX.Look.bit c 61 rfl)
  have k_first_rows : PySem.W.keepIn K (.ref (He.ga K "first_rows")) = true := HX.Look.bit c 62 rfl
  have a_first_apart : PySem.W.nsIn K mainGlobals "first_apart" = some (some (.ref (He.ga K "first_apart"))) := HX.Look.eq c 63 rfl
  obtain ⟨_, _, _, _, _, _, _, _, _, l_first_apart, c_first_apart⟩ := HX.fd_plain (d := fd21) rfl (HX.Look.def_ c 21 rfl) (HX.Look.bit c 64 rfl)
  have k_first_apart : PySem.W.keepIn K (.ref (He.ga K "first_apart")) = true := HX.Look.bit c 65 rfl
  have a_alike : PySem.W.nsIn K mainGlobals "alike" = some (some (.ref (He.ga K "alike"))) := HX.Look.eq c 66 rfl
  obtain ⟨_, _, _, _, _, _, _, _, _, l_alike, c_alike⟩ := HX.fd_plain (d := fd22) rfl (HX.Look.def_ c 22 rfl) (HX.Look.bit c 67 rfl)
  have k_alike : PySem.W.keepIn K (.ref (He.ga K "alike")) = true := HX.Look.bit c 68 rfl
  have a__law_refused : PySem.W.nsIn K mainGlobals "_law_refused" = some (some (.ref (He.ga K "_law_refused"))) := HX.Look.eq c 69 rfl
  obtain ⟨_, _, _, _, _, _, _, _, _, l__law_refused, c__law_refused⟩ := HX.fd_plain (d := fd23) rfl (HX.Look.def_ c 23 rfl) (HX.Look.bit c 70 rfl)
  have k__law_refused : PySem.W.keepIn K (.ref (He.ga K "_law_refused")) = true := HX.Look.bit c 71 rfl
  have a__law_near : PySem.W.nsIn K mainGlobals "_law_near" = some (some (.ref (He.ga K "_law_near"))) := HX.Look.eq c 72 rfl
  obtain ⟨_, _, _, _, _, _, _, _, _, l__law_near, c__law_near⟩ := HX.fd_plain (d := fd24) rfl (HX.Look.def_ c 24 rfl) (HX.Look.bit c 73 rfl)
  have k__law_near : PySem.W.keepIn K (.ref (He.ga K "_law_near")) = true := HX.Look.bit c 74 rfl
  have a__law_apart : PySem.W.nsIn K mainGlobals "_law_apart" = some (some (.ref (He.ga K "_law_apart"))) := HX.Look.eq c 75 rfl
  obtain ⟨_, _, _, _, _, _, _, _, _, l__law_apart, c__law_apart⟩ := HX.fd_plain (d := fd25) rfl (HX.Look.def_ c 25 rfl) (HX.Look.bit c 76 rfl)
  have k__law_apart : PySem.W.keepIn K (.ref (He.ga K "_law_apart")) = true := HX.Look.bit c 77 rfl
  have a_law : PySem.W.nsIn K mainGlobals "law" = some (some (.ref (He.ga K "law"))) := HX.Look.eq c 78 rfl
  obtain ⟨_, _, _, _, _, _, _, _, _, l_law, c_law⟩ := HX.fd_plain (d := fd26) rfl (HX.Look.def_ c 26 rfl) (HX.Look.bit c 79 rfl)
  have k_law : PySem.W.keepIn K (.ref (He.ga K "law")) = true := HX.Look.bit c 80 rfl
  have aC : PySem.W.nsIn K mainGlobals "Cabinet" = some (some (.ref (He.ga K "Cabinet"))) := HX.Look.eq c 81 rfl
  have pg : PySem.W.plainGet K (He.ga K "Cabinet") Str.empty = true := HX.Look.bit c 82 rfl
  have hd : PySem.W.hasDictIn K (He.ga K "Cabinet") = true := HX.Look.bit c 83 rfl
  have po : PySem.W.plainOver K (He.ga K "Cabinet") = true := HX.Look.bit c 84 rfl
  have sa : PySem.W.findIn K (.ref (He.ga K "Cabinet")) "__setattr__" = some (some (.builtin "object.__setattr__")) := HX.Look.eq c 85 rfl
  have mk : PySem.W.makesIn K (He.ga K "Cabinet") = true := HX.Look.bit c 86 rfl
  have kc : PySem.W.keepIn K (.ref (He.ga K "Cabinet")) = true := HX.Look.bit c 87 rfl
  have nD : PySem.W.findIn K (.ref (He.ga K "Cabinet")) "_drawers" = some none := HX.Look.eq c 88 rfl
  have nB : PySem.W.findIn K (.ref (He.ga K "Cabinet")) "_bars" = some none := HX.Look.eq c 89 rfl
  have a_Cabinet___init__ : PySem.W.findIn K (.ref (He.ga K "Cabinet")) "__init__" = some (some (.ref (He.ma K (He.ga K "Cabinet") "__init__"))) := HX.Look.eq c 90 rfl
  obtain ⟨_, _, _, _, _, _, _, _, _, l_Cabinet___init__, c_Cabinet___init__⟩ := HX.fd_plain (d := fd27) rfl (HX.Look.def_ c 27 rfl) (HX.Look.bit c 91 rfl)
  have k_Cabinet___init__ : PySem.W.keepIn K (.ref (He.ma K (He.ga K "Cabinet") "__init__")) = true := HX.Look.bit c 92 rfl
  have i_init : PySem.W.isFn K (.ref (He.ma K (He.ga K "Cabinet") "__init__")) = true := HX.Look.bit c 93 rfl
  have pa_drawers : PySem.W.findIn K (.ref (He.ga K "Cabinet")) "drawers" = some (some (.ref (He.ma K (He.ga K "Cabinet") "drawers"))) := HX.Look.eq c 94 rfl
  have pg_drawers : PySem.W.specialIn K (.ref (He.ma K (He.ga K "Cabinet") "drawers")) "__get__" = some (some (.builtin "property.__get__")) := HX.Look.eq c 95 rfl
  have pt_drawers : PySem.W.takesIn K (.ref (He.ma K (He.ga K "Cabinet") "drawers")) = some true := HX.Look.eq c 96 rfl
  have pr_drawers := HX.pr_ok (HX.Look.bit c 97 rfl)
  obtain ⟨_, _, _, _, _, _, _, _, _, l_Cabinet_drawers, c_Cabinet_drawers⟩ := HX.fd_plain (d := fd28) rfl (HX.Look.def_ c 28 rfl) (HX.Look.bit c 98 rfl)
  have k_Cabinet_drawers : PySem.W.keepIn K (.ref (HX.prA K (He.ma K (He.ga K "Cabinet") "drawers"))) = true := HX.Look.bit c 99 rfl
  have pa_bars : PySem.W.findIn K (.ref (He.ga K "Cabinet")) "bars" = some (some (.ref (He.ma K (He.ga K "Cabinet") "bars"))) := HX.Look.eq c 100 rfl
  have pg_bars : PySem.W.specialIn K (.ref (He.ma K (He.ga K "Cabinet") "bars")) "__get__" = some (some (.builtin "property.__get__")) := HX.Look.eq c 101 rfl
  have pt_bars : PySem.W.takesIn K (.ref (He.ma K (He.ga K "Cabinet") "bars")) = some true := HX.Look.eq c 102 rfl
  have pr_bars := HX.pr_ok (HX.Look.bit c 103 rfl)
  obtain ⟨_, _, _, _, _, _, _, _, _, l_Cabinet_bars, c_Cabinet_bars⟩ := HX.fd_plain (d := fd29) rfl (HX.Look.def_ c 29 rfl) (HX.Look.bit c 104 rfl)
  have k_Cabinet_bars : PySem.W.keepIn K (.ref (HX.prA K (He.ma K (He.ga K "Cabinet") "bars"))) = true := HX.Look.bit c 105 rfl
  have ci1 : PySem.W.findIn K (.ref (He.ga K "Cabinet")) "__class__" = some (some (.builtin "object.__class__")) := HX.Look.eq c 106 rfl
  have ci2 : PySem.W.specialIn K (.builtin "object.__class__") "__get__" = some (some (.builtin "getset_descriptor.__get__")) := HX.Look.eq c 107 rfl
  have ci3 : PySem.W.takesIn K (.builtin "object.__class__") = some true := HX.Look.eq c 108 rfl
  have ci4 : PySem.W.mroIn K (He.ga K "Cabinet") (.type "object") = some true := HX.Look.eq c 109 rfl
  have ci5 : PySem.W.kitOne K (.ref (He.ga K "Cabinet")) (.ref (He.ga K "Cabinet")) = some true := HX.Look.eq c 110 rfl
  have z_isinstance : PySem.W.nsIn K mainGlobals "isinstance" = some none := HX.Look.eq c 111 rfl
  have z_int : PySem.W.nsIn K mainGlobals "int" = some none := HX.Look.eq c 112 rfl
  have z_bool : PySem.W.nsIn K mainGlobals "bool" = some none := HX.Look.eq c 113 rfl
  have z_tuple : PySem.W.nsIn K mainGlobals "tuple" = some none := HX.Look.eq c 114 rfl
  have z_len : PySem.W.nsIn K mainGlobals "len" = some none := HX.Look.eq c 115 rfl
  have z_enumerate : PySem.W.nsIn K mainGlobals "enumerate" = some none := HX.Look.eq c 116 rfl
  have z_range : PySem.W.nsIn K mainGlobals "range" = some none := HX.Look.eq c 117 rfl
  have z_sorted : PySem.W.nsIn K mainGlobals "sorted" = some none := HX.Look.eq c 118 rfl
  have z_list : PySem.W.nsIn K mainGlobals "list" = some none := HX.Look.eq c 119 rfl
  have z_set : PySem.W.nsIn K mainGlobals "set" = some none := HX.Look.eq c 120 rfl
  have z_any : PySem.W.nsIn K mainGlobals "any" = some none := HX.Look.eq c 121 rfl
  obtain ⟨_, aM⟩ := HX.int_ok (HX.Look.bit c 122 rfl)
  have aW : PySem.W.nsIn K mainGlobals "WORDS" = some (some (.ref (He.ga K "WORDS"))) := HX.Look.eq c 123 rfl
  obtain ⟨_, _, _, _, _, lW⟩ := HX.tup2_ok (HX.Look.bit c 124 rfl)
  have aS : PySem.W.nsIn K mainGlobals "SIGNS" = some (some (.ref (He.ga K "SIGNS"))) := HX.Look.eq c 125 rfl
  obtain ⟨_, _, lS, kS⟩ := HX.Look.dic c
  obtain ⟨_, oS⟩ := HX.str_ok (HX.Look.bit c 126 rfl)
  obtain ⟨_, sS⟩ := HX.str_ok (HX.Look.bit c 127 rfl)
  have aUn : PySem.W.nsIn K mainGlobals "Unlike" = some (some (.ref (He.ga K "Unlike"))) := HX.Look.eq c 128 rfl
  have xUn : PySem.W.excIn K (He.ga K "Unlike") [.type "ValueError", .type "Exception", .type "BaseException", .type "object"] "ValueError.__new__" = true := HX.Look.bit c 129 rfl
  have kUn : PySem.W.keepIn K (.ref (He.ga K "Unlike")) = true := HX.Look.bit c 130 rfl
  have bUn : PySem.W.subIn K (.ref (He.ga K "Unlike")) (.type "BaseException") = some true := HX.Look.eq c 131 rfl
  have tUn : PySem.W.typeIn K (.ref (He.ga K "Unlike")) = some (.type "type") := HX.Look.eq c 132 rfl
  have iUn : PySem.W.isClsIn K (He.ga K "Unlike") = true := HX.Look.bit c 133 rfl
  have sUn : PySem.W.subIn K (.ref (He.ga K "Unlike")) (.ref (He.ga K "Unlike")) = some true := HX.Look.eq c 134 rfl
  exact DL.all_mk (l := PySem.Challenge.rw_drawerlocks_k12_whole_likeness) KX G hmg a_is_integer l_is_integer c_is_integer k_is_integer a_is_drawer_count l_is_drawer_count c_is_drawer_count k_is_drawer_count a_is_drawer l_is_drawer c_is_drawer k_is_drawer a_is_bar l_is_bar c_is_bar k_is_bar a_check_drawers l_check_drawers c_check_drawers k_check_drawers a_check_bars l_check_bars c_check_bars k_check_bars a__law_taken l__law_taken c__law_taken k__law_taken a__law_parts l__law_parts c__law_parts k__law_parts a__law_made l__law_made c__law_made k__law_made a_hinders l_hinders c_hinders k_hinders a_moved l_moved c_moved k_moved a_bars_against l_bars_against c_bars_against k_bars_against a_goes l_goes c_goes k_goes a_free_drawers l_free_drawers c_free_drawers k_free_drawers a__law_hold l__law_hold c__law_hold k__law_hold a__law_free l__law_free c__law_free k__law_free a__law_moved l__law_moved c__law_moved k__law_moved a_check_cabinet l_check_cabinet c_check_cabinet k_check_cabinet a_first_standing l_first_standing c_first_standing k_first_standing a_rows_from l_rows_from c_rows_from k_rows_from a_first_rows l_first_rows c_first_rows k_first_rows a_first_apart l_first_apart c_first_apart k_first_apart a_alike l_alike c_alike k_alike a__law_refused l__law_refused c__law_refused k__law_refused a__law_near l__law_near c__law_near k__law_near a__law_apart l__law_apart c__law_apart k__law_apart a_law l_law c_law k_law aC pg hd po sa mk kc nD nB a_Cabinet___init__ l_Cabinet___init__ c_Cabinet___init__ k_Cabinet___init__ i_init pa_drawers pg_drawers pt_drawers pr_drawers l_Cabinet_drawers c_Cabinet_drawers k_Cabinet_drawers pa_bars pg_bars pt_bars pr_bars l_Cabinet_bars c_Cabinet_bars k_Cabinet_bars ci1 ci2 ci3 ci4 ci5 z_isinstance z_int z_bool z_tuple z_len z_enumerate z_range z_sorted z_list z_set z_any aM aW lW aS lS kS oS sS aUn xUn kUn bUn tUn iUn sUn
end HDG
open PySem PySem.W PySem.Calls PyProof.Rows
theorem PySem.Challenge.cw_drawerlocks_k12_whole_likeness_holds : PySem.Challenge.rw_drawerlocks_k12_whole_likeness.Holds := by
  w_on; o_law
  refine HandSHeadRun.head_any (r := OpenLaw.row PySem.Challenge.rw_drawerlocks_k12_whole_likeness) (q := view (OpenLaw.row PySem.Challenge.rw_drawerlocks_k12_whole_likeness).prog [41]) (H := HDG.hk) (ob := HDG.ob) (M := 60000) (loose := HDG.loose) (d := HandSHeadRun.topDef (OpenLaw.row PySem.Challenge.rw_drawerlocks_k12_whole_likeness).prog 41) (kwd := []) HDG.ob_eq
    (by kernel_rfl) (fun s => by kernel_rfl) HDG.run (by kernel_rfl) (by kernel_rfl) (by kernel_rfl) (by rfl) (by first | assumption | decide +kernel) (by decide +kernel) ⟨rfl, rfl, rfl, rfl, rfl, by decide +kernel⟩ ?hw ?hc
  case hw => w_witness2
  case hc =>
    refine L2.walk_ofE (l := PySem.Challenge.rw_drawerlocks_k12_whole_likeness) (n := 63) (k := 20) (x := "_law_script") (CX := L2.CX0) rfl (by decide) (by kernel_rfl) ⟨rfl, by decide, by decide⟩ ?F (fun _ _ _ _ z => z)
    intro w mg fa h Y G hmg0
    obtain ⟨K, KX, c⟩ := Y
    have hmg : mg ("law" : PySem.Str) = some (.ref fa) := by
      have e : (HandSHeadRun.topDef (OpenLaw.row PySem.Challenge.rw_drawerlocks_k12_whole_likeness).prog 41).name = ("law" : PySem.Str) := by kernel_rfl
      rw [← e]
      exact hmg0
    obtain ⟨fd, hb, hF⟩ := HDG.facts (w := w) KX G hmg c
    exact ⟨K, fd, DL.spLaw K, KX, hb, fun H a ns hl _ hS => ⟨a, ns, rfl, hS, hl, fun _ => rfl⟩, hF⟩
