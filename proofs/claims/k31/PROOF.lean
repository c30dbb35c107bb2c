import PyProof.Rows.All
import Wide.All
import OpenK.AllK
import Wide.FinOn
import HandS.ForMost
import HandS.ForExc
import HandS.TupLe
import HandS.TupAny
import HandS.SortOrd
import HandS.SortRule
import HandS.IsInst
import HandS.Conv
import HandS.Wide
import HandS.Property
import HandS.Deep
import HandS.Walk
import HandS.Zip
import HandS.Flow
import KE.GoesEnum
import PySem.Challenge.RW_drawerlocks_k31_deeper_refused
import KE.KSuper
import KE.KExcSuper
import HandS.ClsMeth
import HandS.ExcInit
import HandS.WordsExc
import HandS.FStr
import HandS.Replace
import HandS.More
import HandS.TryOnly
import HandS.SlotsOwn
import KE.GoesZip
import HandS.ExcOwn
import HandS.TryMany
import HandS.ExcField
import HandS.TupMul
import HandS.SortInts
import PyProof.Rows.SortShell
import HandS.Star
import PyProof.Rows.SortShellAny
import KE.DataMinMax
import PyProof.Rows.StrMeet
import HandS.DictComp
import KE.DatumOrd
import HandS.Style
import HandS.Codes
import HandS.Head0
import HandS.Head1
import HandS.Head2
import HandS.HeadEnd
import HandS.HeadHook1
import HandS.HeadHook2
import KE.KExcInit
import HandS.Head3
set_option Elab.async false
set_option maxRecDepth 100000
namespace DL
open PySem PySem.Spec PyProof.Rows L2
/-! ### bars: four parts; the words as truth values (true: shut) -/
structure Bar where
  d : Int
  w : Bool
  o : Int
  t : Bool
deriving DecidableEq
def wd (b : Bool) : Str := if b = true then "shut" else "open"
theorem wd_inj : ∀ {a b : Bool}, wd a = wd b → a = b := by decide +kernel
theorem wd_lt : ∀ a b : Bool, decide ((wd a).cps.toList < (wd b).cps.toList) = (!a && b) := by decide +kernel
theorem wd_dec : ∀ a : Bool, decide (wd a = "shut") = a := by decide +kernel
def Bar.key (b : Bar) : List Key := [.inl b.d, .inr (wd b.w), .inl b.o, .inr (wd b.t)]
def Bar.vs (b : Bar) : List V := [.int b.d, .str (wd b.w), .int b.o, .str (wd b.t)]
def b2n (b : Bool) : Int := if b = true then 1 else 0
theorem b2n_le (b : Bool) : 0 ≤ b2n b ∧ b2n b ≤ 1 := by cases b <;> decide
theorem b2n_inj {a b : Bool} (h : b2n a = b2n b) : a = b := by revert h; revert a b; decide
def Bar.code (b : Bar) : Int := ((b.d * 2 + b2n b.w) * 8 + b.o) * 2 + b2n b.t
/-- the parts lie where a bar of at most eight drawers has them -/
def Bar.low (b : Bar) : Prop := 0 ≤ b.d ∧ b.d < 8 ∧ 0 ≤ b.o ∧ b.o < 8
theorem Bar.ext4 {a b : Bar} (h1 : a.d = b.d) (h2 : a.w = b.w) (h3 : a.o = b.o) (h4 : a.t = b.t) : a = b := by
  cases a; cases b; simp only at h1 h2 h3 h4; subst h1 h2 h3 h4; rfl
theorem Bar.code_inj {a b : Bar} (ha : a.low) (hb : b.low) (h : a.code = b.code) : a = b := by
  unfold Bar.low at ha hb
  unfold Bar.code at h
  have w1 := b2n_le a.w; have w2 := b2n_le b.w; have t1 := b2n_le a.t; have t2 := b2n_le b.t
  exact Bar.ext4 (by omega) (b2n_inj (by omega)) (by omega) (b2n_inj (by omega))
/-- what a < b of two such tuples comes to -/
def Bar.ltb (a b : Bar) : Bool := if a.d = b.d then (if a.w = b.w then (if a.o = b.o then (!a.t && b.t) else decide (a.o < b.o)) else (!a.w && b.w)) else decide (a.d < b.d)
theorem Bar.ltb_code {a b : Bar} (ha : a.low) (hb : b.low) : a.ltb b = decide (a.code < b.code) := by
  obtain ⟨ad, aw, ao, at'⟩ := a
  obtain ⟨bd, bw, bo, bt⟩ := b
  unfold Bar.low at ha hb
  unfold Bar.ltb Bar.code b2n
  simp only at ha hb ⊢
  by_cases h1 : ad = bd
  · rw [if_pos h1]
    by_cases h2 : aw = bw
    · rw [if_pos h2]
      by_cases h3 : ao = bo
      · rw [if_pos h3]
        subst h1 h2 h3
        cases at' <;> cases bt <;> simp <;> omega
      · rw [if_neg h3]
        subst h1 h2
        cases at' <;> cases bt <;> simp <;> omega
    · rw [if_neg h2]
      subst h1
      cases aw <;> cases bw <;> cases at' <;> cases bt <;> simp at h2 ⊢ <;> omega
  · rw [if_neg h1]
    cases aw <;> cases bw <;> cases at' <;> cases bt <;> simp <;> omega
/-- a bar read back -/
def barOf : List V → Bar
  | [.int d, .str w, .int o, .str t] => ⟨d, decide (w = "shut"), o, decide (t = "shut")⟩
  | _ => ⟨0, false, 0, false⟩
theorem barOf_vs (b : Bar) : barOf b.vs = b := by
  show (⟨b.d, decide (wd b.w = "shut"), b.o, decide (wd b.t = "shut")⟩ : Bar) = b
  rw [wd_dec, wd_dec]
/-- the bar that stands at an address of the heap -/
def barAt (H : Hp) : V → Bar
  | .ref a => (match H a with | some (.tup xs) => barOf xs | _ => ⟨0, false, 0, false⟩)
  | _ => ⟨0, false, 0, false⟩
theorem barAt_of {H : Hp} {a : Addr} {b : Bar} (h : H a = some (.tup b.vs)) : barAt H (.ref a) = b := by
  show (match H a with | some (.tup xs) => barOf xs | _ => ⟨0, false, 0, false⟩) = b
  rw [h]; exact barOf_vs b
/-! ### sorted(d), d a dict whose keys are such tuples -/
def IsBarV (h : Heap) (v : Value) (b : Bar) : Prop := ∃ a o t1 t2 t3 t4 n, v = .ref a ∧ h.get? a = some o ∧ o.cls = .type "tuple" ∧ o.data = .seq #[.int b.d t1, .str (wd b.w) t2, .int b.o t3, .str (wd b.t) t4] n
theorem IsBarV.keeps {h h' : Heap} {v : Value} {b : Bar} (p : IsBarV h v b) (k : ∀ c o, h.get? c = some o → o.cls = .type "tuple" → h'.get? c = some o) : IsBarV h' v b := by
  obtain ⟨a, o, t1, t2, t3, t4, n, e, ho, hc, hd⟩ := p
  exact ⟨a, o, t1, t2, t3, t4, n, e, k _ _ ho hc, hc, hd⟩
section
variable {prog : Program} {w : World} {A : Around} {E : Value → Shared → Prop} {s : Shared}
theorem oneLt_words (c : Bool) {p q : Str} {t u : Tok} {Q : Bool → Shared → Prop} (h : c = false) (hq : Q (decide (p.cps.toList < q.cps.toList)) s) : wpAny (model prog w) A (oneLt' c (.str p t) (.str q u)) Q E s := by
  subst h
  exact PySem.W.kat_one _ _ (PyProof.Rows.lt_str hq)
theorem bar_cmp {vs : List Value} {kb : Value → Bar} (hp : ∀ v ∈ vs, IsBarV s.heap v (kb v) ∧ (kb v).low) : SrtO.Cmp prog w A s (tuples' true) (fun p => p.1 ∈ vs) (SrtO.lt2 fun v u => decide ((kb v).code < (kb u).code)) := by
  intro p q hm hm'
  obtain ⟨h1, l1⟩ := hp _ hm
  obtain ⟨h2, l2⟩ := hp _ hm'
  show wpAny (model prog w) A (keyLt' (tuples' true) p.1 q.1) (fun r s' => s' = s ∧ r = decide ((kb p.1).code < (kb q.1).code)) (fun _ _ => False) s
  generalize kb p.1 = x at h1 l1 ⊢
  generalize kb q.1 = y at h2 l2 ⊢
  rw [← Bar.ltb_code l1 l2]
  obtain ⟨a, o, t1, t2, t3, t4, n, e, ho, hc, hd⟩ := h1
  obtain ⟨a', o', t1', t2', t3', t4', n', e', ho', hc', hd'⟩ := h2
  rw [e, e']
  refine PySem.W.kat_lt ho hd ho' hd' ?_
  show PySem.W.KatLex prog w A true (decide (4 < 4)) _ [(.int x.d t1, .int y.d t1'), (.str (wd x.w) t2, .str (wd y.w) t2'), (.int x.o t3, .int y.o t3'), (.str (wd x.t) t4, .str (wd y.t) t4')] 0 s
  refine PySem.W.kat_cons (SeqAt.EqAt.int_int x.d t1 y.d t1' prog w _ _ ?_)
  refine PySem.W.kat_go (fun e1 => ?_) (fun e1 => ?_)
  · have e1' : x.d = y.d := by simpa using e1
    refine PySem.W.kat_yes (PySem.W.kat_cons (wpAny_eqBool_str ?_))
    refine PySem.W.kat_go (fun e2 => ?_) (fun e2 => ?_)
    · have e2' : x.w = y.w := wd_inj (by simpa using e2)
      refine PySem.W.kat_yes (PySem.W.kat_cons (SeqAt.EqAt.int_int x.o t3 y.o t3' prog w _ _ ?_))
      refine PySem.W.kat_go (fun e3 => ?_) (fun e3 => ?_)
      · have e3' : x.o = y.o := by simpa using e3
        refine PySem.W.kat_yes (PySem.W.kat_cons (wpAny_eqBool_str ?_))
        refine PySem.W.kat_go (fun e4 => ?_) (fun e4 => ?_)
        · have e4' : x.t = y.t := wd_inj (by simpa using e4)
          refine PySem.W.kat_yes (PySem.W.kat_nil ⟨rfl, ?_⟩)
          unfold Bar.ltb
          rw [if_pos e1', if_pos e2', if_pos e3', e4']
          cases y.t <;> rfl
        · refine PySem.W.kat_no (oneLt_words _ rfl ⟨rfl, ?_⟩)
          unfold Bar.ltb
          rw [if_pos e1', if_pos e2', if_pos e3', wd_lt]
      · have e3' : ¬ x.o = y.o := by simpa using e3
        refine PySem.W.kat_no (PySem.W.kat_one _ _ (PyProof.Rows.lt_int ?_))
        refine (show s = s ∧ decide (x.o < y.o) = x.ltb y from ⟨rfl, ?_⟩)
        unfold Bar.ltb
        rw [if_pos e1', if_pos e2', if_neg e3']
    · have e2' : ¬ x.w = y.w := fun z => by rw [z] at e2; simp at e2
      refine PySem.W.kat_no (oneLt_words _ rfl ⟨rfl, ?_⟩)
      unfold Bar.ltb
      rw [if_pos e1', if_neg e2', wd_lt]
  · have e1' : ¬ x.d = y.d := by simpa using e1
    refine PySem.W.kat_no (oneLt_int ⟨rfl, ?_⟩)
    unfold Bar.ltb
    rw [if_neg e1']
theorem bar_firsts {h : Heap} : ∀ {vs : List Value}, (∀ v ∈ vs, ∃ b, IsBarV h v b) → ∃ fs : List Value, PySem.W.KatTups h vs fs ∧ fs.length = vs.length ∧ ∀ f ∈ fs, ∃ x t, f = Value.int x t
  | [], _ => ⟨[], PySem.W.KatTups.nil, rfl, fun _ hm => by simp at hm⟩
  | v :: vs, hp => by
    obtain ⟨fs, h1, h2, h3⟩ := bar_firsts (vs := vs) fun v' hm => hp v' (List.mem_cons_of_mem _ hm)
    obtain ⟨b, a, o, t1, t2, t3, t4, n, e, ho, hc, hd⟩ := hp v (List.mem_cons_self ..)
    subst e
    refine ⟨.int b.d t1 :: fs, PySem.W.KatTups.cons ho hc hd rfl h1, by rw [List.length_cons, List.length_cons, h2], fun f hm => ?_⟩
    rcases List.mem_cons.mp hm with rfl | hm
    · exact ⟨b.d, t1, rfl⟩
    · exact h3 f hm
theorem swo_code (kb : Value → Bar) : SrtO.Swo fun v u => decide ((kb v).code < (kb u).code) := by
  refine ⟨fun x y h => ?_, fun x y z h1 h2 => ?_⟩
  · have a := of_decide_eq_true h
    exact decide_eq_false (by omega)
  · have a := of_decide_eq_false h1
    have b := of_decide_eq_false h2
    exact decide_eq_false (by omega)
theorem bars_sortableO {a : Addr} {vs : List Value} {kb : Value → Bar} (h0 : 0 < vs.length) (hp : ∀ v ∈ vs, IsBarV s.heap v (kb v) ∧ (kb v).low) (ha : ∀ o, s.heap.get? a = some o → o.cls ≠ .type "tuple") :
    SrtO.SortableO prog w A s a vs fun v u => decide ((kb v).code < (kb u).code) := by
  intro h' keep
  have hp' : ∀ v ∈ vs, IsBarV h' v (kb v) ∧ (kb v).low := fun v hm => ⟨(hp v hm).1.keeps fun b o e c => keep b o (fun z => by subst z; exact ha o e c) e, (hp v hm).2⟩
  obtain ⟨fs, h1, h2, h3⟩ := bar_firsts fun v hm => ⟨_, (hp' v hm).1⟩
  refine ⟨tuples' true, fun Q E hq => ?_, bar_cmp hp'⟩
  refine PySem.W.kat_kind (T := .type "int") h1 (by omega) (fun f hm => ?_) (by rfl) ?_
  · obtain ⟨x, t, rfl⟩ := h3 f hm
    exact PySem.W.Looks.now
  · have e : (Value.type "int" != Value.type "tuple") = true := by first | decide +kernel | rfl | decide
    rw [e]
    exact hq
end
/-- sorted(d): the keys' own tuples, by their codes -/
def rSortB : List V → Hp → VK → Prop := fun xs H Q => ∃ (d : Addr) (kvs : List (List Key × V)) (bs : List Bar), xs = [V.ref d] ∧ Rd H d (.dT kvs) ∧ kvs.map (·.1) = bs.map Bar.key ∧ (∀ b ∈ bs, b.low) ∧
  ∀ (ks : List (Addr × Bar)) (p : Addr), (∀ k ∈ ks, H k.1 = some (.tup k.2.vs)) → (ks.map (·.2)).Perm bs → (ks.map (·.2)).Pairwise (fun x y => x.code ≤ y.code) → H p = none → Q (.ref p) (upd H p (.lst (ks.map fun k => V.ref k.1)))
theorem keys_bars : ∀ {H : Hp} {kvs : List (List Key × V)} {as : List Addr} {bs : List Bar}, IsKeys H kvs as → kvs.map (·.1) = bs.map Bar.key → (∀ a ∈ as, ∃ b ∈ bs, H a = some (.tup b.vs)) ∧ (as.map V.ref).map (barAt H) = bs := by
  intro H kvs as bs ik
  unfold IsKeys at ik
  induction ik generalizing bs with
  | nil =>
    intro e
    cases bs with
    | nil => exact ⟨fun a ha => by simp at ha, rfl⟩
    | cons b bs => simp at e
  | @cons kv a kvs' as' h t ih =>
    intro e
    cases bs with
    | nil => simp at e
    | cons b bs =>
      rw [List.map_cons, List.map_cons] at e
      injection e with e1 e2
      obtain ⟨i1, i2⟩ := ih e2
      have hb : H a = some (.tup b.vs) := by rw [h, e1]; rfl
      refine ⟨fun c hc => ?_, ?_⟩
      · rcases List.mem_cons.mp hc with rfl | hc
        · exact ⟨b, List.mem_cons_self, hb⟩
        · obtain ⟨b', m, q⟩ := i1 c hc
          exact ⟨b', List.mem_cons_of_mem _ m, q⟩
      · rw [List.map_cons, List.map_cons, i2, barAt_of hb]
section
variable {X : Cx}
theorem cr_sortB (hcalm : X.calm = true) : CallR X (.builtin "sorted") rSortB := by
  intro pins s σ H xs us Q I r h
  obtain ⟨d, kvs, bs, rfl, hd, hks, hlow, q⟩ := h
  obtain ⟨u, rfl, rx⟩ := r.one
  obtain rfl : u = Value.ref d := rx
  obtain ⟨z, hs, ks, pr, o, es, ep, ho, hx, hdt, he, hn⟩ := (show ObjOk X.prog X.w H s.heap d (.dT kvs) from hd.ok I.hok)
  have l1 : es.size = ks.length := size_of_entries he
  have l2 : kvs.length = ks.length := Paired.length pr
  refine Calls.call_function_entry PyProof.Rows.kind_sorted PyProof.Rows.plain_sorted PyProof.Rows.entry_sorted (PyProof.Rows.args_sorted1 _) ?_
  unfold Builtin.«sorted»
  refine wpAny_bind (m := checkCount "sorted" 1 1 _) (wpAny_pure ?_)
  refine wpAny_bind (PySem.W.kdu_collect (A := X.A.in1) (kdl_raw hs hx hdt) (I.ok.hd hcalm) ho (by omega) fun h' tk acc hk it => ?_)
  have ea : acc.toList = ks.map fun x => Value.ref x.2.1 := by
    have hl : acc.toList.length = ks.length := by rw [Array.length_toList, it.1]; exact l1
    apply List.ext_getElem?
    intro j
    rw [List.getElem?_map]
    cases hj : acc.toList[j]? with
    | none =>
      have h1 := List.getElem?_eq_none_iff.mp hj
      rw [List.getElem?_eq_none (by omega)]
      all_goals rfl
    | some v =>
      obtain ⟨en, hen, hv⟩ := it.2 j v (by rw [← Array.getElem?_toList]; exact hj)
      have qe := entry_at he j
      rw [hen] at qe
      cases hb : ks[j]? with
      | none =>
        rw [hb] at qe
        exact nomatch (show some en = none from qe)
      | some b =>
        rw [hb] at qe
        have e2 : en = entryOfKey (tupleKind (mixKind X.prog X.w)) b := Option.some.inj qe
        rw [hv, e2]
        all_goals rfl
  have ik : IsKeys H kvs (ks.map fun x => x.2.1) := isKeys_of pr
  obtain ⟨kb1, kb2⟩ := keys_bars ik hks
  generalize has : (ks.map fun x => x.2.1) = as at ik kb1 kb2
  have ea' : acc.toList = as.map Value.ref := by rw [ea, ← has, List.map_map]; rfl
  have hal : acc.toList.length = as.length := by rw [ea', List.length_map]
  have hasz : as.length ≤ sizeLine := by rw [← has, List.length_map]; omega
  have I1 : Inv X pins σ H { s with heap := h', toks := tk } := I.kept hk
  refine wpAny_bind (wpAny_newList ?_ (by rw [hal]; exact hasz))
  have hoL : (h'.push (seqObj "list" acc.toList.toArray 0)).get? h'.objs.size = some (seqObj "list" acc.toList.toArray 0) := Heap.get?_push_size _ rfl
  show wpAny _ _ _ _ _ { s with heap := h'.push (seqObj "list" acc.toList.toArray 0), toks := tk }
  have hbar : ∀ v ∈ acc.toList, IsBarV h' v (barAt H (backV v)) ∧ (barAt H (backV v)).low := fun v hv => by
    rw [ea'] at hv
    obtain ⟨a, ham, rfl⟩ := List.mem_map.mp hv
    obtain ⟨b, hbm, hHa⟩ := kb1 a ham
    have e1 : barAt H (backV (Value.ref a)) = b := barAt_of hHa
    rw [e1]
    refine ⟨?_, hlow b hbm⟩
    obtain ⟨_, its, rv, oo, h1, h2, n, h3⟩ := (show ObjOk X.prog X.w H h' a (.tup b.vs) from I1.hok a _ hHa)
    cases rv with
    | cons r1 rv =>
      cases rv with
      | cons r2 rv =>
        cases rv with
        | cons r3 rv =>
          cases rv with
          | cons r4 rv =>
            cases rv
            obtain ⟨t1, rfl⟩ := r1
            obtain ⟨t2, rfl⟩ := r2
            obtain ⟨t3, rfl⟩ := r3
            obtain ⟨t4, rfl⟩ := r4
            exact ⟨a, oo, t1, t2, t3, t4, n, rfl, h1, h2, h3⟩
  refine wpAny_bind (wpAny_holding (wpAny_call_entry PyProof.Rows.slot_list_sort ⟨_, hoL, rfl⟩ PyProof.Rows.entry_list_sort
    (SrtO.list_sort_ord (s := { s with heap := h'.push (seqObj "list" acc.toList.toArray 0), toks := tk }) (swo_code fun v => barAt H (backV v)) hoL (by rw [hal]; exact hasz) (fun h2 => ?_) fun out hs hb => ⟨_, rfl, ?_⟩)
    (PyProof.Rows.args_list_sort _)))
  · refine bars_sortableO (by omega) (fun v hv => ⟨(hbar v hv).1.keeps fun c oo e _ => Heap.get?_push_of_some _ e, (hbar v hv).2⟩) fun oo e => ?_
    have e' : some oo = some (seqObj "list" acc.toList.toArray 0) := e.symm.trans hoL
    cases e'
    intro c
    exact absurd (Value.type.inj c) (by decide)
  · obtain ⟨e', he'⟩ := PyProof.Rows.sortedHeap_at (vs := acc.toList) (out := out.toArray) hoL
    have pm : out.Perm (as.map Value.ref) := by rw [← ea']; exact hb.perm
    have href : ∀ v ∈ out, ∃ a, v = Value.ref a ∧ a ∈ as := fun v hv => by
      obtain ⟨a, ha, rfl⟩ := List.mem_map.mp (pm.mem_iff.mp hv)
      exact ⟨a, rfl, ha⟩
    have e1 : out.map backV = (out.map fun v => ((match v with | .ref a => a | _ => 0 : Addr), barAt H (backV v))).map fun k => V.ref k.1 := by
      rw [List.map_map]
      refine List.map_congr_left fun v hv => ?_
      obtain ⟨a, rfl, _⟩ := href v hv
      rfl
    have e2 : (out.map fun v => ((match v with | .ref a => a | _ => 0 : Addr), barAt H (backV v))).map (·.2) = out.map fun v => barAt H (backV v) := by
      rw [List.map_map]; rfl
    have pm2 : (out.map fun v => barAt H (backV v)).Perm bs := by
      have q1 := pm.map fun v => barAt H (backV v)
      have q2 : (as.map Value.ref).map (fun v => barAt H (backV v)) = bs := by
        rw [← kb2, List.map_map, List.map_map]; rfl
      rw [q2] at q1
      exact q1
    have qq := q (out.map fun v => ((match v with | .ref a => a | _ => 0 : Addr), barAt H (backV v))) h'.objs.size (fun k hk2 => by
        obtain ⟨v, hv, rfl⟩ := List.mem_map.mp hk2
        obtain ⟨a, rfl, ha⟩ := href v hv
        obtain ⟨b, _, hH⟩ := kb1 a ha
        show H a = some (.tup (barAt H (.ref a)).vs)
        rw [barAt_of hH]
        exact hH) (by rw [e2]; exact pm2) (by
        rw [e2, List.pairwise_map]
        exact hs.imp fun {x y} q => by
          have := of_decide_eq_false q
          omega) (I1.hok.fresh (Nat.le_refl _))
    rw [← e1] at qq
    refine wpAny_pure ⟨_, rfl, .ref h'.objs.size, upd H h'.objs.size (.lst (out.map backV)), I1.laid (t' := tk) (fun b u e => ?_) (Nat.le_refl _)
      (show ObjOk X.prog X.w _ _ _ (.lst (out.map backV)) from ⟨?_, out, e', vals_back fun v hv => ?_, he'⟩), rfl, qq⟩
    · have hb : b < h'.objs.size := Heap.lt_size e
      rw [PyProof.Rows.sortedHeap_old (Nat.ne_of_lt hb) (by rw [size_push']; exact Nat.lt_succ_of_lt hb)]
      exact Heap.get?_push_of_some _ e
    · rw [List.length_map, pm.length_eq, List.length_map]
      exact hasz
    · obtain ⟨a, e, _⟩ := href v hv
      exact ⟨a, e⟩
end
end DL

set_option Elab.async false
set_option maxRecDepth 100000
namespace DL
open PySem PySem.Spec PyProof.Rows L2
/-! ### bar <= bar -/
def Bar.leb (a b : Bar) : Bool := decide (a.code ≤ b.code)
def Bar.leq (a b : Bar) : Bool := if a.d = b.d then (if a.w = b.w then (if a.o = b.o then (if a.t = b.t then true else !(!b.t && a.t)) else decide (a.o ≤ b.o)) else !(!b.w && a.w)) else decide (a.d ≤ b.d)
theorem Bar.leq_code {a b : Bar} (ha : a.low) (hb : b.low) : a.leq b = a.leb b := by
  obtain ⟨ad, aw, ao, at'⟩ := a
  obtain ⟨bd, bw, bo, bt⟩ := b
  unfold Bar.low at ha hb
  unfold Bar.leq Bar.leb Bar.code b2n
  simp only at ha hb ⊢
  by_cases h1 : ad = bd
  · rw [if_pos h1]
    by_cases h2 : aw = bw
    · rw [if_pos h2]
      by_cases h3 : ao = bo
      · rw [if_pos h3]
        subst h1 h2 h3
        cases at' <;> cases bt <;> simp <;> omega
      · rw [if_neg h3]
        subst h1 h2
        cases at' <;> cases bt <;> simp <;> omega
    · rw [if_neg h2]
      subst h1
      cases aw <;> cases bw <;> cases at' <;> cases bt <;> simp at h2 ⊢ <;> omega
  · rw [if_neg h1]
    cases aw <;> cases bw <;> cases at' <;> cases bt <;> simp <;> omega
def rLeB (K : PySem.W.Frag) : R2 := fun x y H Q => ∃ (a b : Addr) (p q : Bar), x = .ref a ∧ y = .ref b ∧ SqT K H a p.vs ∧ SqT K H b q.vs ∧ Q (.bl (p.leq q)) H
theorem four_of {p : Bar} {its : List Value} (r : Vals p.vs its) : ∃ t1 t2 t3 t4, its = [.int p.d t1, .str (wd p.w) t2, .int p.o t3, .str (wd p.t) t4] := by
  cases r with
  | cons r1 rv =>
    cases rv with
    | cons r2 rv =>
      cases rv with
      | cons r3 rv =>
        cases rv with
        | cons r4 rv =>
          cases rv
          obtain ⟨t1, rfl⟩ := r1
          obtain ⟨t2, rfl⟩ := r2
          obtain ⟨t3, rfl⟩ := r3
          obtain ⟨t4, rfl⟩ := r4
          exact ⟨t1, t2, t3, t4, rfl⟩
theorem beq_dec {α : Type} [BEq α] [LawfulBEq α] [DecidableEq α] (a b : α) : (a == b) = decide (a = b) := by
  by_cases q : a = b
  · rw [decide_eq_true q]; exact beq_iff_eq.mpr q
  · rw [decide_eq_false q]; exact beq_eq_false_iff_ne.mpr q
theorem wd_beq (a b : Bool) : ((wd a) == (wd b)) = decide (a = b) := by revert a b; decide +kernel
theorem op_leB {X : Cx} (hu : X.A.units < cLine) : OpR X (compareOp .LtE) (rLeB X.K) := by
  intro pins s σ H x y v u Q I rx ry h
  obtain ⟨a, b, p, q, rfl, rfl, ha, hb, hq⟩ := h
  cases rx
  cases ry
  obtain ⟨its, r1, p1, _⟩ := I.tuple ha
  obtain ⟨its2, r2, p2, _⟩ := I.tuple hb
  obtain ⟨t1, t2, t3, t4, rfl⟩ := four_of r1
  obtain ⟨u1, u2, u3, u4, rfl⟩ := four_of r2
  have R := Ob.RcOp.tuples_le (A := X.A) (s := s) (e := fun j => match j with | 0 => decide (p.d = q.d) | 1 => decide (p.w = q.w) | 2 => decide (p.o = q.o) | _ => decide (p.t = q.t))
    (r := fun j => match j with | 0 => decide (p.d ≤ q.d) | 1 => !(!q.w && p.w) | 2 => decide (p.o ≤ q.o) | _ => !(!q.t && p.t)) p1 p2 hu (fun j h1 h2 => by
      match j, h1, h2 with
      | 0, _, _ => show SeqAt.EqAt _ _ (.int p.d t1) (.int q.d u1) (decide (p.d = q.d)); rw [← beq_dec]; exact SeqAt.EqAt.int_int _ _ _ _
      | 1, _, _ => show SeqAt.EqAt _ _ (.str (wd p.w) t2) (.str (wd q.w) u2) (decide (p.w = q.w)); rw [← wd_beq]; exact SeqAt.EqAt.str_str _ _ _ _
      | 2, _, _ => show SeqAt.EqAt _ _ (.int p.o t3) (.int q.o u3) (decide (p.o = q.o)); rw [← beq_dec]; exact SeqAt.EqAt.int_int _ _ _ _
      | 3, _, _ => show SeqAt.EqAt _ _ (.str (wd p.t) t4) (.str (wd q.t) u4) (decide (p.t = q.t)); rw [← wd_beq]; exact SeqAt.EqAt.str_str _ _ _ _
      | n + 4, h1, _ => exact absurd (show n + 4 < 4 from h1) (by omega)) (fun j h1 h2 _ => by
      match j, h1, h2 with
      | 0, _, _ => exact Ob.RcOp.le_int _ _ _ _
      | 1, _, _ =>
        show Ob.RcOp .LtE _ _ (.str (wd p.w) t2) (.str (wd q.w) u2) (!(!q.w && p.w))
        rw [← wd_lt]
        exact fun _ _ _ _ h => PySem.P.le_str h
      | 2, _, _ => exact Ob.RcOp.le_int _ _ _ _
      | 3, _, _ =>
        show Ob.RcOp .LtE _ _ (.str (wd p.t) t4) (.str (wd q.t) u4) (!(!q.t && p.t))
        rw [← wd_lt]
        exact fun _ _ _ _ h => PySem.P.le_str h
      | n + 4, h1, _ => exact absurd (show n + 4 < 4 from h1) (by omega))
  have z : wpAny (model X.prog X.w) X.A (compareOp .LtE (.ref a) (.ref b)) (EP X pins σ Q) X.xe s := R X.prog X.w X.xe (EP X pins σ Q) (by
    refine ⟨.bl (p.leq q), H, I, ?_, hq⟩
    show Value.bool _ = Value.bool (p.leq q)
    have e : (Ob.lexAt (fun j => match j with | 0 => decide (p.d = q.d) | 1 => decide (p.w = q.w) | 2 => decide (p.o = q.o) | _ => decide (p.t = q.t))
      (fun j => match j with | 0 => decide (p.d ≤ q.d) | 1 => !(!q.w && p.w) | 2 => decide (p.o ≤ q.o) | _ => !(!q.t && p.t)) true 0 4) = p.leq q := by
      unfold Bar.leq
      simp only [Ob.lexAt, decide_eq_true_eq]
    exact congrArg Value.bool e)
  exact z
/-! ### for i, x in enumerate(t), t a tuple -/
def IteT (K : PySem.W.Frag) (a : Addr) : It :=
  ⟨fun i H => ∃ (xs : List V) (x : V), SqT K H a xs ∧ xs[i]? = some x, fun i H v H' => ∃ T x, v = .ref T ∧ H T = none ∧ H' = upd H T (.tup [.int (i : Nat), x]) ∧ ∀ xs, SqT K H a xs → xs[i]? = some x, fun i H => ∃ xs : List V, SqT K H a xs ∧ xs.length ≤ i⟩
theorem turn_enumT {P : Program} {w : World} {K : PySem.W.Frag} {elts : List Expr} {kk : Nat} {tpos : Pos} (a e it : Addr) (hai : a ≠ it) (hae : e ≠ a) :
    Turn P w K (.Tuple elts kk tpos) (IteT K a) [e, it] e (fun i h => (∃ old, IsEnum h e it ((i : Nat) : Int) old) ∧ h.IsTupleIter it a i ∧ e ≠ it) where
  mem := by simp
  obj := fun i h st b hb => by
    obtain ⟨⟨old, he⟩, ⟨o, ho, hc, hd⟩, _⟩ := st
    have e' : b = e ∨ b = it := by simpa using hb
    rcases e' with z | z
    · rw [z]; exact ⟨_, he, fun v q => nomatch q⟩
    · rw [z]; exact ⟨o, ho, fun v q => by rw [hd] at q; cases q⟩
  keep := fun i h h' st k => let ⟨⟨old, he⟩, hi, hne⟩ := st; ⟨⟨old, k e (by simp) _ he⟩, hi.at fun o q => k it (by simp) o q, hne⟩
  item := by
    intro X hP hw hK hc i pins s σ H E I hf st hg
    subst hP hw hK
    obtain ⟨⟨old, he⟩, hit, hne⟩ := st
    obtain ⟨xs, x, hq, hx⟩ := hg
    obtain ⟨its, rv, p, hz⟩ := I.tuple hq
    obtain ⟨u, hu, ru⟩ := rv.get hx
    have hel : e < s.heap.objs.size := Heap.lt_size he
    have hil : it < s.heap.objs.size := by obtain ⟨_, q, _⟩ := hit; exact Heap.lt_size q
    have hlt : i < its.toArray.size := by
      have := (List.getElem?_eq_some_iff.mp hu).1
      simpa using this
    refine wpAny_pyNext_enum_itemD (Draws.tuple (A := X.A.in1) (I.ok.hd hc) it a hai its.toArray) he ⟨hit, p⟩ hlt hne (by simp; exact ⟨hne, hae⟩) fun x1 h' tk hp ho hst' hT hsz hk => ?_
    have hx1 : x1 = u := by
      have q : its.toArray[i]? = some u := by simpa using hu
      rw [q] at hp
      exact (Option.some.inj hp).symm
    subst hx1
    refine ⟨_, rfl, wpAny_letOwnedTupleGo_enum (s := { s with heap := h', toks := tk + 1 }) ho fun h'' he' sb => ?_⟩
    have hT2 : h''.get? s.heap.objs.size = some { cls := .type "tuple", data := .seq #[.int i tk, x1] } := (sb.2 _ (Nat.ne_of_gt hel)).trans hT
    have new : ObjOk X.prog X.w (upd H s.heap.objs.size (.tup [.int (i : Nat), x])) h'' s.heap.objs.size (.tup [.int (i : Nat), x]) :=
      ⟨by show 2 ≤ sizeLine; decide, [.int i tk, x1], .cons ⟨_, rfl⟩ (.cons ru .nil), ⟨_, hT2, rfl, _, rfl⟩⟩
    have I1 : Inv X pins σ (upd H s.heap.objs.size (.tup [.int (i : Nat), x])) { s with heap := h'', toks := tk + 1 } :=
      I.turnedNew (ch := [e, it]) (fun b ob hb q => (sb.2 b (fun z => hb (by simp [z]))).trans (hk b ob (fun z => hb (by simp [z])) (fun z => hb (by simp [z])) q)) hf (Nat.le_refl _) new
    refine ⟨.ref s.heap.objs.size, _, I1, rfl, ⟨_, x, rfl, I.hok.fresh (Nat.le_refl _), rfl, fun ys hy => by rw [I.tuple_inj hy hq]; exact hx⟩, ⟨⟨x1, ?_⟩, hst'.1.at fun o q => (sb.2 it (Ne.symm hne)).trans q, hne⟩, fun b hb => ?_⟩
    · have e1 : ((i + 1 : Nat) : Int) = (i : Int) + 1 := by omega
      rw [e1]; exact he'
    · have hb' : b < s.heap.objs.size := by
        have e' : b = e ∨ b = it := by simpa using hb
        rcases e' with z | z
        · rw [z]; exact hel
        · rw [z]; exact hil
      rw [upd_ne (Nat.ne_of_lt hb')]
      exact (hf b hb).1
  done := by
    intro X hP hw hK hc i pins s σ H E I hf st hg
    subst hP hw hK
    obtain ⟨⟨old, he⟩, hit, hne⟩ := st
    obtain ⟨xs, hq, hx⟩ := hg
    obtain ⟨its, rv, p, hz⟩ := I.tuple hq
    obtain ⟨f0, f1, f2, f3, f4, f5⟩ := hf it (by simp)
    have hl := rv.length
    have D := Draws.tuple (prog := X.prog) (w := X.w) (A := X.A.in1) (I.ok.hd hc) it a hai its.toArray
    have go : ∀ {Q : Option Value → Shared → Prop}, (∀ h', Heap.ExtBut it s.heap h' → Q none { s with heap := h' }) → wpAny (model X.prog X.w) X.A (pyNext (.ref e)) Q E s := by
      intro Q hQ
      unfold pyNext
      have hT : s.TypeIs (.ref e) "enumerate" := ⟨_, he, rfl⟩
      refine wpAny_bind (wpAny_attempt (wpAny_callSpecial?_slot (name := Str.ofString "__next__") hT F.slot_enumerate_next
        (wpAny_call_entry F.slot_enumerate_next hT F.entry_enumerate_next ?_ (F.args_enumerate_next_1 _))))
      show wpAny _ _ (field (.ref e) 2 >>= _) _ _ _
      refine wpAny_bind (wpAny_field he rfl (x := .ref it) rfl ?_)
      refine wpAny_bind (wpAny_nextOf_tuple_end (I.ok.hd hc) hit p (by simp; omega) fun h' x he' hx' => ?_)
      obtain ⟨o, ho, hc⟩ := hx'
      refine wpAny_bind (wpAny_isInstance (T := "StopIteration") (b := true) ⟨o, ho, hc⟩ isSubtype_stop ?_)
      exact wpAny_pure (hQ _ he')
    exact go fun h' eb => ⟨rfl, I.turned (t' := s.toks) (fun b o hb q => eb b o hb q) f0 f1 f3 f4 f5⟩
  self := fun A i s Q E st h => let ⟨⟨_, he⟩, _⟩ := st; wpAny_pyIter_enum he h
def iEnumT (K : PySem.W.Frag) (ta : TA) : TI := fun σ H R => ta σ H fun vs H1 => ∃ a xs, vs = [.ref a] ∧ SqT K H1 a xs ∧ R (IteT K a) H1
end DL

set_option Elab.async false
set_option maxRecDepth 100000
namespace DL
open PySem PySem.Spec PyProof.Rows L2
open Sem (wp)
set_option maxHeartbeats 1000000 in
theorem meets_enumerate_newB1 {v : Value} {o : Obj} {H : Heap → Prop} (B : Begins v o H) :
    Meets (Builtin.«enumerate.__new__» ⟨[.type "enumerate", v], []⟩) (fun _ R s => H s.heap ∧
      R (.ok (.ret (.ref (s.heap.push o).objs.size))) { s with heap := (s.heap.push o).push { cls := .type "enumerate", data := .fields #[.none, .bool false, .ref s.heap.objs.size, rawInt 0, .none, .none] } }) :=
  .of_wp fun prog w A R s h => by
    obtain ⟨hp, g, d, tk, os⟩ := s; obtain ⟨h1, h⟩ := h
    have hsub := sub_enumerate
    have q1 : ∀ {A' : Around} {E : Value → Shared → Prop} {Q : Value → Shared → Prop}, Q (.ref hp.objs.size) ⟨hp.push o, g, d, tk, os⟩ → wpAny (model prog w) A' (pyIter v) Q E ⟨hp, g, d, tk, os⟩ :=
      fun q => B.iter prog w _ _ ⟨hp, g, d, tk, os⟩ _ h1 q
    wp_walk using q1
    refine wpAny_stack_any fun st => wpAny_pure ?_
    split
    · rename_i c _ _ _ _ _
      cases (c == Value.type "enumerate")
      · wp_walk using q1
        exact ⟨_, rfl, h⟩
      · wp_walk using q1
        exact ⟨_, rfl, h⟩
    · wp_walk using q1
      exact ⟨_, rfl, h⟩
section
variable {prog : Program} {w : World} {A : Around} {E : Value → Shared → Prop} {s : Shared}
theorem enum_begins1 {v : Value} {o : Obj} {H : Heap → Prop} {Q : Value → Shared → Prop} (B : Begins v o H) (h1 : H s.heap)
    (h : ∀ h', IsEnum h' (s.heap.objs.size + 1) s.heap.objs.size 0 .none → h'.get? s.heap.objs.size = some o → h'.objs.size = s.heap.objs.size + 2 →
      (∀ b o, s.heap.get? b = some o → h'.get? b = some o) → Q (.ref (s.heap.objs.size + 1)) { s with heap := h' }) :
    wpAny (model prog w) A (call (.type "enumerate") [v]) Q E s := by
  refine callType_new F.called_enumerate (by decide) (F.typeCall_enumerate_1 _) (F.newCall_enumerate_1 _) (fun obj => F.args_object_init_2 obj _) F.entry_enumerate_new
    (meets_enumerate_newB1 B) ⟨h1, ?_⟩
  have hz : (s.heap.push o).objs.size = s.heap.objs.size + 1 := Heap.size_push ..
  show _ ∧ _
  rw [hz]
  have he : IsEnum ((s.heap.push o).push { cls := .type "enumerate", data := .fields #[.none, .bool false, .ref s.heap.objs.size, rawInt 0, .none, .none] }) (s.heap.objs.size + 1) s.heap.objs.size 0 .none := by
    have := Heap.get?_push_size (s.heap.push o) (o := { cls := .type "enumerate", data := .fields #[.none, .bool false, .ref s.heap.objs.size, rawInt 0, .none, .none] }) rfl
    rw [hz] at this; exact this
  refine ⟨⟨_, he, rfl⟩, h _ he (Heap.get?_push_of_some _ (Heap.get?_push_size _ B.free)) (by rw [Heap.size_push, hz]) fun b o x => Heap.get?_push_of_some _ (Heap.get?_push_of_some _ x)⟩
end
theorem pi_enumT {X : Cx} {e : Expr} {ta : TA} {p pos tpos : Pos} {elts : List Expr} {kk : Nat} (hg : Gl X "enumerate") (hm : X.mg "enumerate" = none) (ha : PA X [e] ta) (hs : starEach [e] X.env = [(false, eval e X.env)] := by rfl) :
    PI X (.Tuple elts kk tpos) (.Call (.Name "enumerate" p) [e] [] pos) (iEnumT X.K ta) := by
  refine ⟨fun pins s σ H R I h => ?_⟩
  refine Call_ (ld_blt I hg hm boot_enumerate (PyProof.Rows.callWith_type1 (thn (ha.run pos pins s σ H _ I h) fun us s1 ⟨vs, H1, I1, r1, q1⟩ => ?_) hs rfl))
  obtain ⟨a, xs, ex, hq, q⟩ := q1
  subst ex
  cases r1 with
  | cons r rr =>
    cases rr
    cases r
    obtain ⟨its, rv, p', hz⟩ := I1.tuple hq
    have hal : a < s1.heap.objs.size := by obtain ⟨o, ho, _⟩ := id p'; exact Heap.lt_size ho
    refine enum_begins1 (begins_tuple a its.toArray) (show s1.heap.IsTuple a its.toArray from p') fun h' he hit hsz hk => wpAny_pyIter_enum he ?_
    have I2 : Inv X pins σ H1 { s1 with heap := h' } := I1.kept (t' := s1.toks) hk
    refine ⟨s1.heap.objs.size + 1, [s1.heap.objs.size + 1, s1.heap.objs.size], _, _, H1, rfl, I2, turn_enumT a (s1.heap.objs.size + 1) s1.heap.objs.size (Nat.ne_of_lt hal) (Nat.ne_of_gt (Nat.lt_succ_of_lt hal)),
      ⟨⟨.none, he⟩, ⟨_, hit, rfl, rfl⟩, Nat.succ_ne_self _⟩, fun b hb => ?_, q⟩
    have e' : b = s1.heap.objs.size + 1 ∨ b = s1.heap.objs.size := by simpa using hb
    have hle : s1.heap.objs.size ≤ b := by
      rcases e' with z | z
      · rw [z]; exact Nat.le_add_right _ _
      · rw [z]; exact Nat.le_refl _
    exact I1.fpOk hle (I1.hok.fresh hle)
theorem walk_enumT {K : PySem.W.Frag} {a : Addr} {xs : List V} : Walk (IteT K a) xs.length (fun H => SqT K H a xs) (YPair (fun i => some (.int (i : Nat))) (fun i => xs[i]?)) := by
  refine ⟨fun i _ hi q => ⟨xs, xs[i], q, by simp [hi]⟩, fun _ q => ⟨xs, q, Nat.le_refl _⟩, fun i H v H' _ q y => ?_⟩
  obtain ⟨T, x, h1, h2, h3, h4⟩ := y
  exact ⟨T, .int (i : Nat), x, h1, h2, h3, rfl, h4 xs q⟩
end DL

set_option Elab.async false
set_option maxRecDepth 100000
namespace DL
open PySem L2
def top (i : Nat) : Stmt := PySem.Challenge.pw_drawerlocks_k31_deeper_refused.main.body.getD i (.Pass ⟨0, 0, 0, 0⟩)
abbrev s_BadNumber__init_ : Stmt := inClass (top 9) 0
abbrev s_TooMany__init_ : Stmt := inClass (top 10) 0
abbrev s_BadSeen__init_ : Stmt := inClass (top 13) 0
abbrev sIsInt : Stmt := top 21
abbrev sIsCount : Stmt := top 22
abbrev sIsDrawer : Stmt := top 23
abbrev sIsBar : Stmt := top 24
abbrev s_is_standing : Stmt := top 25
abbrev s_is_pattern : Stmt := top 26
abbrev s_is_costs : Stmt := top 27
abbrev s_is_order : Stmt := top 28
abbrev s_has_signs : Stmt := top 29
abbrev sInit : Stmt := inClass (top 35) 0
abbrev sDrawers : Stmt := inClass (top 35) 1
abbrev sBars : Stmt := inClass (top 35) 2
abbrev sCheckDrawers : Stmt := top 39
abbrev sCheckBars : Stmt := top 40
abbrev s_check_cabinet : Stmt := top 41
abbrev s_check_standing : Stmt := top 42
abbrev s_check_pattern : Stmt := top 43
abbrev s_check_few_drawers : Stmt := top 44
abbrev s_check_number : Stmt := top 45
abbrev s_cheapest : Stmt := top 51
abbrev s_check_costs : Stmt := top 52
abbrev s_force : Stmt := top 54
abbrev s_plan_depth : Stmt := top 55
abbrev s_plan : Stmt := top 56
abbrev s_renamed : Stmt := top 63
abbrev s_keeping : Stmt := top 64
abbrev s_check_order : Stmt := top 67
abbrev s_count_rest : Stmt := top 72
abbrev s_ring_at : Stmt := top 77
abbrev s_first_ring : Stmt := top 78
abbrev s_longest_row : Stmt := top 79
abbrev s_fits_many : Stmt := top 86
abbrev s_first_fit : Stmt := top 87
abbrev s_stands_after : Stmt := top 88
abbrev s_sure_pulls : Stmt := top 89
abbrev s_check_seen : Stmt := top 93
abbrev sTaken : Stmt := top 95
abbrev sParts : Stmt := top 96
abbrev sMade : Stmt := top 97
abbrev s__law_odd : Stmt := top 98
abbrev s__law_odd_standing : Stmt := top 99
abbrev s__law_call : Stmt := top 100
abbrev s__law_refused : Stmt := top 101
abbrev s_law : Stmt := top 102
end DL

set_option Elab.async false
set_option maxRecDepth 100000
namespace DL
open PySem L2
/-! ### the facts of the top -/
structure Bt (mg : Str → Option Value) : Prop where
  isinstance : mg "isinstance" = none
  int : mg "int" = none
  bool : mg "bool" = none
  tuple : mg "tuple" = none
  len : mg "len" = none
  enumerate : mg "enumerate" = none
  range : mg "range" = none
  sorted : mg "sorted" = none
/-! ### is_integer -/
structure spIsInt (K : PySem.W.Frag) (vs : List V) (H : Hp) (Q : VK) (_ : XK) : Prop where
  h : ∃ (v : V) (t : Value) (b1 b2 : Bool), vs = [v] ∧ TyX K H v t ∧ PySem.W.kitOne K t (.type "int") = some b1 ∧ PySem.W.kitOne K t (.type "bool") = some b2 ∧ Q (.bl (b1 && !b2)) H
section
variable {P : Program} {w : World} {K : PySem.W.Frag} {mg : Str → Option Value} {base : Heap}
theorem scIsInt : FnScope ["value"] ["value"] (defScope sIsInt) := ⟨rfl, rfl, rfl, by decide +kernel, rfl, by decide +kernel, by decide +kernel⟩
theorem ok_isInt {f : Addr} {fd : FuncData} (F : Fun K "is_integer" "is_integer" sIsInt f fd) (T : Bt mg) : FnOk P w K mg base CX0 1 f fd ["value"] (spIsInt K) := by
  refine F.ok scIsInt (fun vs H Q E h => ?_) (fun cdv A outer s H vs Q E hr h => ?_)
  · obtain ⟨v, t, b1, b2, rfl, _⟩ := h.h
    rfl
  · obtain ⟨v, t, b1, b2, rfl, ty, k1, k2, k⟩ := h.h
    refine ⟨_, pss_one (ps_ret (pe_and (pe_callB call_isi (by rfl) T.isinstance (by decide +kernel) (pa_cons (pv 0) (pa_cons (pe_bltn (v := .ty "int") (by rfl) T.int (by decide +kernel) rfl) pa_nil)))
      (pe_one (pe_not (pe_callB call_isi (by rfl) T.isinstance (by decide +kernel) (pa_cons (pv 0) (pa_cons (pe_bltn (v := .ty "bool") (by rfl) T.bool (by decide +kernel) rfl) pa_nil))))))), ?_⟩
    refine ⟨_, rfl, _, _, t, _, b1, rfl, .ty "int", ty, k1, b1, rfl, ?_⟩
    cases b1 with
    | false => exact iteF k
    | true => exact iteT ⟨_, rfl, _, _, t, _, b2, rfl, .ty "bool", ty, k2, b2, rfl, k⟩
/-! ### is_drawer_count(value), is_drawer(drawers, value) -/
/-- an int as value: whether it is one; any other known thing: False -/
structure spIsCount (K : PySem.W.Frag) (vs : List V) (H : Hp) (Q : VK) (_ : XK) : Prop where
  h : (∃ n : Int, vs = [.int n] ∧ Q (.bl (decide (1 ≤ n) && decide (n ≤ 7))) H) ∨
  ∃ (v : V) (t : Value) (b1 b2 : Bool), vs = [v] ∧ TyX K H v t ∧ PySem.W.kitOne K t (.type "int") = some b1 ∧ PySem.W.kitOne K t (.type "bool") = some b2 ∧ (b1 && !b2) = false ∧ Q (.bl false) H
theorem scIsCount : FnScope ["value"] ["value"] (defScope sIsCount) := ⟨rfl, rfl, rfl, by decide +kernel, rfl, by decide +kernel, by decide +kernel⟩
theorem ok_isCount {f f1 : Addr} {fd fd1 : FuncData} (F : Fun K "is_drawer_count" "is_drawer_count" sIsCount f fd) (_T : Bt mg) (G : FnOk P w K mg base CX0 1 f1 fd1 ["value"] (spIsInt K)) (g1 : mg "is_integer" = some (.ref f1)) (k1 : PySem.W.keepIn K (.ref f1) = true) (b1 : Binds K fd1 ["value"] [])
    (gM : ∃ t, mg "MOST_DRAWERS" = some (.int 7 t)) : FnOk P w K mg base CX0 2 f fd ["value"] (spIsCount K) := by
  refine F.ok scIsCount (fun vs H Q E h => ?_) (fun cdv A outer s H vs Q E hr h => ?_)
  · rcases h.h with ⟨n, rfl, _⟩ | ⟨v, t, b1, b2, rfl, _⟩ <;> rfl
  · obtain ⟨tM, gM⟩ := gM
    refine ⟨_, pss_one (ps_ret (pe_and (pe_call G (hr.mono (by decide)) rfl g1 k1 b1 .nil pass0 (pa_cons (pv 0) pa_nil)) (pe_one (pe_chain op_le op_le pe_int (pv 0) (pe_glob (v := .int 7) rfl gM ⟨_, rfl⟩))))), ?_⟩
    rcases h.h with ⟨n, rfl, k⟩ | ⟨v, t, c1, c2, rfl, ty, e1, e2, e3, k⟩
    · refine ⟨_, rfl, ⟨.int n, .type "int", true, false, rfl, .base (.int n), kit_ty (by decide +kernel), kit_ty (by decide +kernel), true, rfl, iteT ?_⟩⟩
      refine ⟨_, rfl, _, _, rfl, rfl, _, rfl, ?_⟩
      by_cases h1 : 1 ≤ n
      · rw [decide_eq_true h1] at k ⊢
        exact iteT ⟨_, _, rfl, rfl, k⟩
      · rw [decide_eq_false h1] at k ⊢
        exact iteF k
    · refine ⟨_, rfl, ⟨v, t, c1, c2, rfl, ty, e1, e2, _, rfl, ?_⟩⟩
      rw [e3]
      exact iteF k
structure spIsDrawer (K : PySem.W.Frag) (vs : List V) (H : Hp) (Q : VK) (_ : XK) : Prop where
  h : ∃ n : Int, (∃ i : Int, vs = [.int n, .int i] ∧ Q (.bl (decide (0 ≤ i) && decide (i < n))) H) ∨
  ∃ (v : V) (t : Value) (b1 b2 : Bool), vs = [.int n, v] ∧ TyX K H v t ∧ PySem.W.kitOne K t (.type "int") = some b1 ∧ PySem.W.kitOne K t (.type "bool") = some b2 ∧ (b1 && !b2) = false ∧ Q (.bl false) H
theorem scIsDrawer : FnScope ["drawers", "value"] ["drawers", "value"] (defScope sIsDrawer) := ⟨rfl, rfl, rfl, by decide +kernel, rfl, by decide +kernel, by decide +kernel⟩
theorem ok_isDrawer {f f1 : Addr} {fd fd1 : FuncData} (F : Fun K "is_drawer" "is_drawer" sIsDrawer f fd) (_T : Bt mg) (G : FnOk P w K mg base CX0 1 f1 fd1 ["value"] (spIsInt K)) (g1 : mg "is_integer" = some (.ref f1)) (k1 : PySem.W.keepIn K (.ref f1) = true) (b1 : Binds K fd1 ["value"] []) :
    FnOk P w K mg base CX0 2 f fd ["drawers", "value"] (spIsDrawer K) := by
  refine F.ok scIsDrawer (fun vs H Q E h => ?_) (fun cdv A outer s H vs Q E hr h => ?_)
  · rcases h.h with ⟨n, ⟨i, rfl, _⟩ | ⟨v, t, b1, b2, rfl, _⟩⟩ <;> rfl
  · refine ⟨_, pss_one (ps_ret (pe_and (pe_call G (hr.mono (by decide)) rfl g1 k1 b1 .nil pass0 (pa_cons (pv 1) pa_nil)) (pe_one (pe_chain op_le op_lt pe_int (pv 1) (pv 0))))), ?_⟩
    rcases h.h with ⟨n, ⟨i, rfl, k⟩ | ⟨v, t, c1, c2, rfl, ty, e1, e2, e3, k⟩⟩
    · refine ⟨_, rfl, ⟨.int i, .type "int", true, false, rfl, .base (.int i), kit_ty (by decide +kernel), kit_ty (by decide +kernel), true, rfl, iteT ?_⟩⟩
      refine ⟨_, rfl, _, _, rfl, rfl, _, rfl, ?_⟩
      by_cases h1 : 0 ≤ i
      · rw [decide_eq_true h1] at k ⊢
        exact iteT ⟨_, rfl, _, _, rfl, rfl, k⟩
      · rw [decide_eq_false h1] at k ⊢
        exact iteF k
    · refine ⟨_, rfl, ⟨v, t, c1, c2, rfl, ty, e1, e2, _, rfl, ?_⟩⟩
      rw [e3]
      exact iteF k
end
end DL

set_option Elab.async false
set_option maxRecDepth 100000
namespace DL
open PySem L2
/-! ### is_bar -/
def scV : V → Bool
  | .non => true | .bl _ => true | .int _ => true | .str _ => true | _ => false
def isD (n : Int) : V → Bool
  | .int i => decide (0 ≤ i) && decide (i < n)
  | _ => false
def inW : V → Bool
  | .str z => decide (z = "open") || decide (z = "shut")
  | _ => false
def barB (n : Int) (x0 x1 x2 x3 : V) : Bool := isD n x0 && (isD n x2 && (!decide (x0 = x2) && (inW x1 && inW x3)))
theorem inW_in (x : V) (h : scV x = true) : inV x [.str "open", .str "shut"] = inW x ∧ flatV x = true := by
  have z1 : ∀ z : Str, ((("open" : Str) == z) || ((("shut" : Str) == z) || false)) = (decide (z = "open") || decide (z = "shut")) := fun z => by
    rw [beq_dec, beq_dec, Bool.or_false]
    congr 1
    · exact decide_eq_decide.mpr ⟨Eq.symm, Eq.symm⟩
    · exact decide_eq_decide.mpr ⟨Eq.symm, Eq.symm⟩
  cases x with
  | str z => exact ⟨z1 z, rfl⟩
  | non => exact ⟨rfl, rfl⟩
  | bl b => exact ⟨rfl, rfl⟩
  | int i => exact ⟨rfl, rfl⟩
  | _ => cases h
theorem spIsDrawer_sc {K : PySem.W.Frag} {n : Int} {x : V} {H : Hp} {Q : VK} {E : XK} (hx : scV x = true) (k : Q (.bl (isD n x)) H) : spIsDrawer K [.int n, x] H Q E := by
  cases x with
  | int i => exact ⟨⟨n, .inl ⟨i, rfl, k⟩⟩⟩
  | non => exact ⟨⟨n, .inr ⟨.non, .type "NoneType", false, false, rfl, .base .non, kit_ty (by decide +kernel), kit_ty (by decide +kernel), rfl, k⟩⟩⟩
  | bl b => exact ⟨⟨n, .inr ⟨.bl b, .type "bool", true, true, rfl, .base (.bl b), kit_ty (by decide +kernel), kit_ty (by decide +kernel), rfl, k⟩⟩⟩
  | str z => exact ⟨⟨n, .inr ⟨.str z, .type "str", false, false, rfl, .base (.str z), kit_ty (by decide +kernel), kit_ty (by decide +kernel), rfl, k⟩⟩⟩
  | _ => cases hx
theorem tyT {K : PySem.W.Frag} {H : Hp} {a : Addr} {xs : List V} (h : SqT K H a xs) : TyX K H (.ref a) (.type "tuple") := by
  rcases h with (h | ⟨o, h⟩) | ⟨o, its, n, h1, h2, _⟩
  · exact .base (.tup h)
  · exact .fTuple h
  · exact .kTuple h1 h2
structure spIsBar (K : PySem.W.Frag) (vs : List V) (H : Hp) (Q : VK) (_ : XK) : Prop where
  h : ∃ n : Int, (∃ (v : V) (t : Value), vs = [.int n, v] ∧ TyX K H v t ∧ PySem.W.kitOne K t (.type "tuple") = some false ∧ Q (.bl false) H) ∨
  (∃ (a : Addr) (xs : List V), vs = [.int n, .ref a] ∧ SqT K H a xs ∧ xs.length ≠ 4 ∧ Q (.bl false) H) ∨
  ∃ (a : Addr) (x0 x1 x2 x3 : V), vs = [.int n, .ref a] ∧ SqT K H a [x0, x1, x2, x3] ∧ scV x0 = true ∧ scV x1 = true ∧ scV x2 = true ∧ scV x3 = true ∧ Q (.bl (barB n x0 x1 x2 x3)) H
section
variable {P : Program} {w : World} {K : PySem.W.Frag} {mg : Str → Option Value} {base : Heap}
theorem scIsBar : FnScope ["drawers", "value", "drawer", "way", "other", "stand"] ["drawers", "value"] (defScope sIsBar) := ⟨rfl, rfl, rfl, by decide +kernel, rfl, by decide +kernel, by decide +kernel⟩
theorem ok_isBar {f f1 : Addr} {fd fd1 : FuncData} (F : Fun K "is_bar" "is_bar" sIsBar f fd) (T : Bt mg) (G : FnOk P w K mg base CX0 2 f1 fd1 ["drawers", "value"] (spIsDrawer K)) (g1 : mg "is_drawer" = some (.ref f1)) (k1 : PySem.W.keepIn K (.ref f1) = true) (b1 : Binds K fd1 ["drawers", "value"] [])
    (gW : ∃ aW, mg "WORDS" = some (.ref aW) ∧ ∀ H, SqT K H aW [.str "open", .str "shut"]) : FnOk P w K mg base CX0 3 f fd ["drawers", "value"] (spIsBar K) := by
  refine F.ok scIsBar (fun vs H Q E h => ?_) (fun cdv A outer s H vs Q E hr h => ?_)
  · rcases h.h with ⟨n, ⟨v, t, rfl, _⟩ | ⟨a, xs, rfl, _⟩ | ⟨a, x0, x1, x2, x3, rfl, _⟩⟩ <;> rfl
  · obtain ⟨aW, gW, hW⟩ := gW
    refine ⟨_, pss_cons (ps_if (PW.pt (pw_or (pt_not (pt_val (pe_callB call_isi (by rfl) T.isinstance (by decide +kernel) (pa_cons (pv 1) (pa_cons (pe_bltn (v := .ty "tuple") (by rfl) T.tuple (by decide +kernel) rfl) pa_nil)))))
        (pw_or1 (pt_cmpR op_ne (pe_callB call_len_seq (by rfl) T.len PySem.boot_len (pa_cons (pv 1) pa_nil)) pe_int (nomark _))))) (pss_one (ps_ret pe_bl)) pss_nil)
      (pss_cons (ps_asg (pv 1) (pg_tup (by rfl) (pgs_cons (pg_name (i := 2) scIsBar.nd rfl (.inl rfl)) (pgs_cons (pg_name (i := 3) scIsBar.nd rfl (.inl rfl)) (pgs_cons (pg_name (i := 4) scIsBar.nd rfl (.inl rfl)) (pgs_cons (pg_name (i := 5) scIsBar.nd rfl (.inl rfl)) pgs_nil))))))
      (pss_cons (ps_if (PW.pt (pw_or (pt_not (pt_val (pe_call G (hr.mono (by decide)) rfl g1 k1 b1 .nil pass0 (pa_cons (pv 0) (pa_cons (pv 2) pa_nil))))) (pw_or1 (pt_not (pt_val (pe_call G (hr.mono (by decide)) rfl g1 k1 b1 .nil pass0 (pa_cons (pv 0) (pa_cons (pv 4) pa_nil)))))))) (pss_one (ps_ret pe_bl)) pss_nil)
      (pss_one (ps_ret (pe_and (pe_cmpR op_ne (pv 2) (pv 4) (nomark _)) (pe_and (pe_cmpR op_in_seq (pv 3) (pe_glob (v := .ref aW) rfl gW rfl) (by rfl)) (pe_one (pe_cmpR op_in_seq (pv 5) (pe_glob (v := .ref aW) rfl gW rfl) (by rfl))))))))), ?_⟩
    rcases h.h with ⟨n, ⟨v, t, rfl, ty, e, k⟩ | ⟨a, xs, rfl, hq, hl, k⟩ | ⟨a, x0, x1, x2, x3, rfl, hq, c0, c1, c2, c3, k⟩⟩
    · exact ⟨_, rfl, _, _, t, _, false, rfl, .ty "tuple", ty, e, _, rfl, iteT (iteT k)⟩
    · refine ⟨_, rfl, _, _, _, _, true, rfl, .ty "tuple", tyT hq, kit_ty (by decide +kernel), _, rfl, iteF ?_⟩
      refine ⟨_, rfl, a, xs, rfl, .inr hq, rfl, _, rfl, ?_⟩
      refine ite2 (fun _ => k) (fun z => ?_)
      exact absurd (show (.int (xs.length : Int) : V) = .int 4 by simpa using z) (fun q => hl (by injection q with q; omega))
    · refine ⟨_, rfl, _, _, _, _, true, rfl, .ty "tuple", tyT hq, kit_ty (by decide +kernel), _, rfl, iteF ?_⟩
      refine ⟨_, rfl, a, _, rfl, .inr hq, rfl, _, rfl, iteF ?_⟩
      refine ⟨_, rfl, a, _, rfl, hq, rfl, x0, _, rfl, x1, _, rfl, x2, _, rfl, x3, _, rfl, rfl, ?_⟩
      refine ⟨_, rfl, _, rfl, ?_⟩
      refine spIsDrawer_sc c0 ⟨_, rfl, ?_⟩
      unfold barB at k
      cases d0 : isD n x0 with
      | false => rw [d0] at k; exact iteT (iteT k)
      | true =>
        rw [d0] at k
        refine iteF ⟨_, rfl, _, rfl, ?_⟩
        refine spIsDrawer_sc c2 ⟨_, rfl, ?_⟩
        cases d2 : isD n x2 with
        | false => rw [d2] at k; exact iteT k
        | true =>
          rw [d2] at k
          refine iteF ?_
          obtain ⟨i0, rfl⟩ : ∃ i, x0 = .int i := by cases x0 <;> first | exact ⟨_, rfl⟩ | cases d0
          obtain ⟨i2, rfl⟩ : ∃ i, x2 = .int i := by cases x2 <;> first | exact ⟨_, rfl⟩ | cases d2
          refine ⟨_, rfl, _, rfl, rfl, _, rfl, ?_⟩
          have k' : Q (.bl (!decide ((.int i0 : V) = .int i2) && (inW x1 && inW x3))) H := k
          cases e : decide ((.int i0 : V) = .int i2) with
          | true => rw [e] at k'; exact iteF k'
          | false =>
            rw [e] at k'
            refine iteT ⟨_, rfl, aW, _, rfl, .inr (hW H), (inW_in x1 c1).2, rfl, _, rfl, ?_⟩
            show if inV x1 _ = true then _ else _
            rw [(inW_in x1 c1).1]
            have k'' : Q (.bl (inW x1 && inW x3)) H := k'
            cases e1 : inW x1 with
            | false => rw [e1] at k''; exact iteF k''
            | true =>
              rw [e1] at k''
              refine iteT ⟨_, rfl, aW, _, rfl, .inr (hW H), (inW_in x3 c3).2, rfl, ?_⟩
              show Q (.bl (inV x3 _)) H
              rw [(inW_in x3 c3).1]
              exact k''
end
end DL

set_option Elab.async false
set_option maxRecDepth 100000
namespace DL
open PySem L2
/-! ### bars of the heap -/
structure BarsAt (H : Hp) (t : Addr) (ks : List (Addr × Bar)) : Prop where
  tu : H t = some (.tup (ks.map fun k => V.ref k.1))
  el : ∀ k ∈ ks, H k.1 = some (.tup k.2.vs)
theorem BarsAt.same {H H' : Hp} {t : Addr} {ks : List (Addr × Bar)} (B : BarsAt H t ks) (s : Same H H') : BarsAt H' t ks := ⟨s _ _ B.tu, fun k hk => s _ _ (B.el k hk)⟩
def Bar.ok (n : Int) (b : Bar) : Prop := 0 ≤ b.d ∧ b.d < n ∧ 0 ≤ b.o ∧ b.o < n ∧ b.d ≠ b.o
theorem Bar.ok.low {n : Int} {b : Bar} (h : b.ok n) (hn : n ≤ 7) : b.low := by
  obtain ⟨h1, h2, h3, h4, _⟩ := h
  exact ⟨h1, by omega, h3, by omega⟩
structure OkBars (n : Int) (bs : List Bar) : Prop where
  ok : ∀ b ∈ bs, b.ok n
  asc : bs.Pairwise fun x y => x.code < y.code
theorem inW_wd (b : Bool) : inW (.str (wd b)) = true := by revert b; decide +kernel
theorem barB_ok {n : Int} {b : Bar} (h : b.ok n) : barB n (.int b.d) (.str (wd b.w)) (.int b.o) (.str (wd b.t)) = true := by
  obtain ⟨h1, h2, h3, h4, h5⟩ := h
  unfold barB
  rw [inW_wd, inW_wd]
  show ((decide (0 ≤ b.d) && decide (b.d < n)) && ((decide (0 ≤ b.o) && decide (b.o < n)) && (!decide ((.int b.d : V) = .int b.o) && true))) = true
  have e : decide ((.int b.d : V) = .int b.o) = false := decide_eq_false fun q => h5 (by injection q)
  rw [decide_eq_true h1, decide_eq_true h2, decide_eq_true h3, decide_eq_true h4, e]
  rfl
theorem spIsBar_ok {K : PySem.W.Frag} {n : Int} {a : Addr} {b : Bar} {H : Hp} {Q : VK} {E : XK} (h : b.ok n) (ha : SqT K H a b.vs) (k : Q (.bl true) H) : spIsBar K [.int n, .ref a] H Q E :=
  ⟨⟨n, .inr (.inr ⟨a, _, _, _, _, rfl, ha, rfl, rfl, rfl, rfl, by rw [barB_ok h]; exact k⟩)⟩⟩
theorem SqT.of' {K : PySem.W.Frag} {H : Hp} {a : Addr} {xs : List V} (h : H a = some (.tup xs)) : SqT K H a xs := .inl (.inl h)
theorem same_upd {H : Hp} {p : Addr} {o : HO} (h : H p = none) : Same H (upd H p o) := fun b u e => by rw [upd_ne (ne_of_none e h)]; exact e
theorem at_prev {α : Type} {xs : List α} {i : Nat} {v : α} (h0 : 0 < i) (h : xs[i - 1]? = some v) : atI xs ((i : Int) - 1) = some v := by
  have e : (i : Int) - 1 = ((i - 1 : Nat) : Int) := by omega
  rw [e]
  exact atI_nat h
theorem pw_prev {bs : List Bar} (h : bs.Pairwise fun x y => x.code < y.code) {i : Nat} (h0 : 0 < i) {x y : Bar} (hx : bs[i - 1]? = some x) (hy : bs[i]? = some y) : x.code < y.code := by
  obtain ⟨l1, e1⟩ := List.getElem?_eq_some_iff.mp hx
  obtain ⟨l2, e2⟩ := List.getElem?_eq_some_iff.mp hy
  have := List.pairwise_iff_getElem.mp h (i - 1) i l1 l2 (by omega)
  rw [e1, e2] at this
  exact this
theorem not_leq {n : Int} {x y : Bar} (hn : n ≤ 7) (hx : x.ok n) (hy : y.ok n) (h : x.code < y.code) : y.leq x = false := by
  rw [Bar.leq_code (hy.low hn) (hx.low hn)]
  exact decide_eq_false (by omega)
/-! ### check_drawers, check_bars, __init__ of what is right -/
structure spCheckDrawers (vs : List V) (H : Hp) (Q : VK) (_ : XK) : Prop where
  h : ∃ n : Int, vs = [.int n] ∧ 1 ≤ n ∧ n ≤ 7 ∧ Q .non H
structure spCheckBars (vs : List V) (H : Hp) (Q : VK) (_ : XK) : Prop where
  h : ∃ (n : Int) (t : Addr) (ks : List (Addr × Bar)), vs = [.int n, .ref t] ∧ n ≤ 7 ∧ BarsAt H t ks ∧ OkBars n (ks.map (·.2)) ∧ ∀ H', Same H H' → Q .non H'
theorem kd_ : ¬ (("_drawers" : Str) = "_bars") := by decide +kernel
def cfl (n : Int) (t : Addr) : List (Str × V) := putF "_bars" (.ref t) (putF "_drawers" (.int n) [])
theorem cfl_d (n : Int) (t : Addr) : (cfl n t).lookup ("_drawers" : Str) = some (.int n) := by
  unfold cfl
  rw [lookup_putF, if_neg kd_, lookup_putF, if_pos rfl]
theorem cfl_b (n : Int) (t : Addr) : (cfl n t).lookup ("_bars" : Str) = some (.ref t) := by
  unfold cfl
  rw [lookup_putF, if_pos rfl]
/-- a Cabinet stands at c -/
def CabAt (C : Addr) (H : Hp) (c : Addr) (n : Int) (t : Addr) : Prop := ∃ dx, H c = some (.ins C dx (cfl n t))
structure spInit (C : Addr) (vs : List V) (H : Hp) (Q : VK) (_ : XK) : Prop where
  h : ∃ (p dx : Addr) (n : Int) (t : Addr) (ks : List (Addr × Bar)), vs = [.ref p, .int n, .ref t] ∧ H p = some (.ins C dx []) ∧ 1 ≤ n ∧ n ≤ 7 ∧ BarsAt H t ks ∧ OkBars n (ks.map (·.2)) ∧
    ∀ H', H' p = some (.ins C dx (cfl n t)) → (∀ b o, b ≠ p → H b = some o → H' b = some o) → Q .non H'
/-- the class -/
structure CabT (K : PySem.W.Frag) (mg : Str → Option Value) (C : Addr) : Prop where
  cl : Cls K C
  nD : NoAttr K C "_drawers"
  nB : NoAttr K C "_bars"
  mgC : mg "Cabinet" = some (.ref C)
section
variable {P : Program} {w : World} {K : PySem.W.Frag} {mg : Str → Option Value} {base : Heap}
theorem scCheckDrawers : FnScope ["drawers"] ["drawers"] (defScope sCheckDrawers) := ⟨rfl, rfl, rfl, by decide +kernel, rfl, by decide +kernel, by decide +kernel⟩
theorem ok_checkDrawers {f f1 : Addr} {fd fd1 : FuncData} (F : Fun K "check_drawers" "check_drawers" sCheckDrawers f fd) (G : FnOk P w K mg base CX0 2 f1 fd1 ["value"] (spIsCount K)) (g1 : mg "is_drawer_count" = some (.ref f1)) (k1 : PySem.W.keepIn K (.ref f1) = true) (b1 : Binds K fd1 ["value"] []) :
    FnOk P w K mg base CX0 3 f fd ["drawers"] spCheckDrawers := by
  refine F.ok scCheckDrawers (fun vs H Q E h => ?_) (fun cdv A outer s H vs Q E hr h => ?_)
  · obtain ⟨n, rfl, _⟩ := h.h
    rfl
  · obtain ⟨n, rfl, h1, h2, k⟩ := h.h
    refine ⟨_, pss_one (ps_if (pt_not (pt_val (pe_call G (hr.mono (by decide)) rfl g1 k1 b1 .nil pass0 (pa_cons (pv 0) pa_nil)))) (pss_one ps_never) pss_nil), ?_⟩
    refine ⟨_, rfl, ⟨.inl ⟨n, rfl, _, rfl, ?_⟩⟩⟩
    rw [decide_eq_true h1, decide_eq_true h2]
    exact iteF k
theorem scCheckBars : FnScope ["drawers", "bars", "index", "bar"] ["drawers", "bars"] (defScope sCheckBars) := ⟨rfl, rfl, rfl, by decide +kernel, rfl, by decide +kernel, by decide +kernel⟩
theorem ok_checkBars {f f1 : Addr} {fd fd1 : FuncData} (F : Fun K "check_bars" "check_bars" sCheckBars f fd) (T : Bt mg) (G : FnOk P w K mg base CX0 3 f1 fd1 ["drawers", "value"] (spIsBar K)) (g1 : mg "is_bar" = some (.ref f1)) (k1 : PySem.W.keepIn K (.ref f1) = true) (b1 : Binds K fd1 ["drawers", "value"] []) :
    FnOk P w K mg base CX0 4 f fd ["drawers", "bars"] spCheckBars := by
  refine F.ok scCheckBars (fun vs H Q E h => ?_) (fun cdv A outer s H vs Q E hr h => ?_)
  · obtain ⟨n, t, ks, rfl, _⟩ := h.h
    rfl
  · obtain ⟨n, t, ks, rfl, hn, B, O, k⟩ := h.h
    have hu : _ < cLine := hr.units0
    refine ⟨_, pss_cons (ps_if (pt_not (pt_val (pe_callB call_isi (by rfl) T.isinstance (by decide +kernel) (pa_cons (pv 1) (pa_cons (pe_bltn (v := .ty "tuple") (by rfl) T.tuple (by decide +kernel) rfl) pa_nil))))) (pss_one ps_never) pss_nil)
      (pss_one (ps_for PassesOwn.never rfl (pi_enumT (by rfl) T.enumerate (pa_cons (pv 1) pa_nil)) (pg_tup (by rfl) (pgs_cons (pg_name (i := 2) scCheckBars.nd rfl (.inl rfl)) (pgs_cons (pg_name (i := 3) scCheckBars.nd rfl (.inl rfl)) pgs_nil)))
        (pss_cons (ps_if (pt_not (pt_val (pe_call G (hr.mono (by decide)) rfl g1 k1 b1 .nil pass0 (pa_cons (pv 0) (pa_cons (pv 3) pa_nil))))) (pss_one ps_never) pss_nil)
        (pss_one (ps_if (PW.pt (pw_and (pt_cmpR op_gt (pv 2) pe_int (nomark _)) (pw_and1 (pt_cmpR (op_leB hu) (pv 3) (pe_ix ix_tup (pv 1) (pe_op op_sub (pv 2) pe_int) (fun _ _ => rfl)) (nomark _))))) (pss_one ps_never) pss_nil))))), ?_⟩
    refine ⟨_, rfl, _, _, _, _, true, rfl, .ty "tuple", tyT (SqT.of' B.tu), kit_ty (by decide +kernel), _, rfl, iteF ?_⟩
    refine ⟨_, rfl, t, _, rfl, SqT.of' B.tu, ?_⟩
    refine for_it walk_enumT (fun i σ H' => ∃ v2 v3, σ = [some (.int n), some (.ref t), v2, v3] ∧ Same H H') ⟨_, _, rfl, Same.refl H⟩ (fun i σ H' _ ⟨_, _, _, s1⟩ => SqT.of' (s1 _ _ B.tu)) ?_ ?_
    · rintro i x σ H1 H2 hi ⟨v2, v3, rfl, s1⟩ ⟨T, x1, x2, rfl, hT, rfl, e1, e2⟩
      have e1' : V.int (i : Nat) = x1 := Option.some.inj e1
      subst e1'
      have e2 : (ks.map fun k => V.ref k.1)[i]? = some x2 := e2
      rw [List.getElem?_map] at e2
      cases ek : ks[i]? with
      | none => rw [ek] at e2; cases e2
      | some kk =>
        rw [ek] at e2
        have e2' : V.ref kk.1 = x2 := Option.some.inj e2
        subst e2'
        have s2 : Same H (upd H1 T (.tup [.int (i : Nat), .ref kk.1])) := s1.trans (same_upd hT)
        have hm : kk ∈ ks := List.mem_of_getElem? ek
        have hok : kk.2.ok n := O.ok _ (List.mem_map.mpr ⟨kk, hm, rfl⟩)
        refine ⟨T, _, rfl, SqT.of' upd_same, rfl, _, _, rfl, _, _, rfl, rfl, ?_⟩
        refine ⟨_, rfl, _, rfl, spIsBar_ok hok (SqT.of' (s2 _ _ (B.el kk hm))) ⟨_, rfl, iteF ?_⟩⟩
        refine ⟨_, rfl, _, _, rfl, rfl, _, rfl, ?_⟩
        refine ite2 (fun z => ?_) (fun z => iteF ⟨_, _, rfl, s2⟩)
        have h0 : 0 < i := by have := of_decide_eq_true z; omega
        obtain ⟨kp, ep⟩ : ∃ kp, ks[i - 1]? = some kp := by
          have := (List.getElem?_eq_some_iff.mp ek).1
          exact ⟨ks[i - 1]'(by omega), List.getElem?_eq_getElem (by omega)⟩
        have hmp : kp ∈ ks := List.mem_of_getElem? ep
        have hokp : kp.2.ok n := O.ok _ (List.mem_map.mpr ⟨kp, hmp, rfl⟩)
        refine ⟨_, rfl, _, rfl, _, rfl, _, _, rfl, rfl, t, _, _, .ref kp.1, rfl, rfl, SqT.of' (s2 _ _ B.tu), at_prev h0 (by rw [List.getElem?_map, ep]; rfl), ?_⟩
        refine ⟨kk.1, kp.1, kk.2, kp.2, rfl, rfl, SqT.of' (s2 _ _ (B.el kk hm)), SqT.of' (s2 _ _ (B.el kp hmp)), _, rfl, ?_⟩
        have hlt : kp.2.code < kk.2.code := pw_prev O.asc h0 (by rw [List.getElem?_map, ep]; rfl) (by rw [List.getElem?_map, ek]; rfl)
        rw [not_leq hn hokp hok hlt]
        exact iteF ⟨_, _, rfl, s2⟩
    · rintro σ H' ⟨v2, v3, rfl, s1⟩
      exact k H' s1
theorem scInit : FnScope ["self", "drawers", "bars"] ["self", "drawers", "bars"] (defScope sInit) := ⟨rfl, rfl, rfl, by decide +kernel, rfl, by decide +kernel, by decide +kernel⟩
theorem ok_init {f f1 f2 C : Addr} {fd fd1 fd2 : FuncData} (F : Fun K "__init__" "Cabinet.__init__" sInit f fd) (T : CabT K mg C) (G1 : FnOk P w K mg base CX0 3 f1 fd1 ["drawers"] spCheckDrawers) (g1 : mg "check_drawers" = some (.ref f1)) (k1 : PySem.W.keepIn K (.ref f1) = true) (b1 : Binds K fd1 ["drawers"] [])
    (G2 : FnOk P w K mg base CX0 4 f2 fd2 ["drawers", "bars"] spCheckBars) (g2 : mg "check_bars" = some (.ref f2)) (k2 : PySem.W.keepIn K (.ref f2) = true) (b2 : Binds K fd2 ["drawers", "bars"] []) : FnOk P w K mg base CX0 5 f fd ["self", "drawers", "bars"] (spInit C) := by
  refine F.ok scInit (fun vs H Q E h => ?_) (fun cdv A outer s H vs Q E hr h => ?_)
  · obtain ⟨p, dx, n, t, ks, rfl, _⟩ := h.h
    rfl
  · obtain ⟨p, dx, n, t, ks, rfl, hp, h1, h7, B, O, k⟩ := h.h
    refine ⟨_, pss_cons (ps_expr (pe_call G1 (hr.mono (by decide)) rfl g1 k1 b1 .nil pass0 (pa_cons (pv 1) pa_nil))) (pss_cons (ps_expr (pe_call G2 (hr.mono (by decide)) rfl g2 k2 b2 .nil pass0 (pa_cons (pv 1) (pa_cons (pv 2) pa_nil))))
      (pss_cons (ps_fld (pv 0) (pv 1) rfl) (pss_one (ps_fld (pv 0) (pv 2) rfl)))), ?_⟩
    refine ⟨_, rfl, ⟨n, rfl, h1, h7, ?_⟩⟩
    refine ⟨_, rfl, _, rfl, ⟨n, t, ks, rfl, h7, B, O, fun H1 s1 => ?_⟩⟩
    refine ⟨_, rfl, _, rfl, p, C, dx, _, rfl, s1 _ _ hp, T.cl, T.nD, (by show 0 < 1000; decide), _, rfl, _, rfl, p, C, dx, _, rfl, upd_same, T.cl, T.nB, (by show 1 < 1000; decide), ?_⟩
    refine k _ upd_same fun b o hb e => ?_
    rw [upd_ne hb, upd_ne hb]
    exact s1 _ _ e
end
end DL

set_option Elab.async false
set_option maxRecDepth 100000
set_option maxHeartbeats 1000000
namespace DL
open PySem PySem.Spec PyProof.Rows L2
/-- super().__init__(..) called: the error's args are laid anew -/
theorem mw_call {P : Program} {w : World} {A : Around} {E : Value → Shared → Prop} {h : Heap} {g : Array GenState} {d : Drawn} {t : Nat} {os : OsState} {nm q : Str} {C N : Addr} {bs bm : List Value} {hdct : Bool} {sn : List Str} {sub : List Value} {ab : Bool} {col : Option Bool} {dd : Option Addr} {k0 k1 k2 k3 k5 : Option Value}
    {u e t0 : Addr} {rest : List Value} {Q : Value → Shared → Prop}
    (hC : h.get? C = some (excClassObj nm q C N bs bm hdct sn sub ab col dd k0 k1 k2 k3 k5 "ValueError.__new__")) (he : h.get? e = some ({ cls := .ref C, dict := none, data := .fields #[.ref t0, .none, .none, .none, .bool false, .none] } : Obj)) (hu : h.get? u = some (PySem.W.kxs_mw "ValueError.__init__" e)) (hrest : rest.length ≤ sizeLine)
    (hq : ∀ h' t1, (∀ b o, b ≠ e → h.get? b = some o → h'.get? b = some o) → h'.get? e = some ({ cls := .ref C, dict := none, data := .fields #[.ref t1, .none, .none, .none, .bool false, .none] } : Obj) → Q .none ⟨h', g, d, t, os⟩) :
    wpAny (model P w) A (call (.ref u) rest) Q E ⟨h, g, d, t, os⟩ := by
  have FB := F.excBase_ValueError
  refine wpAny_call (codeAny_of_tree ?_)
  show wpAny _ A.in1 (callAny (.ref u) ⟨rest, []⟩) _ _ _
  simp only [callAny]
  refine wpAny_bind (wpAny_load hu ?_)
  simp only [PySem.W.kxs_mw, show (Value.type "method-wrapper" == Value.type "method" || Value.type "method-wrapper" == Value.type "builtin_function_or_method" || Value.type "method-wrapper" == Value.type "method-wrapper") = true by decide, if_true]
  refine PySem.W.KFB.if_so (by decide) ?_
  refine wpAny_bind (PySem.W.check_bound_init FB.toExcCallFacts hC he rfl ?_)
  refine wpAny_bind (wpAny_pure (wpAny_pure ?_))
  refine ⟨plainId_quiet FB.init.plain _, codeAny_builtin FB.initEntry ?_⟩
  exact PySem.W.exc_init_tree (cls := .ref C) (t0 := t0) (dv := none) (c2 := .none) (c3 := .none) (b4 := .bool false) he hrest fun h' k he' _ => hq h' _ k he'
structure SupK (K : PySem.W.Frag) (P : Program) (f C cc cda : Addr) (fd : FuncData) (slf : Str) : Prop where
  T : OexC K C
  mro : ∃ cd, PySem.W.clsIn K C = some cd ∧ PySem.W.alongIn K "__init__" ((cd.mro.dropWhile (· != .ref C)).drop 1) = some (some (.builtin "ValueError.__init__"))
  lf : ∃ oc od osl, K.lookup f = some ⟨oc, od, .func fd, osl⟩
  hp : ∃ ar, (fd.params.posonlyargs ++ fd.params.args).head? = some ar ∧ ar.arg = slf
  code : ∃ ccl cdd vs ccs file tf, K.lookup cda = some ⟨ccl, cdd, .fields vs, ccs⟩ ∧ vs[2]? = some (.str file tf) ∧ ((P.main.file : Str) == file) = true
  cell : ∃ cl cld csl, K.lookup cc = some ⟨cl, cld, .cell (some (.ref C)), csl⟩
  sub : PySem.W.mroIn K C (.ref C) = some true
  any : PySem.W.nsIn K cStatics "thirdparty.any" = some none
  subB : PySem.W.subIn K (.ref C) (.type "ValueError") = some true
  top : (P.main.scope.names.lookup ("super" : Str)).isSome = false
theorem boot_super_ : bootBuiltins ("super" : Str) = some (.type "super") := by decide +kernel
section
variable {X : Cx} {pins : List (Addr × Obj)} {σ : L2.St} {H : Hp} {s : Shared} {D : Ends} {f C cc cda a : Addr} {fd : FuncData} {slf : Str} {e : Expr} {es : List Expr} {ta : TA} {body : List Stmt} {p0 p1 apos pos pos' : Pos} {pl : Sem Bool}
theorem sup_run (S : SupK X.K X.prog f C cc cda fd slf) (hfu : X.env.func = some f) (hco : X.env.code = .ref cda) (hcl : X.env.cells.lookup ("__class__" : Str) = some cc) (hks : X.env.kindOf "super" = some .globalImplicit) (hkc : X.env.kindOf "__class__" = some .free)
    (hka : X.env.kindOf slf = some .local) (hN : X.N[0]? = some slf) (hm : X.mg "super" = none) (ha : PA X (e :: es) ta) (I : Inv X pins σ H s) (hσ : σ[0]? = some (some (.ref a))) (hea : H a = some (exo a C none))
    (h : ta σ H fun vs H1 => vs.length ≤ 1000 ∧ H1 a = some (exo a C none) ∧ D.nx σ H1)
    (hev : eval (.Call (.Attribute (.Call (.Name "super" p0) [] [] p1) "__init__" apos) (e :: es) [] pos) X.env = (do
      let ov ← attributeBase (.Call (.Name "super" p0) [] [] p1) "__init__" X.env (eval (.Call (.Name "super" p0) [] [] p1) X.env)
      standAt apos.atName
      let (f, first) ← holding [ov] (getMethod ov "__init__" pl)
      callWith pos f first (backTo pos (starEach (e :: es) X.env)) []) := by rfl)
    (hi : interactive X.env = false := by rfl) (hsw : swapsWith (.Call (.Attribute (.Call (.Name "super" p0) [] [] p1) "__init__" apos) (e :: es) [] pos) none pos'.line X.env = pure false := by rfl)
    (hst : starEach (e :: es) X.env = (false, eval e X.env) :: starEach es X.env := by rfl) (hpl : (backTo pos (starEach es X.env)).any (·.1) = false := by rfl) :
    PySem.wpAt (model X.prog X.w) X.A (.func body X.env) (exec (.Expr (.Call (.Attribute (.Call (.Name "super" p0) [] [] p1) "__init__" apos) (e :: es) [] pos) pos') X.env) (SP X pins D) X.xe s := by
  obtain ⟨cd, hcd, halong⟩ := S.mro
  obtain ⟨oc, od, osl, lf⟩ := S.lf
  obtain ⟨ar, har, hslf⟩ := S.hp
  obtain ⟨ccl, cdd, vs, ccs, file, tf, hcode, hvs, hfile⟩ := S.code
  obtain ⟨cl, cld, csl, hcell⟩ := S.cell
  have X0 := I.kIn
  obtain ⟨mb, hb1, hb2⟩ := I.mod.blt
  obtain ⟨m, hn, hl⟩ := I.loc
  obtain ⟨u, ru, hlook⟩ := hl 0 slf (.ref a) hN hσ (.inl hka)
  have hmv : m slf = some (.ref a) := by
    obtain rfl : u = Value.ref a := ru
    rcases hlook with ⟨_, q⟩ | ⟨q | q, _⟩
    · exact q
    · rw [hka] at q; cases q
    · rw [hka] at q; cases q
  have hbk := I.bk
  have hok := I.ok
  obtain ⟨t1, ho⟩ := exo_at I.hok hea
  have hac : a ≠ C := fun z => by
    obtain ⟨nm, q, N, bs, bm, sn, sub, ab, col, dd, k0, k1, k2, k3, k5, hC, _⟩ := S.T.cls
    have := (I.bs C _ (I.mod.kin _ _ hC)).2
    rw [← z, hea] at this
    cases this
  have hD : ∃ oD, s.heap.get? C = some oD ∧ oD.data = .cls cd := by
    unfold PySem.W.clsIn at hcd
    split at hcd
    · rename_i c d cd' sl ho'
      cases hcd
      exact ⟨_, X0 _ _ ho', rfl⟩
    · cases hcd
  obtain ⟨oD, hD1, hD2⟩ := hD
  obtain ⟨hh, g, d, t, os⟩ := s
  refine PySem.ks_wpAt_Expr_any ?_ hi hsw
  refine PySem.ks_wpAt_MethodCall ?_ hev
  refine PySem.ks_wpAt_super_base hks hkc rfl hfu (X0 _ _ lf) rfl har hco (X0 _ _ hcode) rfl hvs hfile S.top ?_
  refine PySem.W.ks_loadName_global hok.kind hks (Calls.loadGlobal_builtin (by rw [hok.glob]; exact I.mod.glob.keeps hbk) hm (by rw [hok.blt]; exact hb1.keeps hbk) ((hb2 "super" (by decide)).trans boot_super_) ⟨rfl, ?_⟩)
  refine wpAny_loadName_free hok.kind hkc hcl ⟨_, X0 _ _ hcell, rfl⟩ ?_
  rw [hslf]
  refine wpAny_loadName_local hok.kind hka hn hmv ?_
  refine PySem.ks_wpAny_isType_cls hD1 hD2 ⟨rfl, ?_⟩
  refine PySem.ks_wpAny_call_super hD1 hD2 ho rfl (fun c z => by cases z) (PySem.W.looks_mroIn X0 S.sub) (fun h' e' k => ?_)
  have I1 : Inv X pins σ H ⟨h', g, d, t, os⟩ := I.kept (t' := t) k
  have X1 := I1.kIn
  obtain ⟨t2, ho1⟩ := exo_at I1.hok hea
  have hI : PySem.W.Looks (model X.prog X.w) h' (isInstance (.ref a) (.type "ValueError")) true := (show PySem.W.InstAt h' a _ C none from ⟨ho1, rfl, rfl, trivial⟩).type.andThen (PySem.W.looks_subIn X1 S.subB)
  refine PySem.W.kxs_getMethod PySem.W.kxs_ValueError e' (PySem.W.looks_opaque X1 S.any) (l₀ := cd.mro) (fun A Q E s k q => wpAny_bind ((PySem.W.looks_clsIn X1 hcd) A _ E s k (wpAny_pure q))) rfl X1 halong hI hac rfl ?_
  have I2 : Inv X ((h'.objs.size, PySem.W.kxs_mw "ValueError.__init__" a) :: pins) σ H ⟨h'.push (PySem.W.kxs_mw "ValueError.__init__" a), g, d, t + 1, os⟩ :=
    ClX.pin_new (t' := t + 1) I1 (fun b u z => Heap.get?_push_of_some _ z) (Nat.le_refl _) (Heap.get?_push_size _ rfl) (fun v z => by cases z)
  rw [hst]
  refine PySem.W.kxs_callWith (i := "ValueError.__init__") (x := a) (by show (false || (backTo pos (starEach es X.env)).any (·.1)) = false; rw [hpl]; rfl) ?_
  refine PySem.Calls.evalArgs_plain ?_
  have hrun := ha.run pos _ _ σ H _ I2 h
  rw [hst] at hrun
  refine thn hrun fun us s1 ⟨vs1, H1, I3, r1, hlen, hea3, q⟩ => ⟨ClX.pin_at I3, ?_⟩
  obtain ⟨t3, ho3⟩ := exo_at I3.hok hea3
  obtain ⟨nm, q', N', bs, bm, sn, sub, ab, col, dd, k0, k1, k2, k3, k5, hC, hbm⟩ := S.T.cls
  have hlen2 : us.length ≤ sizeLine := by
    rw [← Paired.length r1, sizeLine_eq]
    omega
  obtain ⟨hh3, g3, d3, t4, os3⟩ := s1
  refine mw_call (I3.kIn _ _ hC) ho3 (ClX.pin_at I3) hlen2 fun h4 t5 k4 e4 => ?_
  have J := (ClX.unpin I3).write (t' := t4) (x := a) (e := a) (o := exo a C none) (by rw [hea3]; exact True.intro) (.inl rfl) k4 ⟨_, e4⟩ (exo_ok e4)
  have eu : upd H1 a (exo a C none) = H1 := by
    funext b
    by_cases hb : b = a
    · rw [hb, upd_same, hea3]
    · rw [upd_ne hb]
  rw [eu] at J
  exact ⟨σ, H1, J, q⟩
end
/-! ### a method that says super(): its body runs where its class's cell is read -/
structure SupScope (N ps : List Str) (sc : Scope) : Prop where
  kind : sc.kind = .function
  co : sc.isCoroutine = false
  gen : sc.isGenerator = false
  nd : N.Nodup
  pre : N.take ps.length = ps
  par : ∀ x ∈ ps, sc.names.lookup x = some .local
  nocell : ∀ y ∈ sc.names, y.2 ≠ .cell
  only : ∀ y ∈ sc.names, y.2 = .free → y.1 = "__class__"
def cxS (CX : CXT) (P : Program) (w : World) (K : PySem.W.Frag) (mg : Str → Option Value) (base : Heap) (N : List Str) (qual : Str) (scope : Scope) (f : Addr) (cd : Value) (cc : Addr) (A : Around) (outer : List Env) (s : Shared) (H : Hp) (E : XK) : Cx where
  prog := P
  w := w
  K := K
  mg := mg
  base := base
  A := A.deeper (PySem.W.ksEnv qual scope s.heap.objs.size f cd cc)
  N := N
  s_0 := s
  H_0 := H
  env := PySem.W.ksEnv qual scope s.heap.objs.size f cd cc
  outer := outer
  stack := PySem.W.ksEnv qual scope s.heap.objs.size f cd cc :: outer
  ex := []
  calm := true
  fn := fun _ => false
  pn := []
  xe := fun e s' => wpAny (model P w) (A.deeper (PySem.W.ksEnv qual scope s.heap.objs.size f cd cc)) (leaving (PySem.W.ksEnv qual scope s.heap.objs.size f cd cc) e) (fun _ s'' => CX outer H s E e s'') (fun e' s'' => CX outer H s E e' s'') s'
theorem zip_sub : ∀ (ps : List Str) (us : List Value), ((ps.zip us).map (·.1)).Sublist ps
  | [], us => by simp
  | p :: ps, [] => by simp
  | p :: ps, u :: us => by
    show (p :: (ps.zip us).map (·.1)).Sublist (p :: ps)
    exact (zip_sub ps us).cons₂ p
theorem zip_get : ∀ {ps : List Str} {us : List Value} {i : Nat} {x : Str} {u : Value}, ps.Nodup → ps[i]? = some x → us[i]? = some u → (ps.zip us).reverse.lookup x = some u := by
  intro ps us i x u nd hp hu
  have hm : (x, u) ∈ (ps.zip us).reverse := by
    rw [List.mem_reverse]
    have : (ps.zip us)[i]? = some (x, u) := by
      rw [List.getElem?_zip_eq_some]
      exact ⟨hp, hu⟩
    exact List.mem_of_getElem? this
  have nd' : ((ps.zip us).reverse.map (·.1)).Nodup := by
    rw [List.map_reverse]
    refine (List.reverse_perm _).nodup_iff.mpr ?_
    exact nd.sublist (zip_sub ps us)
  clear hp hu nd
  generalize (ps.zip us).reverse = l at hm nd'
  induction l with
  | nil => cases hm
  | cons p l ih =>
    obtain ⟨y, v⟩ := p
    rw [List.map_cons, List.nodup_cons] at nd'
    rcases List.mem_cons.mp hm with e | e
    · cases e
      simp [List.lookup]
    · have hne : ¬ x = y := fun z => nd'.1 (z ▸ List.mem_map.mpr ⟨(x, u), e, rfl⟩)
      have : (x == y) = false := by simpa using hne
      simp only [List.lookup, this]
      exact ih e nd'.2
theorem inv_startS {CX : CXT} {P : Program} {w : World} {K : PySem.W.Frag} {mg : Str → Option Value} {base : Heap} {N ps : List Str} {qual : Str} {scope : Scope} {f cc D : Addr} {cd cl : Value} {cld : Option Addr} {csl : Array (Option Value)} {A : Around} {outer : List Env} {s : Shared} {h₀ : Heap} {H : Hp} {E : XK} {us : List Value} {vs : List V} {tk : Nat}
    (S : SupScope N ps scope) (hcell : K.lookup cc = some ⟨cl, cld, .cell (some (.ref D)), csl⟩) (hd : A.handled = none) (e0 : Env0 P w K mg base A outer s H) (hl : vs.length = ps.length) (r : Vals vs us)
    (hns : h₀.Ns s.heap.objs.size (fun x => (ps.zip us).reverse.lookup x)) (hk : ∀ b o, s.heap.get? b = some o → h₀.get? b = some o) :
    Inv (cxS CX P w K mg base N qual scope f cd cc A outer s H E) [] (L2.start N vs) H { s with heap := h₀, toks := tk } := by
  have hpl : ps.length ≤ N.length := by have := congrArg List.length S.pre; rw [List.length_take] at this; omega
  have noA : ∀ b : Addr, b ∉ (cxS CX P w K mg base N qual scope f cd cc A outer s H E).ex := fun b z => absurd (show b ∈ ([] : List Addr) from z) (by simp)
  have one : ∀ {y : Str} {c : Addr}, (cxS CX P w K mg base N qual scope f cd cc A outer s H E).env.cells.lookup y = some c → y = "__class__" ∧ c = cc := fun {y c} z => by
    have z : ([("__class__", cc)] : List (Str × Addr)).lookup y = some c := z
    by_cases q : y = "__class__"
    · subst q
      simp [List.lookup] at z
      exact ⟨rfl, z.symm⟩
    · have : (y == ("__class__" : Str)) = false := by simpa using q
      simp [List.lookup, this] at z
  have hcb := e0.mod.kin _ _ hcell
  refine ⟨⟨e0.mod, S.kind, rfl, rfl, Nat.le_refl _, fun y z c h1 h2 => ?_, fun y hy => ?_, fun y c z _ => (by cases z), fun _ => hd, Around.frames_deeper e0.frames, .inr ⟨rfl, rfl⟩, fun b z => absurd z (noA b), e0.bs, e0.bsz, fun b _ _ => noA b, fun b z => absurd z (noA b), e0.funs, e0.frf⟩,
    rfl, e0.bare, Un.kept hk, ⟨_, hns, fun i y v h1 h2 h3 => ?_⟩, fun y c h => ?_, e0.hok.fresh (Nat.le_refl _), fun y c h => ?_, fun p hp => absurd (show p ∈ ([] : List (Addr × Obj)) from hp) (by simp), e0.hok.kept hk, ?_⟩
  · rw [(one h1).1, (one h2).1]
  · have hy : scope.names.lookup y = some .cell ∨ scope.names.lookup y = some .free := hy
    rcases hy with hy | hy
    · exact absurd rfl (S.nocell _ (PySem.mem_of_lookup hy))
    · have := S.only _ (PySem.mem_of_lookup hy) rfl
      have this : y = "__class__" := this
      subst this
      exact ⟨cc, by show ([("__class__", cc)] : List (Str × Addr)).lookup ("__class__" : Str) = some cc; simp [List.lookup]⟩
  · have hi : i < vs.length := by
      unfold L2.start at h2
      by_cases hi : i < vs.length
      · exact hi
      · rw [List.getElem?_append_right (by simpa using hi)] at h2
        rw [List.getElem?_replicate] at h2
        split at h2 <;> cases h2
    have ha : vs[i]? = some v := by
      unfold L2.start at h2
      rw [List.getElem?_append_left (by simpa using hi), List.getElem?_map] at h2
      cases e : vs[i]? with
      | none => rw [e] at h2; cases h2
      | some a => rw [e] at h2; cases h2; rfl
    obtain ⟨u, hu, rv⟩ := r.get ha
    have hp : ps[i]? = some y := by
      rw [← S.pre, List.getElem?_take_of_lt (by omega)]; exact h1
    have ndP : ps.Nodup := by rw [← S.pre]; exact S.nd.sublist (List.take_sublist _ _)
    exact ⟨u, rv, .inl ⟨S.par y (List.mem_of_getElem? hp), zip_get ndP hp hu⟩⟩
  · rw [(one h).2]
    exact ⟨_, _, hk _ _ (e0.bs _ _ hcb).1, rfl⟩
  · rw [(one h).2]
    exact (e0.bs _ _ hcb).2
  · unfold L2.start
    show _ = N.length
    rw [List.length_append, List.length_map, List.length_replicate]
    omega
theorem fn_ofS {CX : CXT} {P : Program} {w : World} {K : PySem.W.Frag} {mg : Str → Option Value} {base : Heap} {k : Nat} {f cc D : Addr} {name qual : Str} {params : Arguments} {body : List Stmt} {scope : Scope} {dV kV doc pm cdv ct oc cl : Value} {an od cld : Option Addr}
    {osl csl : Array (Option Value)} {N ps : List Str} {sp : Sp} (lk : K.lookup f = some ⟨oc, od, .func (PySem.W.ksFn name qual params body scope dV kV doc pm an cdv ct cc), osl⟩) (hcd : PySem.W.codeIn K cdv qual = true) (hcell : K.lookup cc = some ⟨cl, cld, .cell (some (.ref D)), csl⟩) (S : SupScope N ps scope)
    (len : ∀ vs H Q E, sp vs H Q E → vs.length = ps.length)
    (hbody : ∀ (A : Around) (outer : List Env) (s s1 : Shared) (H : Hp) (vs : List V) (Q : VK) (E : XK), sp vs H Q E → Inv (cxS CX P w K mg base N qual scope f cdv cc A outer s H E) [] (L2.start N vs) H s1 →
      PySem.wpAt (model P w) (cxS CX P w K mg base N qual scope f cdv cc A outer s H E).A (.func body (cxS CX P w K mg base N qual scope f cdv cc A outer s H E).env) (execs body (cxS CX P w K mg base N qual scope f cdv cc A outer s H E).env)
        (SP (cxS CX P w K mg base N qual scope f cdv cc A outer s H E) [] { nx := fun _ H' => Q .non H', rt := Q }) (cxS CX P w K mg base N qual scope f cdv cc A outer s H E).xe s1) :
    FnOk P w K mg base CX (k + 1) f (PySem.W.ksFn name qual params body scope dV kV doc pm an cdv ct cc) ps sp := by
  refine ⟨len, fun A outer s H args us vs Q E hr e0 hb r hsp => ?_⟩
  have hl := len _ _ _ _ hsp
  have KX : K.In s.heap := e0.mod.kin.keeps fun b o e => (e0.bs b o e).1
  have lim : s.heap.NoLimit := e0.mod.nolimit.keeps fun b o e => (e0.bs b o e).1
  refine PySem.ks_codeAny_call_defAt (fd := PySem.W.ksFn name qual params body scope dV kV doc pm an cdv ct cc) (body := body) (binds := ps.zip us) hr.depth (KX _ _ lk) rfl lim (PySem.W.codeRec_of KX hcd) rfl hb S.nocell (fun y hy => S.par _ (List.of_mem_zip hy).1) (fun h₀ hns hk => ?_) S.co S.gen S.kind
  have I : Inv (cxS CX P w K mg base N qual scope f cdv cc A outer s H E) [] (L2.start N vs) H { s with heap := h₀, toks := s.toks + (ps.zip us).length } := inv_startS S hcell hr.hd e0 hl r hns hk
  refine PySem.ks_wpAt_mono (hbody A outer s _ H vs Q E hsp I) (fun fl s' hs => ?_) fun e s' hs => hs
  have fin : ∀ {σ' : L2.St} {H' : Hp} {v : V} {u : Value}, Inv (cxS CX P w K mg base N qual scope f cdv cc A outer s H E) [] σ' H' s' → RelV v u → Q v H' → CE outer P w H s Q u s' :=
    fun {σ' H' v u} J rv q => ⟨v, H', J.os, J.bare, J.base, J.hok, rv, q⟩
  cases fl with
  | ret u =>
    obtain ⟨v, σ', H', J, rv, q⟩ := hs
    exact fin J rv q
  | next =>
    obtain ⟨σ', H', J, q⟩ := hs
    exact fin (v := V.non) (u := Value.none) J rfl q
  | brk =>
    obtain ⟨_, _, _, q⟩ := hs
    exact False.elim q
  | cont =>
    obtain ⟨_, _, _, q⟩ := hs
    exact False.elim q
end DL

set_option Elab.async false
set_option maxRecDepth 100000
set_option maxHeartbeats 1000000
namespace DL
open PySem PySem.Spec PyProof.Rows L2
/-! ### {x}: None or a number -/
def tFmtN (te : TE) : TE := fun σ H Q => te σ H fun x H1 => (x = .non ∧ Q (.str "None") H1) ∨ ∃ i : Int, x = .int i ∧ i.natAbs.log2 < 1920 ∧ Q (.str (toString i)) H1
theorem pe_fmtN {X : Cx} {e : Expr} {te : TE} {pos : Pos} (he : PE X e te) : PE X (.FormattedValue e (-1) none pos) (tFmtN te) := by
  refine ⟨fun pins s σ H Q I h => ?_⟩
  refine wpAny_FormattedValue_plain (thn (he.run pins s σ H _ I h) fun v s1 hv => ?_)
  obtain ⟨x, H1, I1, r1, q⟩ := hv
  rcases q with ⟨rfl, q⟩ | ⟨i, rfl, hz, q⟩
  · obtain rfl : v = Value.none := r1
    exact wpAny_formatField_none ⟨.str "None", H1, I1.tok _, ⟨_, rfl⟩, q⟩
  · obtain ⟨t, rfl⟩ := r1
    exact wpAny_formatField_int hz ⟨.str (toString i), H1, I1.tok _, ⟨_, rfl⟩, q⟩
/-- a def of a class with super() in it -/
structure FunS (K : PySem.W.Frag) (x qual : Str) (st : Stmt) (f cda cc : Addr) (fd : FuncData) : Prop where
  ex : ∃ (oc : Value) (od an : Option Addr) (kV doc pm ct : Value) (osl : Array (Option Value)), fd = PySem.W.ksFn x qual (defArgs st) (defBody st) (defScope st) .none kV doc pm an (.ref cda) ct cc ∧ K.lookup f = some ⟨oc, od, .func fd, osl⟩ ∧ PySem.W.codeIn K (.ref cda) qual = true
theorem small_log {i : Int} (h0 : 0 ≤ i) (h1 : i ≤ 1000) : i.natAbs.log2 < 1920 := by
  have : i.natAbs < 2 ^ 1920 := Nat.lt_of_le_of_lt (show i.natAbs ≤ 1000 by omega) (by decide +kernel)
  by_cases z : i.natAbs = 0
  · rw [z]; decide
  · exact (Nat.log2_lt z).mpr this
end DL

set_option Elab.async false
set_option maxRecDepth 100000
set_option maxHeartbeats 1000000
namespace DL
open PySem L2
/-! ### the checks with what they raise -/
/-- an own error without its own making -/
structure ErrT (K : PySem.W.Frag) (mg : Str → Option Value) (x : Str) (CB : Addr) : Prop where
  g : mg x = some (.ref CB)
  x : PySem.W.excIn K CB [.type "ValueError", .type "Exception", .type "BaseException", .type "object"] "ValueError.__new__" = true
  k : PySem.W.keepIn K (.ref CB) = true
  b : PySem.W.subIn K (.ref CB) (.type "BaseException") = some true
  t : PySem.W.typeIn K (.ref CB) = some (.type "type")
/-- what is_bar says False of -/
def NoBar (K : PySem.W.Frag) (H : Hp) (n : Int) (v : V) : Prop := (∃ t : Value, TyX K H v t ∧ PySem.W.kitOne K t (.type "tuple") = some false) ∨
  (∃ (a : Addr) (xs : List V), v = .ref a ∧ SqT K H a xs ∧ xs.length ≠ 4) ∨
  ∃ (a : Addr) (x0 x1 x2 x3 : V), v = .ref a ∧ SqT K H a [x0, x1, x2, x3] ∧ scV x0 = true ∧ scV x1 = true ∧ scV x2 = true ∧ scV x3 = true ∧ barB n x0 x1 x2 x3 = false
theorem NoBar.sp {K : PySem.W.Frag} {H : Hp} {n : Int} {v : V} {Q : VK} {E : XK} (h : NoBar K H n v) (k : Q (.bl false) H) : spIsBar K [.int n, v] H Q E := by
  rcases h with ⟨t, h1, h2⟩ | ⟨a, xs, rfl, h1, h2⟩ | ⟨a, x0, x1, x2, x3, rfl, h1, c0, c1, c2, c3, h2⟩
  · exact ⟨⟨n, .inl ⟨v, t, rfl, h1, h2, k⟩⟩⟩
  · exact ⟨⟨n, .inr (.inl ⟨a, xs, rfl, h1, h2, k⟩)⟩⟩
  · exact ⟨⟨n, .inr (.inr ⟨a, x0, x1, x2, x3, rfl, h1, c0, c1, c2, c3, by rw [h2]; exact k⟩)⟩⟩
end DL

set_option Elab.async false
set_option maxRecDepth 100000
namespace DL
open PySem L2
/-! ### drawing: the row of draws stands at r, the script at sc -/
def But (r : Addr) (H H' : Hp) : Prop := ∀ b o, b ≠ r → H b = some o → H' b = some o
theorem But.refl (r : Addr) (H : Hp) : But r H H := fun _ _ _ h => h
theorem But.trans {r : Addr} {H H1 H2 : Hp} (a : But r H H1) (b : But r H1 H2) : But r H H2 := fun c o hc h => b c o hc (a c o hc h)
theorem sbut {r : Addr} {H H' : Hp} (s : Same H H') : But r H H' := fun c o _ h => s c o h
theorem but_upd {r : Addr} {H : Hp} {o : HO} : But r H (upd H r o) := fun c u hc h => by rw [upd_ne hc]; exact h
theorem But.seq {K : PySem.W.Frag} {r : Addr} {H H' : Hp} {a : Addr} {xs : List V} (s : But r H H') (ha : a ≠ r) (h : SqL K H a xs) : SqL K H' a xs := by
  rcases h with (h | ⟨o, h⟩) | h
  · exact .inl (.inl (s _ _ ha h))
  · exact .inl (.inr ⟨o, s _ _ ha h⟩)
  · exact .inr h
theorem But.tup {r : Addr} {H H' : Hp} {a : Addr} {xs : List V} {ys : List V} (s : But r H H') (hr : H r = some (.lst ys)) (h : H a = some (.tup xs)) : H' a = some (.tup xs) :=
  s _ _ (ne_of h hr (by intro z; cases z)) h
structure RowOk (H : Hp) (r sc : Addr) : Prop where
  h : ∃ i m e : Int, H r = some (.lst [.ref sc, .int i, .int m, .int e]) ∧ 0 ≤ i ∧ 0 ≤ m ∧ m < 2147483647 ∧ 0 ≤ e
theorem RowOk.same {H H' : Hp} {r sc : Addr} (R : RowOk H r sc) (s : Same H H') : RowOk H' r sc := by
  obtain ⟨i, m, e, h, q⟩ := R.h
  exact ⟨⟨i, m, e, s _ _ h, q⟩⟩
theorem But.seqR {K : PySem.W.Frag} {r sc : Addr} {H H' : Hp} {a : Addr} {ns : List Int} (s : But r H H') (R : RowOk H r sc) (h : SqL K H a (ns.map V.int)) : SqL K H' a (ns.map V.int) := by
  obtain ⟨i, m, e, hR, _⟩ := R.h
  have nd : ∀ u : HO, H a = some u → u ≠ .lst [.ref sc, .int i, .int m, .int e] → a ≠ r := fun u hu hn z => by
    rw [z, hR] at hu
    exact hn (Option.some.inj hu).symm
  rcases h with (h | ⟨o, h⟩) | h
  · refine .inl (.inl (s _ _ (nd _ h fun z => ?_) h))
    injection z with z
    cases ns with
    | nil => cases z
    | cons n ns => injection z with z _; cases z
  · exact .inl (.inr ⟨o, s _ _ (nd _ h fun z => by cases z) h⟩)
  · exact .inr h
structure spTaken (K : PySem.W.Frag) (vs : List V) (H : Hp) (Q : VK) (_ : XK) : Prop where
  h : ∃ (r sc : Addr) (ns : List Int) (many : Int), vs = [.ref r, .int many] ∧ RowOk H r sc ∧ SqL K H sc (ns.map V.int) ∧ 1 ≤ many ∧ many ≤ 1000 ∧
    ∀ (v : Int) (H' : Hp), 0 ≤ v → v < many → RowOk H' r sc → But r H H' → Q (.int v) H'
section
variable {P : Program} {w : World} {K : PySem.W.Frag} {mg : Str → Option Value} {base : Heap}
theorem scTaken : FnScope ["_law_row", "_law_many", "_law_found", "_law_cell"] ["_law_row", "_law_many"] (defScope sTaken) := ⟨rfl, rfl, rfl, by decide +kernel, rfl, by decide +kernel, by decide +kernel⟩
theorem ok_taken {f : Addr} {fd : FuncData} (F : Fun K "_law_taken" "_law_taken" sTaken f fd) (T : Bt mg) : FnOk P w K mg base CX0 1 f fd ["_law_row", "_law_many"] (spTaken K) := by
  refine F.ok scTaken (fun vs H Q E h => ?_) (fun cdv A outer s H vs Q E hr h => ?_)
  · obtain ⟨r, sc, ns, many, rfl, _⟩ := h.h
    rfl
  · obtain ⟨r, sc, ns, many, rfl, R, S, h1, h2, k⟩ := h.h
    obtain ⟨i, m, e, hR, hi, hm0, hm, he⟩ := R.h
    have dv : CDivW e many := wide_div (b := 10) (by omega) (by omega) (by decide) (by decide)
    refine ⟨_, pss_cons (ps_if (pt_cmpR op_gt (pe_ix ix_list (pv 0) pe_int (fun _ _ => rfl)) pe_int (nomark _))
        (pss_cons (ps_set (i := 2) scTaken.nd rfl (.inl rfl) (pe_op op_mod (pe_callTy call_int1 (by rfl) T.int (by decide +kernel) (pa_cons (pe_ix ix_list (pv 0) pe_int (fun _ _ => rfl)) pa_nil)) (pv 1)))
        (pss_cons (ps_asg (pe_op op_fdivW (pe_ix ix_list (pv 0) pe_int (fun _ _ => rfl)) (pv 1)) (pg_sub (pv 0) pe_int set_list))
        (pss_one (ps_ret (pv 2))))) pss_nil)
      (pss_cons (ps_asg (pe_op op_add (pe_ix ix_list (pv 0) pe_int (fun _ _ => rfl)) pe_int) (pg_sub (pv 0) pe_int set_list))
      (pss_cons (ps_if (pt_cmpR op_gt (pe_ix ix_list (pv 0) pe_int (fun _ _ => rfl)) (pe_callB call_len_seq (by rfl) T.len PySem.boot_len (pa_cons (pe_ix ix_list (pv 0) pe_int (fun _ _ => rfl)) pa_nil)) (nomark _))
        (pss_cons (ps_asg (pe_op op_mod (pe_callTy call_int1 (by rfl) T.int (by decide +kernel) (pa_cons (pe_op op_add (pe_op op_mul (pe_ix ix_list (pv 0) pe_int (fun _ _ => rfl)) pe_int) pe_int) pa_nil)) pe_int) (pg_sub (pv 0) pe_int set_list))
        (pss_one (ps_ret (pe_op op_mod (pe_callTy call_int1 (by rfl) T.int (by decide +kernel) (pa_cons (pe_op op_fdiv (pe_ix ix_list (pv 0) pe_int (fun _ _ => rfl)) pe_int) pa_nil)) (pv 1))))) pss_nil)
      (pss_cons (ps_set (i := 3) scTaken.nd rfl (.inl rfl) (pe_ix ix_list (pe_ix ix_list (pv 0) pe_int (fun _ _ => rfl)) (pe_op op_sub (pe_ix ix_list (pv 0) pe_int (fun _ _ => rfl)) pe_int) (fun _ _ => rfl)))
      (pss_cons (ps_asg (pe_op op_mod (pe_callTy call_int1 (by rfl) T.int (by decide +kernel) (pa_cons (pe_op op_add (pe_op op_add (pe_op op_mul (pe_ix ix_list (pv 0) pe_int (fun _ _ => rfl)) pe_int) (pv 3)) pe_int) pa_nil)) pe_int) (pg_sub (pv 0) pe_int set_list))
      (pss_cons (ps_if (pt_cmpR op_ge (pv 3) (pe_op op_pow pe_int pe_int) (nomark _)) (pss_one (ps_asg (pe_op op_fdivW (pv 3) (pv 1)) (pg_sub (pv 0) pe_int set_list))) pss_nil)
      (pss_one (ps_ret (pe_op op_mod (pe_callTy call_int1 (by rfl) T.int (by decide +kernel) (pa_cons (pv 3) pa_nil)) (pv 1))))))))), ?_⟩
    refine ⟨_, rfl, r, _, _, .int e, rfl, rfl, SqL.of hR, rfl, _, _, rfl, rfl, _, rfl, ?_⟩
    refine ite2 (fun z => ?_) (fun _ => ?_)
    · refine ⟨_, rfl, r, _, _, .int e, rfl, rfl, SqL.of hR, rfl, .inl ⟨_, rfl, _, rfl, _, _, rfl, rfl, (by omega), ?_⟩⟩
      refine ⟨_, rfl, r, _, _, .int e, rfl, rfl, SqL.of hR, rfl, _, rfl, _, _, rfl, rfl, dv, ?_⟩
      refine ⟨_, rfl, r, _, _, 3, rfl, rfl, hR, rfl, _, rfl, ?_⟩
      exact k _ _ (Int.emod_nonneg _ (by omega)) (Int.emod_lt_of_pos _ (by omega)) ⟨⟨i, m, e / many, upd_same, hi, hm0, hm, Int.ediv_nonneg he (by omega)⟩⟩ but_upd
    · refine ⟨_, rfl, r, _, _, .int i, rfl, rfl, SqL.of hR, rfl, _, _, rfl, rfl, ?_⟩
      refine ⟨_, rfl, r, _, _, 1, rfl, rfl, hR, rfl, ?_⟩
      have S1 : SqL K (upd H r (.lst [.ref sc, .int (i + 1), .int m, .int e])) sc (ns.map V.int) := but_upd.seqR R S
      refine ⟨_, rfl, r, _, _, .int (i + 1), rfl, rfl, SqL.of upd_same, rfl, ?_⟩
      refine ⟨_, rfl, r, _, _, .ref sc, rfl, rfl, SqL.of upd_same, rfl, sc, _, rfl, .inl S1, _, _, rfl, rfl, _, rfl, ?_⟩
      refine ite2 (fun z => ?_) (fun z => ?_)
      · refine ⟨_, rfl, r, _, _, .int m, rfl, rfl, SqL.of upd_same, rfl, _, _, rfl, rfl, .inl ⟨by omega, by omega⟩, _, _, rfl, rfl, .inl ⟨_, rfl, _, _, rfl, rfl, (by show (0 : Int) < 2147483647; decide), ?_⟩⟩
        refine ⟨_, rfl, r, _, _, 2, rfl, rfl, upd_same, rfl, ?_⟩
        refine ⟨_, rfl, r, _, _, .int ((m * 48271 + 11) % 2147483647), rfl, rfl, SqL.of upd_same, rfl, _, _, rfl, rfl, ⟨by decide, by decide⟩, .inl ⟨_, rfl, _, rfl, _, _, rfl, rfl, (by omega), ?_⟩⟩
        refine k _ _ (Int.emod_nonneg _ (by omega)) (Int.emod_lt_of_pos _ (by omega)) ⟨⟨i + 1, (m * 48271 + 11) % 2147483647, e, upd_same, by omega, Int.emod_nonneg _ (by decide), Int.emod_lt_of_pos _ (by decide), he⟩⟩ (but_upd.trans but_upd)
      · have hlt : i < ns.length := by
          have := of_decide_eq_false (by simpa using z : decide ((ns.map V.int).length < i + 1) = false)
          rw [List.length_map] at this
          omega
        have hc : ∃ c, ns[i.toNat]? = some c := ⟨ns[i.toNat]'(by omega), List.getElem?_eq_getElem (by omega)⟩
        obtain ⟨c, hc⟩ := hc
        have hat : atI (ns.map V.int) ((i + 1) - 1) = some (.int c) := by
          have e1 : (i + 1) - 1 = ((i.toNat : Nat) : Int) := by omega
          rw [e1]
          exact atI_nat (by rw [List.getElem?_map, hc]; rfl)
        refine ⟨_, rfl, r, _, _, .ref sc, rfl, rfl, SqL.of upd_same, rfl, _, rfl, r, _, _, .int (i + 1), rfl, rfl, SqL.of upd_same, rfl, _, _, rfl, rfl, sc, _, _, .int c, rfl, rfl, S1, hat, ?_⟩
        refine ⟨_, rfl, r, _, _, .int m, rfl, rfl, SqL.of upd_same, rfl, _, _, rfl, rfl, .inl ⟨by omega, by omega⟩, _, rfl, _, _, rfl, rfl, _, _, rfl, rfl, .inl ⟨_, rfl, _, _, rfl, rfl, (by show (0 : Int) < 2147483647; decide), ?_⟩⟩
        refine ⟨_, rfl, r, _, _, 2, rfl, rfl, upd_same, rfl, ?_⟩
        refine ⟨_, rfl, _, _, rfl, rfl, ⟨by decide, by decide, by decide⟩, _, _, rfl, rfl, _, rfl, ?_⟩
        have m1 := Int.emod_nonneg (m * 48271 + c + 11) (show (2147483647 : Int) ≠ 0 by decide)
        have m2 := Int.emod_lt_of_pos (m * 48271 + c + 11) (show (0 : Int) < 2147483647 by decide)
        have v1 := Int.emod_nonneg c (show many ≠ 0 by omega)
        have v2 := Int.emod_lt_of_pos c (show 0 < many by omega)
        refine ite2 (fun z => ?_) (fun _ => ?_)
        · have hc0 : (10 : Int) ^ (18 : Int).toNat ≤ c := of_decide_eq_true z
          have hc1 : 0 ≤ c := by
            have : (0 : Int) ≤ (10 : Int) ^ (18 : Int).toNat := by decide
            omega
          refine ⟨_, rfl, _, rfl, _, _, rfl, rfl, wide_div (b := 10) (by omega) (by omega) (by decide) (by decide), ?_⟩
          refine ⟨_, rfl, r, _, _, 3, rfl, rfl, upd_same, rfl, ?_⟩
          refine ⟨_, rfl, .inl ⟨_, rfl, _, rfl, _, _, rfl, rfl, (by omega), ?_⟩⟩
          exact k _ _ v1 v2 ⟨⟨i + 1, _, c / many, upd_same, by omega, m1, m2, Int.ediv_nonneg hc1 (by omega)⟩⟩ ((but_upd.trans but_upd).trans but_upd)
        · refine ⟨_, rfl, .inl ⟨_, rfl, _, rfl, _, _, rfl, rfl, (by omega), ?_⟩⟩
          exact k _ _ v1 v2 ⟨⟨i + 1, _, e, upd_same, by omega, m1, m2, he⟩⟩ (but_upd.trans but_upd)
end
end DL

set_option Elab.async false
set_option maxRecDepth 100000
namespace DL
open PySem L2
theorem keys_put {kvs : List (List Key × V)} {bs : List Bar} {b : Bar} (v : V) (h : kvs.map (·.1) = bs.map Bar.key) (hn : bs.Nodup) :
    ∃ bs' : List Bar, (putK kvs b.key v).map (·.1) = bs'.map Bar.key ∧ bs'.Nodup ∧ (∀ x ∈ bs', x = b ∨ x ∈ bs) ∧ bs'.length ≤ bs.length + 1 := by
  unfold putK
  by_cases e : (kvs.any fun kv => decide (kv.1 = b.key)) = true
  · rw [if_pos e]
    refine ⟨bs, ?_, hn, fun x hx => .inr hx, Nat.le_succ _⟩
    rw [← h, List.map_map]
    refine List.map_congr_left fun kv _ => ?_
    show (if kv.1 = b.key then (kv.1, v) else kv).1 = kv.1
    by_cases q : kv.1 = b.key
    · rw [if_pos q]
    · rw [if_neg q]
  · rw [if_neg e]
    have hnot : b ∉ bs := fun hm => e (by
      rw [List.any_eq_true]
      have : b.key ∈ kvs.map (·.1) := by rw [h]; exact List.mem_map.mpr ⟨b, hm, rfl⟩
      obtain ⟨kv, hkv, q⟩ := List.mem_map.mp this
      exact ⟨kv, hkv, decide_eq_true q⟩)
    refine ⟨bs ++ [b], by rw [List.map_append, List.map_append, h]; rfl, ?_, fun x hx => ?_, by simp⟩
    · rw [List.nodup_append]
      refine ⟨hn, List.nodup_cons.mpr ⟨by simp, List.nodup_nil⟩, fun x hx y hy => ?_⟩
      rw [List.mem_singleton.mp hy]
      exact fun q => hnot (q ▸ hx)
    · rcases List.mem_append.mp hx with hx | hx
      · exact .inr hx
      · exact .inl (List.mem_singleton.mp hx)
theorem asc_of {n : Int} (hn : n ≤ 7) {xs bs : List Bar} (hp : xs.Perm bs) (hs : xs.Pairwise fun x y => x.code ≤ y.code) (hd : bs.Nodup) (ho : ∀ b ∈ bs, b.ok n) : OkBars n xs := by
  have hx : ∀ b ∈ xs, b.ok n := fun b hb => ho b (hp.mem_iff.mp hb)
  refine ⟨hx, ?_⟩
  have hd' : xs.Nodup := hp.nodup_iff.mpr hd
  have := hs.and hd'
  refine List.Pairwise.imp_of_mem (fun {a b} ha hb q => ?_) this
  obtain ⟨q1, q2⟩ := q
  rcases Int.lt_or_eq_of_le q1 with z | z
  · exact z
  · exact absurd (Bar.code_inj ((hx a ha).low hn) ((hx b hb).low hn) z) q2
structure spParts (K : PySem.W.Frag) (vs : List V) (H : Hp) (Q : VK) (_ : XK) : Prop where
  h : ∃ (r sc : Addr) (ns : List Int) (most : Int), vs = [.ref r, .int most] ∧ RowOk H r sc ∧ SqL K H sc (ns.map V.int) ∧ 1 ≤ most ∧ most ≤ 7 ∧
    ∀ (p t : Addr) (n : Int) (ks : List (Addr × Bar)) (H' : Hp), H p = none → H t = none → 1 ≤ n → n ≤ most → H' p = some (.lst [.int n, .ref t]) → BarsAt H' t ks → OkBars n (ks.map (·.2)) → ks.length ≤ 13 → RowOk H' r sc → But r H H' → Q (.ref p) H'
theorem three_at {v : Int} (h0 : 0 ≤ v) (h3 : v < 3) : ∃ c : Int, atI [V.int 3, V.int 6, V.int 14] v = some (.int c) ∧ 1 ≤ c ∧ c ≤ 14 := by
  have : v = 0 ∨ v = 1 ∨ v = 2 := by omega
  rcases this with rfl | rfl | rfl
  · exact ⟨3, rfl, by decide, by decide⟩
  · exact ⟨6, rfl, by decide, by decide⟩
  · exact ⟨14, rfl, by decide, by decide⟩
theorem two_at {v : Int} (h0 : 0 ≤ v) (h3 : v < 2) : ∃ c : Bool, atI [V.str "open", V.str "shut"] v = some (.str (wd c)) := by
  have : v = 0 ∨ v = 1 := by omega
  rcases this with rfl | rfl
  · exact ⟨false, rfl⟩
  · exact ⟨true, rfl⟩
section
variable {P : Program} {w : World} {K : PySem.W.Frag} {mg : Str → Option Value} {base : Heap}
theorem scParts : FnScope ["_law_row", "_law_most", "_law_many", "_law_found", "_law_k", "_law_drawer", "_law_other", "_law_way", "_law_stand"] ["_law_row", "_law_most"] (defScope sParts) := ⟨rfl, rfl, rfl, by decide +kernel, rfl, by decide +kernel, by decide +kernel⟩
theorem ok_parts {f f1 : Addr} {fd fd1 : FuncData} (F : Fun K "_law_parts" "_law_parts" sParts f fd) (T : Bt mg) (G : FnOk P w K mg base CX0 1 f1 fd1 ["_law_row", "_law_many"] (spTaken K)) (g1 : mg "_law_taken" = some (.ref f1)) (k1 : PySem.W.keepIn K (.ref f1) = true) (b1 : Binds K fd1 ["_law_row", "_law_many"] []) :
    FnOk P w K mg base CX0 2 f fd ["_law_row", "_law_most"] (spParts K) := by
  refine F.ok scParts (fun vs H Q E h => ?_) (fun cdv A outer s H vs Q E hr h => ?_)
  · obtain ⟨r, sc, ns, most, rfl, _⟩ := h.h
    rfl
  · obtain ⟨r, sc, ns, most, rfl, R, S, h1, h7, k⟩ := h.h
    have hu := hu_of hr
    obtain ⟨i0, m0, e0, hR0, _⟩ := id R.h
    refine ⟨_, pss_cons (ps_par (i := 2) (j := 3) (by rfl) scParts.nd rfl rfl (by decide) rfl rfl (pa_cons (pe_op op_add pe_int (pe_call G (hr.mono (by decide)) rfl g1 k1 b1 .nil pass0 (pa_cons (pv 0) (pa_cons (pv 1) pa_nil)))) (pa_cons pe_dnewT pa_nil)) (by rfl))
      (pss_cons (ps_for PassesOwn.never rfl (pi_range1 (by rfl) T.range (pa_cons (pe_call G (hr.mono (by decide)) rfl g1 k1 b1 .nil pass0 (pa_cons (pv 0) (pa_cons (pe_ix ix_list (pe_lst (pa_cons pe_int (pa_cons pe_int (pa_cons pe_int pa_nil)))) (pe_call G (hr.mono (by decide)) rfl g1 k1 b1 .nil pass0 (pa_cons (pv 0) (pa_cons pe_int pa_nil))) (fun _ _ => rfl)) pa_nil))) pa_nil)) (pg_name (i := 4) scParts.nd rfl (.inl rfl))
        (pss_cons (ps_par (i := 5) (j := 6) (by rfl) scParts.nd rfl rfl (by decide) rfl rfl (pa_cons (pe_call G (hr.mono (by decide)) rfl g1 k1 b1 .nil pass0 (pa_cons (pv 0) (pa_cons (pv 2) pa_nil))) (pa_cons (pe_call G (hr.mono (by decide)) rfl g1 k1 b1 .nil pass0 (pa_cons (pv 0) (pa_cons (pv 2) pa_nil))) pa_nil)) (by rfl))
        (pss_one (ps_if (pt_cmpR op_ne (pv 5) (pv 6) (nomark _))
          (pss_cons (ps_par (i := 7) (j := 8) (by rfl) scParts.nd rfl rfl (by decide) rfl rfl (pa_cons (pe_ix ix_list (pe_lst (pa_cons pe_str (pa_cons pe_str pa_nil))) (pe_op op_fdiv (pe_call G (hr.mono (by decide)) rfl g1 k1 b1 .nil pass0 (pa_cons (pv 0) (pa_cons pe_int pa_nil))) pe_int) (fun _ _ => rfl))
            (pa_cons (pe_ix ix_list (pe_lst (pa_cons pe_str (pa_cons pe_str pa_nil))) (pe_call G (hr.mono (by decide)) rfl g1 k1 b1 .nil pass0 (pa_cons (pv 0) (pa_cons pe_int pa_nil))) (fun _ _ => rfl)) pa_nil)) (by rfl))
          (pss_one (ps_dput hu (pv 3) (pe_tup (pa_cons (pv 5) (pa_cons (pv 7) (pa_cons (pv 6) (pa_cons (pv 8) pa_nil))))) pe_bl rfl))) pss_nil))))
      (pss_one (ps_ret (pe_lst (pa_cons (pv 2) (pa_cons (pe_callTy call_tuple_of (by rfl) T.tuple (by decide +kernel) (pa_cons (pe_callB (cr_sortB (by rfl)) (by rfl) T.sorted (by decide +kernel) (pa_cons (pv 3) pa_nil)) pa_nil)) pa_nil)))))), ?_⟩
    -- many, found
    refine ⟨_, rfl, _, rfl, ⟨⟨r, sc, ns, most, rfl, R, S, h1, by omega, fun v H1 v0 v1 R1 B1 => ?_⟩⟩⟩
    refine ⟨_, _, rfl, rfl, fun d hd => ⟨_, _, rfl, ?_⟩⟩
    obtain ⟨i1, m1, e1, hR1, _⟩ := id R1.h
    have ndr : d ≠ r := (ne_of_none hR1 hd).symm
    have hd0 : H d = none := by
      cases q : H d with
      | none => rfl
      | some o =>
        rw [B1 d o ndr q] at hd
        cases hd
    have R2 : RowOk (upd H1 d (.dT [])) r sc := R1.same (same_upd hd)
    have B2 : But r H (upd H1 d (.dT [])) := B1.trans (sbut (same_upd hd))
    -- range(..)
    refine ⟨_, rfl, (by show 3 ≤ sizeLine; decide), fun l hl => ?_⟩
    have nlr : l ≠ r := by
      obtain ⟨_, _, _, q, _⟩ := id R2.h
      exact (ne_of_none q hl).symm
    have R3 := R2.same (same_upd (o := .lst [V.int 3, V.int 6, V.int 14]) hl)
    have B3 : But r H _ := B2.trans (sbut (same_upd (o := .lst [V.int 3, V.int 6, V.int 14]) hl))
    refine ⟨_, rfl, ⟨⟨r, sc, ns, 3, rfl, R3, B3.seqR R S, by decide, by decide, fun v2 H3 w0 w1 R4 B4 => ?_⟩⟩⟩
    obtain ⟨c, hc, c1, c14⟩ := three_at w0 w1
    refine ⟨l, _, v2, .int c, rfl, rfl, SqL.of (B4 _ _ nlr upd_same), hc, ?_⟩
    have B5 : But r H H3 := B3.trans B4
    refine ⟨⟨r, sc, ns, c, rfl, R4, B5.seqR R S, c1, by omega, fun v3 H4 x0 x1 R5 B6 => ?_⟩⟩
    refine ⟨v3, rfl, by omega, by omega, ?_⟩
    have B7 : But r H H4 := B5.trans B6
    have hd4 : H4 d = some (.dT []) := B6 _ _ ndr (B4 _ _ ndr (by rw [upd_ne (ne_of_none (upd_same (H := H1) (a := d)) hl)]; exact upd_same))
    refine for_range (lo := 0) (n := v3.toNat) (fun i σ H5 => ∃ (kvs : List (List Key × V)) (bs : List Bar) (u4 u5 u6 u7 u8 : Option V), σ = [some (.ref r), some (.int most), some (.int (1 + v)), some (.ref d), u4, u5, u6, u7, u8] ∧ H5 d = some (.dT kvs) ∧ kvs.map (·.1) = bs.map Bar.key ∧ bs.Nodup ∧ (∀ b ∈ bs, b.ok (1 + v)) ∧ bs.length ≤ i ∧ RowOk H5 r sc ∧ But r H H5)
      ⟨[], [], _, _, _, _, _, rfl, hd4, rfl, List.nodup_nil, fun b hb => by simp at hb, Nat.le_refl _, R5, B7⟩ ?_ ?_
    · rintro i σ H5 hi ⟨kvs, bs, u4, u5, u6, u7, u8, rfl, hD, hk, hnd, hok, hlen, R6, B8⟩
      refine ⟨_, rfl, _, rfl, ⟨⟨r, sc, ns, 1 + v, rfl, R6, B8.seqR R S, by omega, by omega, fun a H6 a0 a1 R7 B9 => ?_⟩⟩⟩
      refine ⟨_, rfl, _, rfl, ⟨⟨r, sc, ns, 1 + v, rfl, R7, (B8.trans B9).seqR R S, by omega, by omega, fun o H7 o0 o1 R8 B10 => ?_⟩⟩⟩
      have hD7 : H7 d = some (.dT kvs) := B10 _ _ ndr (B9 _ _ ndr hD)
      have B11 : But r H H7 := (B8.trans B9).trans B10
      refine ⟨_, _, rfl, _, rfl, _, rfl, rfl, _, rfl, ?_⟩
      refine ite2 (fun z => ?_) (fun _ => ?_)
      · have hao : a ≠ o := fun q => by subst q; simp at z
        refine ⟨(by show 2 ≤ sizeLine; decide), fun l1 hl1 => ?_⟩
        have R9 := R8.same (same_upd (o := .lst [V.str "open", V.str "shut"]) hl1)
        have nl1 : l1 ≠ r := by
          obtain ⟨_, _, _, q, _⟩ := id R8.h
          exact (ne_of_none q hl1).symm
        refine ⟨_, rfl, ⟨⟨r, sc, ns, 3, rfl, R9, (B11.trans (sbut (same_upd hl1))).seqR R S, by decide, by decide, fun y H8 y0 y1 R10 B12 => ?_⟩⟩⟩
        obtain ⟨cw, hcw⟩ := two_at (v := y / 2) (by omega) (by omega)
        refine ⟨_, _, rfl, rfl, ⟨by decide, by decide⟩, l1, _, _, _, rfl, rfl, SqL.of (B12 _ _ nl1 upd_same), hcw, ?_⟩
        refine ⟨(by show 2 ≤ sizeLine; decide), fun l2 hl2 => ?_⟩
        have R11 := R10.same (same_upd (o := .lst [V.str "open", V.str "shut"]) hl2)
        have nl2 : l2 ≠ r := by
          obtain ⟨_, _, _, q, _⟩ := id R10.h
          exact (ne_of_none q hl2).symm
        have B13 : But r H7 (upd H8 l2 (.lst [V.str "open", V.str "shut"])) := ((sbut (same_upd hl1)).trans B12).trans (sbut (same_upd hl2))
        refine ⟨_, rfl, ⟨⟨r, sc, ns, 2, rfl, R11, (B11.trans B13).seqR R S, by decide, by decide, fun y2 H9 z0 z1 R12 B14 => ?_⟩⟩⟩
        obtain ⟨ct, hct⟩ := two_at z0 z1
        refine ⟨l2, _, _, _, rfl, rfl, SqL.of (B14 _ _ nl2 upd_same), hct, ?_⟩
        have B15 : But r H7 H9 := B13.trans B14
        have hD9 : H9 d = some (.dT kvs) := B15 _ _ ndr hD7
        refine ⟨_, _, rfl, _, rfl, _, rfl, _, rfl, _, rfl, _, rfl, (by show 4 ≤ sizeLine; decide), fun q hq => ?_⟩
        have hlen2 : kvs.length = bs.length := by
          have := congrArg List.length hk
          rw [List.length_map, List.length_map] at this
          exact this
        refine ⟨d, _, rfl, DPut.t (k := (⟨a, cw, o, ct⟩ : Bar).key) (by rw [upd_ne (ne_of_none hD9 hq)]; exact hD9) upd_same (by rw [hlen2]; exact small1000 (by omega)), ?_⟩
        obtain ⟨bs', g1', g2', g3', g4'⟩ := keys_put (b := ⟨a, cw, o, ct⟩) (.bl true) hk hnd
        have nqr : q ≠ r := by
          obtain ⟨_, _, _, q', _⟩ := id R12.h
          exact (ne_of_none q' hq).symm
        refine ⟨_, bs', _, _, _, _, _, rfl, upd_same, g1', g2', fun b hb => ?_, by omega, ?_, ?_⟩
        · rcases g3' b hb with rfl | hb
          · exact ⟨a0, a1, o0, o1, hao⟩
          · exact hok b hb
        · obtain ⟨i', m', e', q1, q2⟩ := (R12.same (same_upd (o := .tup (⟨a, cw, o, ct⟩ : Bar).vs) hq)).h
          exact ⟨⟨i', m', e', by rw [upd_ne (Ne.symm ndr)]; exact q1, q2⟩⟩
        · refine fun c u hc hH => ?_
          have hcd : c ≠ d := fun z' => by rw [z', hd0] at hH; cases hH
          rw [upd_ne hcd]
          exact same_upd hq _ _ (B15 _ _ hc (B11 _ _ hc hH))
      · exact ⟨kvs, bs, _, _, _, _, _, rfl, hD7, hk, hnd, hok, by omega, R8, B11⟩
    · rintro σ H5 ⟨kvs, bs, u4, u5, u6, u7, u8, rfl, hD, hk, hnd, hok, hlen, R6, B8⟩
      refine ⟨_, rfl, _, rfl, d, kvs, bs, rfl, .inl hD, hk, fun b hb => (hok b hb).low (by omega), fun ks p g1' g2' g3' hp => ?_⟩
      refine ⟨p, _, rfl, .inl ⟨SqL.of upd_same, fun t ht => ?_⟩⟩
      refine ⟨(by show 2 ≤ sizeLine; decide), fun q hq => ?_⟩
      have sp : Same H5 (upd H5 p (.lst (ks.map fun k => V.ref k.1))) := same_upd hp
      have st : Same H5 (upd (upd H5 p (.lst (ks.map fun k => V.ref k.1))) t (.tup (ks.map fun k => V.ref k.1))) := sp.trans (same_upd ht)
      have sq : Same H5 _ := st.trans (same_upd (o := .lst [.int (1 + v), .ref t]) hq)
      obtain ⟨i', m', e', qR, _⟩ := id R6.h
      have nfree : ∀ {c : Addr}, H5 c = none → H c = none := fun {c} hc => by
        cases q' : H c with
        | none => rfl
        | some o =>
          have ncr : c ≠ r := fun z => by rw [z, qR] at hc; cases hc
          rw [B8 c o ncr q'] at hc
          cases hc
      refine k q t (1 + v) ks _ (nfree (st.free hq)) (nfree (sp.free ht)) (by omega) (by omega) upd_same ⟨by rw [upd_ne (ne_of_none upd_same hq)]; exact upd_same, fun kk hkk => sq _ _ (g1' kk hkk)⟩
        (asc_of (by omega) g2' g3' hnd hok) ?_ (R6.same sq) (B8.trans (sbut sq))
      have := g2'.length_eq
      rw [List.length_map] at this
      omega
/-! ### the cabinet of a draw -/
structure spMade (C : Addr) (vs : List V) (H : Hp) (Q : VK) (_ : XK) : Prop where
  h : ∃ (p t : Addr) (n : Int) (ks : List (Addr × Bar)) (zs : List V), vs = [.ref p] ∧ H p = some (.lst (.int n :: .ref t :: zs)) ∧ 1 ≤ n ∧ n ≤ 7 ∧ BarsAt H t ks ∧ OkBars n (ks.map (·.2)) ∧
    ∀ (c : Addr) (H' : Hp), H c = none → CabAt C H' c n t → Same H H' → Q (.ref c) H'
theorem scMade : FnScope ["_law_d"] ["_law_d"] (defScope sMade) := ⟨rfl, rfl, rfl, by decide +kernel, rfl, by decide +kernel, by decide +kernel⟩
theorem ok_made {f fI C : Addr} {fd fdI : FuncData} (F : Fun K "_law_made" "_law_made" sMade f fd) (T : CabT K mg C) (M : Mk K C fI) (G : FnOk P w K mg base CX0 5 fI fdI ["self", "drawers", "bars"] (spInit C)) (bI : Binds K fdI ["self", "drawers", "bars"] []) :
    FnOk P w K mg base CX0 7 f fd ["_law_d"] (spMade C) := by
  refine F.ok scMade (fun vs H Q E h => ?_) (fun cdv A outer s H vs Q E hr h => ?_)
  · obtain ⟨p, t, n, ks, zs, rfl, _⟩ := h.h
    rfl
  · obtain ⟨p, t, n, ks, zs, rfl, hp, h1, h7, B, O, k⟩ := h.h
    refine ⟨_, pss_one (ps_ret (pe_make M G hr rfl T.mgC bI .nil pass0 (pa_cons (pe_ix ix_list (pv 0) pe_int (fun _ _ => rfl)) (pa_cons (pe_ix ix_list (pv 0) pe_int (fun _ _ => rfl)) pa_nil)))), ?_⟩
    refine ⟨_, rfl, p, _, 0, .int n, rfl, rfl, SqL.of hp, atI_nat (j := 0) rfl, _, rfl, p, _, 1, .ref t, rfl, rfl, SqL.of hp, atI_nat (j := 1) rfl, ?_⟩
    intro x dx nx ndx nex
    have s0 : Same H (upd (upd H dx (.own x)) x (.ins C dx [])) := fun b o e => by
      rw [upd_ne (ne_of_none e nx), upd_ne (ne_of_none e ndx)]
      exact e
    refine ⟨⟨x, dx, n, t, ks, rfl, upd_same, h1, h7, B.same s0, O, fun H' hx kp => ⟨rfl, ?_⟩⟩⟩
    exact k x H' nx ⟨dx, hx⟩ fun b o e => kp b o (ne_of_none e nx) (s0 b o e)
end
end DL

set_option Elab.async false
set_option maxRecDepth 100000
namespace DL
open PySem L2
/-! ### rules with the written part named, for blocks within blocks -/
theorem boot_all_ : bootBuiltins ("all" : Str) = some (.builtin "all") := by decide +kernel
end DL

set_option Elab.async false
set_option maxRecDepth 100000
namespace DL
open PySem L2 HT TL
/-! ### standings: a truth value a drawer (true: open) -/
def sg (b : Bool) : Nat := if b = true then 111 else 115
def sstr (st : List Bool) : Str := ⟨(st.map sg).toArray⟩
def sat (st : List Bool) (i : Int) : Bool := st.getD i.toNat false
def sgn (b : Bool) : Str := if b = true then "s" else "o"
/-- whether the bar stands against the pull -/
def hind (b : Bar) (st : List Bool) (d : Int) : Bool := decide (b.d = d) && ((sat st d == b.w) && (sat st b.o == b.t))
def goesB (bs : List Bar) (st : List Bool) (d : Int) : Bool := !(bs.any fun b => hind b st d)
def flip (st : List Bool) (d : Int) : List Bool := st.set d.toNat (!sat st d)
theorem flip_len (st : List Bool) (d : Int) : (flip st d).length = st.length := by unfold flip; rw [List.length_set]
def drs (n : Nat) : List Int := (List.range n).map fun (i : Nat) => (i : Int)
def freeL (bs : List Bar) (st : List Bool) : List Int := (drs st.length).filter fun d => goesB bs st d
/-- the table of signs -/
structure SgT (K : PySem.W.Frag) (w : World) (mg : Str → Option Value) (aS : Addr) : Prop where
  g : mg "SIGNS" = some (.ref aS)
  o : KDct K w aS "open" (.str "o")
  s : KDct K w aS "shut" (.str "s")
theorem SgT.at {K : PySem.W.Frag} {w : World} {mg : Str → Option Value} {aS : Addr} (T : SgT K w mg aS) (b : Bool) : KDct K w aS (wd b) (.str (sgn b)) := by
  cases b
  · exact T.o
  · exact T.s
end DL

set_option Elab.async false
set_option maxRecDepth 100000
namespace DL
open PySem L2 HT TL
theorem new_at {H : Hp} {a : Addr} {o : HO} (h : H a = none) : Same H (upd H a o) ∧ (upd H a o) a = some o := ⟨same_upd h, upd_same⟩
/-! ### comprehensions that pick, in one word -/
theorem take_pick {α : Type} (p : α → Bool) (v : α → V) {l : List α} {i : Nat} {z : α} (h : l[i]? = some z) :
    ((l.take (i + 1)).filter p).map v = if p z = true then ((l.take i).filter p).map v ++ [v z] else ((l.take i).filter p).map v := by
  obtain ⟨hl, e⟩ := List.getElem?_eq_some_iff.mp h
  rw [List.take_succ_eq_append_getElem hl, List.filter_append, e]
  by_cases q : p z = true
  · rw [if_pos q, List.filter_cons_of_pos q, List.filter_nil, List.map_append]
    rfl
  · rw [if_neg q, List.filter_cons_of_neg q, List.filter_nil, List.append_nil]
theorem lc_pick {α : Type} {J : It} {n : Nat} {G : Hp → Prop} {Y : Nat → Hp → V → Hp → Prop} (wk : Walk J n G Y) (l : List α) (hl : l.length = n) (hn : n ≤ 3000) (p : α → Bool) (v : α → V) {g : TG} {tt : TT} {te : TE} {vs : List Nat} {σ : L2.St} {H1 : Hp} {D : Addr} {Qd : Hp → Prop}
    (hD : H1 D = none) (hG : ∀ H, Same H1 H → G H)
    (hs : ∀ i x z H H' (Tk : V → Hp → Prop) (Nk : Hp → Prop), l[i]? = some z → Same H1 H → Y i H x H' → (∀ H4, p z = true → Same H H4 → Tk (v z) H4) → (∀ H4, p z = false → Same H H4 → Nk H4) →
      g x (wipe σ vs) H' fun σ2 H2 => wipe σ2 vs = wipe σ vs ∧ tt σ2 H2 fun b H3 => if b = true then te σ2 H3 Tk else Nk H3)
    (hd : ∀ H, Same H1 H → H D = some (.lst ((l.filter p).map v)) → Qd H) :
    ∃ W : Nat → Nat → Hp → Prop, (∃ m, W 0 m (upd H1 D (.lst []))) ∧ ∀ i m H, W i m H →
      (J.stop i H ∧ Qd H) ∨ (J.go i H ∧ ∃ Nx : Hp → Prop, (∀ H', Nx H' → ∃ m', m' < m ∧ W (i + 1) m' H') ∧ ∀ x H', J.yld i H x H' → g x (wipe σ vs) H' fun σ2 H2 => wipe σ2 vs = wipe σ vs ∧ tt σ2 H2 fun b H3 =>
        if b = true then te σ2 H3 fun y H4 => ∃ acc, H4 D = some (.lst acc) ∧ acc.length < sizeLine ∧ Nx (upd H4 D (.lst (acc ++ [y]))) else Nx H3) := by
  refine lc_it wk (fun i H' => Same H1 H' ∧ H' D = some (.lst (((l.take i).filter p).map v))) ⟨same_upd hD, upd_same⟩ (fun i H' _ q => hG H' q.1) ?_ ?_
  · rintro i x H H' hi ⟨s1, hD1⟩ y
    have hi' : i < l.length := by omega
    have ez : l[i]? = some l[i] := List.getElem?_eq_getElem hi'
    refine hs i x l[i] H H' _ _ ez s1 y (fun H4 hp s4 => ?_) (fun H4 hp s4 => ?_)
    · refine ⟨_, s4 _ _ hD1, ?_, fun b o e => ?_, ?_⟩
      · rw [List.length_map]
        have h1 := List.length_filter_le p (l.take i)
        rw [List.length_take] at h1
        have h2 : (3000 : Nat) < sizeLine := by decide
        omega
      · rw [upd_ne (ne_of_none e hD)]
        exact s4 _ _ (s1 b o e)
      · rw [upd_same, take_pick p v ez, if_pos hp]
    · refine ⟨s1.trans s4, ?_⟩
      rw [take_pick p v ez, if_neg (by rw [hp]; exact Bool.false_ne_true)]
      exact s4 _ _ hD1
  · rintro H ⟨s1, hD1⟩
    rw [← hl, List.take_length] at hD1
    exact hd H s1 hD1
/-! ### walks over the bars of a tuple -/
end DL

set_option Elab.async false
set_option maxRecDepth 100000
namespace DL
open PySem L2 HT TL
structure CabOk (C : Addr) (H : Hp) (c : Addr) (n : Int) (bs : List Bar) : Prop where
  h : ∃ (t : Addr) (ks : List (Addr × Bar)), CabAt C H c n t ∧ BarsAt H t ks ∧ ks.map (·.2) = bs ∧ OkBars n bs ∧ 1 ≤ n ∧ n ≤ 7 ∧ bs.length ≤ 100
theorem tYes_of {σ : L2.St} {H : Hp} {Q : Bool → Hp → Prop} (h : Q true H) : tYes σ H Q := h
theorem CabOk.same {C : Addr} {H H' : Hp} {c : Addr} {n : Int} {bs : List Bar} (B : CabOk C H c n bs) (s : Same H H') : CabOk C H' c n bs := by
  obtain ⟨t, ks, ⟨dx, h1⟩, h2, h3⟩ := B.h
  exact ⟨⟨t, ks, ⟨dx, s _ _ h1⟩, h2.same s, h3⟩⟩
structure spGetD (C : Addr) (vs : List V) (H : Hp) (Q : VK) (_ : XK) : Prop where
  h : ∃ (c dx : Addr) (n : Int) (t : Addr), vs = [.ref c] ∧ H c = some (.ins C dx (cfl n t)) ∧ Q (.int n) H
structure spGetB (C : Addr) (vs : List V) (H : Hp) (Q : VK) (_ : XK) : Prop where
  h : ∃ (c dx : Addr) (n : Int) (t : Addr), vs = [.ref c] ∧ H c = some (.ins C dx (cfl n t)) ∧ Q (.ref t) H
/-- the two properties of the class -/
structure CabP (P : Program) (w : World) (K : PySem.W.Frag) (mg : Str → Option Value) (base : Heap) (C : Addr) : Prop where
  cl : Cls K C
  d : ∃ p g fd, PropOf K C "drawers" p g ∧ FnOk P w K mg base CX0 1 g fd ["self"] (spGetD C) ∧ Binds K fd ["self"] []
  b : ∃ p g fd, PropOf K C "bars" p g ∧ FnOk P w K mg base CX0 1 g fd ["self"] (spGetB C) ∧ Binds K fd ["self"] []
section
variable {P : Program} {w : World} {K : PySem.W.Frag} {mg : Str → Option Value} {base : Heap}
theorem scDrawers : FnScope ["self"] ["self"] (defScope sDrawers) := ⟨rfl, rfl, rfl, by decide +kernel, rfl, by decide +kernel, by decide +kernel⟩
theorem ok_getD {f C : Addr} {fd : FuncData} (F : Fun K "drawers" "Cabinet.drawers" sDrawers f fd) (T : CabT K mg C) : FnOk P w K mg base CX0 1 f fd ["self"] (spGetD C) := by
  refine F.ok scDrawers (fun vs H Q E h => ?_) (fun cdv A outer s H vs Q E hr h => ?_)
  · obtain ⟨c, dx, n, t, rfl, _⟩ := h.h
    rfl
  · obtain ⟨c, dx, n, t, rfl, hc, k⟩ := h.h
    exact ⟨_, pss_one (ps_ret (pe_fld (pv 0) rfl)), ⟨_, rfl, c, C, dx, _, _, rfl, hc, T.cl, T.nD, cfl_d n t, k⟩⟩
theorem scBars : FnScope ["self"] ["self"] (defScope sBars) := ⟨rfl, rfl, rfl, by decide +kernel, rfl, by decide +kernel, by decide +kernel⟩
theorem ok_getB {f C : Addr} {fd : FuncData} (F : Fun K "bars" "Cabinet.bars" sBars f fd) (T : CabT K mg C) : FnOk P w K mg base CX0 1 f fd ["self"] (spGetB C) := by
  refine F.ok scBars (fun vs H Q E h => ?_) (fun cdv A outer s H vs Q E hr h => ?_)
  · obtain ⟨c, dx, n, t, rfl, _⟩ := h.h
    rfl
  · obtain ⟨c, dx, n, t, rfl, hc, k⟩ := h.h
    exact ⟨_, pss_one (ps_ret (pe_fld (pv 0) rfl)), ⟨_, rfl, c, C, dx, _, _, rfl, hc, T.cl, T.nB, cfl_b n t, k⟩⟩
end
end DL

set_option Elab.async false
set_option maxRecDepth 100000
namespace DL
open PySem L2 HT TL
/-- a drawn cabinet's parts: the list at p -/
structure DrOk (H : Hp) (p : Addr) (n : Int) (bs : List Bar) : Prop where
  h : ∃ (t : Addr) (ks : List (Addr × Bar)) (zs : List V), H p = some (.lst (.int n :: .ref t :: zs)) ∧ BarsAt H t ks ∧ ks.map (·.2) = bs ∧ OkBars n bs ∧ 1 ≤ n ∧ n ≤ 7 ∧ bs.length ≤ 100
theorem DrOk.same {H H' : Hp} {p : Addr} {n : Int} {bs : List Bar} (B : DrOk H p n bs) (s : Same H H') : DrOk H' p n bs := by
  obtain ⟨t, ks, zs, h1, h2, h3⟩ := B.h
  exact ⟨⟨t, ks, zs, s _ _ h1, h2.same s, h3⟩⟩
end DL

set_option Elab.async false
set_option maxRecDepth 100000

set_option Elab.async false
set_option maxRecDepth 100000
namespace DL
open PySem L2 HT TL
/-! ### plain data: what == sees -/
/-- data of so many levels at most, whose texts are texts -/
def dok (k : Nat) (d : PyData) : Prop := d.canLay0 = true ∧ d.depth ≤ k
theorem dok_shaped {k : Nat} {d : PyData} (h : dok k d) (hk : k ≤ 64) : SeqAt.shaped d = true := by
  unfold SeqAt.shaped
  rw [h.1, decide_eq_true (Nat.le_trans h.2 hk)]
  rfl
theorem dok_all {k : Nat} : ∀ {ds : List PyData}, (∀ d ∈ ds, dok k d) → PyData.canLayAll0 ds = true ∧ PyData.depthAll ds ≤ k
  | [], _ => ⟨by simp [PyData.canLayAll0], by simp [PyData.depthAll]⟩
  | d :: ds, h => by
    obtain ⟨h1, h2⟩ := dok_all (ds := ds) fun e he => h e (List.mem_cons_of_mem _ he)
    obtain ⟨h3, h4⟩ := h d List.mem_cons_self
    refine ⟨by simp [PyData.canLayAll0, h1, h3], ?_⟩
    simp only [PyData.depthAll]
    omega
theorem dok_list {k : Nat} {ds : List PyData} (h : ∀ d ∈ ds, dok k d) : dok (k + 1) (.list ds) := by
  obtain ⟨h1, h2⟩ := dok_all h
  exact ⟨by simpa [PyData.canLay0] using h1, by simp only [PyData.depth]; omega⟩
theorem dok_int (i : Int) : dok 1 (.int i) := ⟨by simp [PyData.canLay0], by simp [PyData.depth]⟩
theorem dpAll_ints {K : PySem.W.Frag} {H : Hp} : ∀ l : List Int, DpAll K H (l.map V.int) (l.map PyData.int)
  | [] => .nil
  | i :: l => .cons (.int i) (dpAll_ints l)
end DL
namespace DL
open PySem L2 HT TL
theorem dok_str {z : Str} (h : PyData.strOk z = true) : dok 1 (.str z) := ⟨by simpa [PyData.canLay0] using h, by simp [PyData.depth]⟩
theorem dok_ints (l : List Int) : ∀ d ∈ l.map PyData.int, dok 1 d := fun d hd => by
  obtain ⟨i, _, rfl⟩ := List.mem_map.mp hd
  exact dok_int i
theorem eqv_self {k : Nat} {d : PyData} (h : dok k d) : PyData.eqv d d = true := SeqAt.eqv_refl d h.1
end DL

set_option Elab.async false
set_option maxRecDepth 100000
namespace DL
open PySem L2 HT TL
/-! ### the checks -/
/-- isinstance of a cabinet -/
structure CabI (K : PySem.W.Frag) (mg : Str → Option Value) (C : Addr) : Prop where
  cl : Cls K C
  mgC : mg "Cabinet" = some (.ref C)
  ha : PySem.W.findIn K (.ref C) "__class__" = some (some (.builtin "object.__class__"))
  hn : PySem.W.specialIn K (.builtin "object.__class__") "__get__" = some (some (.builtin "getset_descriptor.__get__"))
  htk : PySem.W.takesIn K (.builtin "object.__class__") = some true
  hm : PySem.W.mroIn K C (.type "object") = some true
  kk : PySem.W.kitOne K (.ref C) (.ref C) = some true
section
variable {P : Program} {w : World} {K : PySem.W.Frag} {mg : Str → Option Value} {base : Heap}
abbrev nHS : List Str := ["drawers", "value", "signs", "sign"]
theorem scHS : FnScope nHS ["drawers", "value", "signs"] (defScope s_has_signs) := ⟨rfl, rfl, rfl, by decide +kernel, rfl, by decide +kernel, by decide +kernel⟩
end
end DL

set_option Elab.async false
set_option maxRecDepth 100000
set_option maxHeartbeats 1000000

set_option Elab.async false
set_option maxRecDepth 100000
namespace DL
open PySem L2
/-! ### what the top tells of own errors -/
/-- which clause takes an error of the class at S: the clause names the class at T -/
theorem exm_of {K : PySem.W.Frag} {S T : Addr} {r : Bool} (h1 : PySem.W.subIn K (.ref T) (.type "BaseException") = some true) (h2 : PySem.W.isClsIn K T = true) (h3 : PySem.W.typeIn K (.ref T) = some (.type "type")) (h4 : PySem.W.subIn K (.ref S) (.ref T) = some r) :
    PySem.W.exmOne K (.ref S) (.ref T) = some r := by
  have e1 : (PySem.W.subIn K (.ref T) (.type "BaseException") == some true) = true := by rw [h1] <;> rfl
  have e2 : ((PySem.W.clsIn K T).isSome && PySem.W.typeIn K (.ref T) == some (.type "type")) = true := by
    have h2' : (PySem.W.clsIn K T).isSome = true := h2
    rw [h2', h3] <;> rfl
  show (if (PySem.W.subIn K (.ref T) (.type "BaseException") == some true) = true then (if ((PySem.W.clsIn K T).isSome && PySem.W.typeIn K (.ref T) == some (.type "type")) = true then PySem.W.subIn K (.ref S) (.ref T) else none) else none) = some r
  rw [if_pos e1, if_pos e2]
  exact h4
theorem drop_self (C : Addr) (bm : List Value) : ((Value.ref C :: bm).dropWhile (· != Value.ref C)).drop 1 = bm := by
  have : (Value.ref C != Value.ref C) = false := by
    have e : (Value.ref C == Value.ref C) = true := by simp
    simp [bne, e]
  rw [List.dropWhile_cons, this]
  rfl
theorem mro_is {K : PySem.W.Frag} {nm q : Str} {C N : Addr} {bs bm : List Value} {hdct : Bool} {sn : List Str} {sub : List Value} {ab : Bool} {col : Option Bool} {dd : Option Addr} {k0 k1 k2 k3 k5 : Option Value} {x : Option (Option Value)}
    (h : K.lookup C = some (excClassObj nm q C N bs bm hdct sn sub ab col dd k0 k1 k2 k3 k5 "ValueError.__new__")) (al : PySem.W.alongIn K "__init__" bm = x) :
    ∃ cd, PySem.W.clsIn K C = some cd ∧ PySem.W.alongIn K "__init__" ((cd.mro.dropWhile (· != .ref C)).drop 1) = x := by
  refine ⟨_, by unfold PySem.W.clsIn; rw [h], ?_⟩
  exact (congrArg _ (drop_self C bm)).trans al
theorem bindsS {K : PySem.W.Frag} {fd : FuncData} {ps : List Str} (h : ∀ us : List Value, us.length = ps.length → bindArgs fd ⟨us, []⟩ = pure (ps.zip us)) : Binds K fd ps [] := .all h
end DL

set_option Elab.async false
set_option maxRecDepth 100000
set_option maxHeartbeats 1000000
namespace DL
open PySem PySem.Spec PyProof.Rows L2
/-! ### own errors with a field, each by its own __init__ -/
structure spIni (C : Addr) (fld : Str) (good : V → Prop) (vs : List V) (H : Hp) (Q : VK) (_ : XK) : Prop where
  h : ∃ (a : Addr) (x : V), vs = [.ref a, x] ∧ good x ∧ H a = some (exo a C none) ∧ ∀ dx, H dx = none → dx ≠ a → Q .non (upd (upd H dx (exd dx [(fld, x)])) a (exo a C (some dx)))
def goodI (x : V) : Prop := x = .non ∨ ∃ i : Int, x = .int i ∧ 0 ≤ i ∧ i ≤ 100
def goodA (_ : V) : Prop := True
/-- the class, its making -/
structure IniT (P : Program) (w : World) (K : PySem.W.Frag) (mg : Str → Option Value) (base : Heap) (nm fld : Str) (good : V → Prop) (CB : Addr) : Prop where
  T : OexC K CB
  g : mg nm = some (.ref CB)
  i : ∃ fI fd, PySem.W.findIn K (.ref CB) "__init__" = some (some (.ref fI)) ∧ PySem.W.typeIn K (.ref fI) = some (.type "function") ∧ FnOk P w K mg base CX0 1 fI fd ["self", fld] (spIni CB fld good) ∧ Binds K fd ["self", fld] []
def exIni (CB : Addr) (fld : Str) (x : V) (H : Hp) (E : XK) : Prop := ∀ (d : Addr) (H' : Hp), H d = none → Same H H' → H' d = some (.xd [(fld, x)]) → E (.ref CB) (some d) H'
theorem ini_mk {CB a : Addr} {fld : Str} {good : V → Prop} {x : V} {H1 : Hp} {E : XK} {E2 : XK} (ha : H1 a = none) (hx : good x) (k : exIni CB fld x H1 E) :
    spIni CB fld good [.ref a, x] (upd H1 a (exo a CB none)) (fun v H2 => v = .non ∧ ∃ (d : Addr) (fs : List (Str × V)), H2 a = some (exo a CB (some d)) ∧ H2 d = some (exd d fs) ∧ H1 d = none ∧ E (.ref CB) (some d) (upd (del H2 a) d (.xd fs))) E2 := by
  refine ⟨⟨a, x, rfl, hx, upd_same, fun dx hdx hda => ?_⟩⟩
  have hd1 : H1 dx = none := by rw [upd_ne hda] at hdx; exact hdx
  refine ⟨rfl, dx, _, upd_same, by rw [upd_ne hda, upd_same], hd1, ?_⟩
  refine k dx _ hd1 (fun b o e => ?_) upd_same
  have hba : b ≠ a := ne_of_none e ha
  have hbd : b ≠ dx := ne_of_none e hd1
  rw [upd_ne hbd, del_ne hba, upd_ne hba, upd_ne hbd, upd_ne hba]
  exact e
theorem msg_len (m : Str) (hm : m.length ≤ 100) {i : Int} (h0 : 0 ≤ i) (h1 : i ≤ 100) : ((Str.empty ++ m) ++ (toString i : Str)).length ≤ sizeLine := by
  have app : ∀ a b : Str, (a ++ b).length = a.length + b.length := fun a b => by
    show (a ++ b).cps.size = a.cps.size + b.cps.size
    rw [← Array.length_toList, ← Array.length_toList, ← Array.length_toList]
    exact (congrArg List.length (TL.tl_append a b)).trans (List.length_append ..)
  have z : ∀ n : Fin 101, ((toString ((n.val : Nat) : Int) : Str)).length ≤ 3 := by decide +kernel
  have := z ⟨i.toNat, by omega⟩
  rw [show ((i.toNat : Nat) : Int) = i by omega] at this
  have e0 : (Str.empty).length = 0 := by decide +kernel
  rw [app, app, e0]
  have : (103 : Nat) < sizeLine := by decide
  omega
section
variable {P : Program} {w : World} {K : PySem.W.Frag} {mg : Str → Option Value} {base : Heap}
theorem scBadSeen : SupScope ["self", "index"] ["self", "index"] (defScope s_BadSeen__init_) := ⟨rfl, rfl, rfl, by decide +kernel, rfl, by decide +kernel, by decide +kernel, by decide +kernel⟩
theorem ok_BadSeenInit {f C cc cda : Addr} {fd : FuncData} (F : FunS K "__init__" "BadSeen.__init__" s_BadSeen__init_ f cda cc fd) (S : SupK K P f C cc cda fd "self") (hm : mg "super" = none) (hi : PySem.W.findIn K (.ref C) "index" = some none) : FnOk P w K mg base CX0 1 f fd ["self", "index"] (spIni C "index" goodI) := by
  obtain ⟨oc, od, an, kV, doc, pm, ct, osl, rfl, lk, hcd⟩ := F.ex
  obtain ⟨cl, cld, csl, hcell⟩ := S.cell
  refine fn_ofS lk hcd hcell scBadSeen (fun vs H Q E h => ?_) (fun A outer s s1 H vs Q E hsp I => ?_)
  · obtain ⟨a, x, rfl, _⟩ := h.h
    rfl
  · obtain ⟨a, x, rfl, hx, hea, q⟩ := hsp.h
    have rest : PSs (cxS CX0 P w K mg base ["self", "index"] "BadSeen.__init__" (defScope s_BadSeen__init_) f (.ref cda) cc A outer s H E) ((defBody s_BadSeen__init_).drop 1) _ := pss_one (ps_ost (pv 0) (pv 1))
    refine PySem.ks_wpAt_execs_cons (PySem.ks_wpAt_mono (sup_run (D := { nx := fun σ' H' => σ' = L2.start ["self", "index"] [.ref a, x] ∧ H' = H, rt := fun _ _ => False }) S rfl rfl rfl rfl rfl rfl rfl hm
      (pa_cons (pe_joined (.cons pe_str (.cons (pe_fmtN (pv 1)) .nil))) pa_nil) I rfl hea ?_) (fun fl s' hs => ?_) fun _ _ z => z)
    · refine ⟨_, rfl, by decide +kernel, _, rfl, ?_⟩
      rcases hx with rfl | ⟨i, rfl, i0, i1⟩
      · exact .inl ⟨rfl, _, rfl, by decide +kernel, by show 1 ≤ 1000; decide, hea, rfl, rfl⟩
      · exact .inr ⟨i, rfl, small_log i0 (by omega), _, rfl, msg_len _ (by decide +kernel) i0 i1, by show 1 ≤ 1000; decide, hea, rfl, rfl⟩
    · cases fl with
      | next =>
        obtain ⟨σ', H', J, rfl, rfl⟩ := hs
        exact PySem.wpAt_of_wpAny (rest.run [] s' _ _ _ J ⟨_, rfl, _, rfl, a, C, rfl, S.T, hi, .inl ⟨hea, fun dx hdx hda => q dx hdx hda⟩⟩)
      | ret u =>
        obtain ⟨_, _, _, _, _, z⟩ := hs
        exact False.elim z
      | brk =>
        obtain ⟨_, _, _, z⟩ := hs
        exact False.elim z
      | cont =>
        obtain ⟨_, _, _, z⟩ := hs
        exact False.elim z
theorem scTooMany : SupScope ["self", "most"] ["self", "most"] (defScope s_TooMany__init_) := ⟨rfl, rfl, rfl, by decide +kernel, rfl, by decide +kernel, by decide +kernel, by decide +kernel⟩
theorem ok_TooManyInit {f C cc cda : Addr} {fd : FuncData} (F : FunS K "__init__" "TooMany.__init__" s_TooMany__init_ f cda cc fd) (S : SupK K P f C cc cda fd "self") (hm : mg "super" = none) (hi : PySem.W.findIn K (.ref C) "most" = some none) : FnOk P w K mg base CX0 1 f fd ["self", "most"] (spIni C "most" goodI) := by
  obtain ⟨oc, od, an, kV, doc, pm, ct, osl, rfl, lk, hcd⟩ := F.ex
  obtain ⟨cl, cld, csl, hcell⟩ := S.cell
  refine fn_ofS lk hcd hcell scTooMany (fun vs H Q E h => ?_) (fun A outer s s1 H vs Q E hsp I => ?_)
  · obtain ⟨a, x, rfl, _⟩ := h.h
    rfl
  · obtain ⟨a, x, rfl, hx, hea, q⟩ := hsp.h
    have rest : PSs (cxS CX0 P w K mg base ["self", "most"] "TooMany.__init__" (defScope s_TooMany__init_) f (.ref cda) cc A outer s H E) ((defBody s_TooMany__init_).drop 1) _ := pss_one (ps_ost (pv 0) (pv 1))
    refine PySem.ks_wpAt_execs_cons (PySem.ks_wpAt_mono (sup_run (D := { nx := fun σ' H' => σ' = L2.start ["self", "most"] [.ref a, x] ∧ H' = H, rt := fun _ _ => False }) S rfl rfl rfl rfl rfl rfl rfl hm
      (pa_cons (pe_joined (.cons pe_str (.cons (pe_fmtN (pv 1)) .nil))) pa_nil) I rfl hea ?_) (fun fl s' hs => ?_) fun _ _ z => z)
    · refine ⟨_, rfl, by decide +kernel, _, rfl, ?_⟩
      rcases hx with rfl | ⟨i, rfl, i0, i1⟩
      · exact .inl ⟨rfl, _, rfl, by decide +kernel, by show 1 ≤ 1000; decide, hea, rfl, rfl⟩
      · exact .inr ⟨i, rfl, small_log i0 (by omega), _, rfl, msg_len _ (by decide +kernel) i0 i1, by show 1 ≤ 1000; decide, hea, rfl, rfl⟩
    · cases fl with
      | next =>
        obtain ⟨σ', H', J, rfl, rfl⟩ := hs
        exact PySem.wpAt_of_wpAny (rest.run [] s' _ _ _ J ⟨_, rfl, _, rfl, a, C, rfl, S.T, hi, .inl ⟨hea, fun dx hdx hda => q dx hdx hda⟩⟩)
      | ret u =>
        obtain ⟨_, _, _, _, _, z⟩ := hs
        exact False.elim z
      | brk =>
        obtain ⟨_, _, _, z⟩ := hs
        exact False.elim z
      | cont =>
        obtain ⟨_, _, _, z⟩ := hs
        exact False.elim z
theorem scBadNumber : SupScope ["self", "n"] ["self", "n"] (defScope s_BadNumber__init_) := ⟨rfl, rfl, rfl, by decide +kernel, rfl, by decide +kernel, by decide +kernel, by decide +kernel⟩
theorem ok_BadNumberInit {f C cc cda : Addr} {fd : FuncData} (F : FunS K "__init__" "BadNumber.__init__" s_BadNumber__init_ f cda cc fd) (S : SupK K P f C cc cda fd "self") (hm : mg "super" = none) (hi : PySem.W.findIn K (.ref C) "n" = some none) : FnOk P w K mg base CX0 1 f fd ["self", "n"] (spIni C "n" goodA) := by
  obtain ⟨oc, od, an, kV, doc, pm, ct, osl, rfl, lk, hcd⟩ := F.ex
  obtain ⟨cl, cld, csl, hcell⟩ := S.cell
  refine fn_ofS lk hcd hcell scBadNumber (fun vs H Q E h => ?_) (fun A outer s s1 H vs Q E hsp I => ?_)
  · obtain ⟨a, x, rfl, _⟩ := h.h
    rfl
  · obtain ⟨a, x, rfl, hx, hea, q⟩ := hsp.h
    have rest : PSs (cxS CX0 P w K mg base ["self", "n"] "BadNumber.__init__" (defScope s_BadNumber__init_) f (.ref cda) cc A outer s H E) ((defBody s_BadNumber__init_).drop 1) _ := pss_one (ps_ost (pv 0) (pv 1))
    refine PySem.ks_wpAt_execs_cons (PySem.ks_wpAt_mono (sup_run (D := { nx := fun σ' H' => σ' = L2.start ["self", "n"] [.ref a, x] ∧ H' = H, rt := fun _ _ => False }) S rfl rfl rfl rfl rfl rfl rfl hm
      (pa_cons pe_str pa_nil) I rfl hea ?_) (fun fl s' hs => ?_) fun _ _ z => z)
    · exact ⟨by show 1 ≤ 1000; decide, hea, rfl, rfl⟩
    · cases fl with
      | next =>
        obtain ⟨σ', H', J, rfl, rfl⟩ := hs
        exact PySem.wpAt_of_wpAny (rest.run [] s' _ _ _ J ⟨_, rfl, _, rfl, a, C, rfl, S.T, hi, .inl ⟨hea, fun dx hdx hda => q dx hdx hda⟩⟩)
      | ret u =>
        obtain ⟨_, _, _, _, _, z⟩ := hs
        exact False.elim z
      | brk =>
        obtain ⟨_, _, _, z⟩ := hs
        exact False.elim z
      | cont =>
        obtain ⟨_, _, _, z⟩ := hs
        exact False.elim z
end
end DL

set_option Elab.async false
set_option maxRecDepth 100000
namespace DL
open PySem PySem.Spec PyProof.Rows L2
/-! ### text * number -/
theorem op_mul_str {X : Cx} : OpR X (binaryOp .Mult) (fun x y H Q => ∃ (z : Str) (n : Int), x = .str z ∧ y = .int n ∧ MulOk z n ∧ Q (.str (Txt.mul z n)) H) := by
  intro pins s σ H x y v u Q I rx ry h
  obtain ⟨z, n, rfl, rfl, ok, q⟩ := h
  obtain ⟨t, rfl⟩ := rx
  obtain ⟨t', rfl⟩ := ry
  exact SB.mul ok fun t2 k => ⟨.str _, H, I.tok k, ⟨_, rfl⟩, q⟩
/-! ### for a, b in zip(x, y), two texts -/
end DL

set_option Elab.async false
set_option maxRecDepth 100000
namespace DL
open PySem L2 HT TL
/-! ### patterns and rows -/
theorem SqT.same {K : PySem.W.Frag} {H H' : Hp} {a : Addr} {xs : List V} (s : Same H H') (h : SqT K H a xs) : SqT K H' a xs := by
  rcases h with (h | ⟨o, h⟩) | h
  · exact .inl (.inl (s _ _ h))
  · exact .inl (.inr ⟨o, s _ _ h⟩)
  · exact .inr h
def runB (bs : List Bar) (st : List Bool) : List Int → Option (List Bool)
  | [] => some st
  | d :: ds => if goesB bs st d = true then runB bs (flip st d) ds else none
theorem runB_cons (bs : List Bar) (st : List Bool) (d : Int) (ds : List Int) : runB bs st (d :: ds) = if goesB bs st d = true then runB bs (flip st d) ds else none := rfl
end DL

set_option Elab.async false
set_option maxRecDepth 100000

set_option Elab.async false
set_option maxRecDepth 100000
namespace DL
open PySem L2 HT TL
/-! ### a drawn cabinet: its parts at p, itself at c; the row of draws at r -/
structure Lay (C r p c : Addr) (H : Hp) (n : Int) (bs : List Bar) : Prop where
  h : ∃ (t : Addr) (ks : List (Addr × Bar)) (zs : List V), H p = some (.lst (.int n :: .ref t :: zs)) ∧ CabAt C H c n t ∧ BarsAt H t ks ∧ ks.map (·.2) = bs ∧ OkBars n bs ∧ 1 ≤ n ∧ n ≤ 7 ∧ bs.length ≤ 100 ∧ p ≠ r
theorem Lay.but {C r sc p c : Addr} {H H' : Hp} {n : Int} {bs : List Bar} (L : Lay C r p c H n bs) (R : RowOk H r sc) (B : But r H H') : Lay C r p c H' n bs := by
  obtain ⟨t, ks, zs, h1, ⟨dx, h2⟩, h3, h4, h5, h6, h7, h8, h9⟩ := L.h
  obtain ⟨i, m, e, hR, _⟩ := R.h
  exact ⟨⟨t, ks, zs, B _ _ h9 h1, ⟨dx, B _ _ (ne_of h2 hR (by intro z; cases z)) h2⟩, ⟨B.tup hR h3.tu, fun k hk => B.tup hR (h3.el k hk)⟩, h4, h5, h6, h7, h8, h9⟩⟩
theorem Lay.same {C r p c : Addr} {H H' : Hp} {n : Int} {bs : List Bar} (L : Lay C r p c H n bs) (s : Same H H') : Lay C r p c H' n bs := by
  obtain ⟨t, ks, zs, h1, ⟨dx, h2⟩, h3, h4⟩ := L.h
  exact ⟨⟨t, ks, zs, s _ _ h1, ⟨dx, s _ _ h2⟩, h3.same s, h4⟩⟩
theorem Lay.n1 {C r p c : Addr} {H : Hp} {n : Int} {bs : List Bar} (L : Lay C r p c H n bs) : 1 ≤ n ∧ n ≤ 7 := by
  obtain ⟨t, ks, zs, h1, h2, h3, h4, h5, h6, h7, h8⟩ := L.h
  exact ⟨h6, h7⟩
theorem free_in {bs : List Bar} {st : List Bool} {d : Int} (h : d ∈ freeL bs st) : 0 ≤ d ∧ d < st.length := by
  have hm := (List.mem_filter.mp h).1
  unfold drs at hm
  obtain ⟨i, hi, rfl⟩ := List.mem_map.mp hm
  have := List.mem_range.mp hi
  omega
end DL

set_option Elab.async false
set_option maxRecDepth 100000
set_option maxHeartbeats 1000000
namespace DL
open PySem L2 HT TL
/-! ### forms of single values: standings, tries, whatever they are -/
def sgnB (n : Int) (z : Str) : V → Bool
  | .str y => decide ((y.length : Int) = n) && y.cps.toList.all fun c => decide (c ∈ z.cps.toList)
  | _ => false
def strB : V → Bool
  | .str _ => true
  | _ => false
theorem sgn_str (n : Int) (z y : Str) : sgnB n z (.str y) = (decide ((y.length : Int) = n) && y.cps.toList.all fun c => decide (c ∈ z.cps.toList)) := rfl
theorem int_dec (a b : Int) : decide ((V.int a) = V.int b) = decide (a = b) := decide_eq_decide.mpr ⟨fun z => by injection z, fun z => by rw [z]⟩
end DL

set_option Elab.async false
set_option maxRecDepth 100000
namespace DL
open PySem L2 HT TL RZ
/-! ### sets of drawers -/
theorem bl_all {α : Type} (l : List α) (f : α → Bool) : (l.map f).all id = l.all f := by rw [List.all_map]; rfl
/-- a set: its drawers stand at a -/
structure SetAt (K : PySem.W.Frag) (H : Hp) (n : Int) (a : Addr) (ns : List Int) : Prop where
  at' : SqT K H a (ns.map V.int)
  low : ∀ d ∈ ns, 0 ≤ d ∧ d < n
  asc : ns.Pairwise (· < ·)
theorem SetAt.same {K : PySem.W.Frag} {H H' : Hp} {n : Int} {a : Addr} {ns : List Int} (S : SetAt K H n a ns) (s : Same H H') : SetAt K H' n a ns := ⟨SqT.same s S.at', S.low, S.asc⟩
end DL

set_option Elab.async false
set_option maxRecDepth 100000
namespace DL
open PySem PySem.Spec PyProof.Rows L2
/-! ### f(e, ..), f an expression that gives one of some defs -/
structure FnE (X : Cx) (CX : CXT) (k : Nat) (f : Addr) (sp : Sp) : Prop where
  ex : ∃ (fd : FuncData) (ps : List Str), FnOk X.prog X.w X.K X.mg X.base CX k f fd ps sp ∧ PySem.W.keepIn X.K (.ref f) = true ∧ Binds X.K fd ps []
def tCallE (S : List (Addr × Sp)) (E : L2.St → XK) (tf : TE) (t : TA) : TE := fun σ H Q => tf σ H fun y H1 => ∃ (f : Addr) (sp : Sp), (f, sp) ∈ S ∧ y = .ref f ∧ t σ H1 fun vs H2 => sp vs H2 Q (E σ)
section
variable {X : Cx} {CX : CXT} {k : Nat} {S : List (Addr × Sp)} {E : L2.St → XK} {pos : Pos} {fe e : Expr} {es : List Expr} {tf : TE} {t : TA}
theorem pe_callE (hf : PE X fe tf) (HS : ∀ q ∈ S, FnE X CX k q.1 q.2) (room : Room k X.A) (pas : ∀ σ, PassesAt CX X σ (E σ)) (ar : PA X (e :: es) t)
    (tr : eval (.Call fe (e :: es) [] pos) X.env = (do callWith pos (← eval fe X.env) [] (backTo pos (starEach (e :: es) X.env)) (backToKw pos (keywordEach [] X.env))) := by rfl)
    (sta : starEach (e :: es) X.env = (false, eval e X.env) :: starEach es X.env := by rfl) (pla : (backTo pos (starEach es X.env)).any (·.1) = false := by rfl) : PE X (.Call fe (e :: es) [] pos) (tCallE S E tf t) := by
  refine ⟨fun pins s0 σ H Q I0 rd => ?_⟩
  refine Call_ (thn (hf.run pins s0 σ H _ I0 rd) fun u s1 ⟨y, H1, I1, ry, f, sp, hm, ey, q⟩ => ?_) tr
  subst ey
  obtain rfl : u = Value.ref f := ry
  obtain ⟨fd, ps, F, hk, hb⟩ := (HS _ hm).ex
  refine PySem.W.callWith_K (h₀ := X.base) I1.ok.mod.kin hk (thn (ar.run pos pins s1 σ H1 _ I1 q) fun us s2 ⟨vs, H2, I2, r, q2⟩ => ⟨I2.kIn, ?_⟩) sta pla
  exact run_fnS F room hb (pas σ) I2 r q2
end
end DL

set_option Elab.async false
set_option maxRecDepth 100000
set_option maxHeartbeats 1000000
namespace DL
open PySem PySem.Spec PyProof.Rows L2
/-! ### several clauses, with or without a name for the error -/
abbrev ClA := Value × Option Nat × (Addr → Value → Option Addr → TS)
def offI (i : Nat) (D : Ends) : Ends := { nx := fun σ H => D.nx (σ.set i none) H, rt := D.rt, bk := fun σ H => D.bk (σ.set i none) H, ct := fun σ H => D.ct (σ.set i none) H }
def runA (ts : Addr → Value → Option Addr → TS) (o : Option Nat) (a : Addr) (cls : Value) (d : Option Addr) (D : Ends) (σ : L2.St) (H : Hp) : Prop :=
  match o with
  | none => ts a cls d D σ H
  | some i => ts a cls d (offI i D) (σ.set i (some (.ref a))) H
def wAny (K : PySem.W.Frag) (Wout : WX) (D : Ends) : List ClA → WX
  | [] => Wout
  | (c, o, ts) :: r => fun cls d σ H => ∃ b, PySem.W.exmOne K cls c = some b ∧ (b = true → ∀ a, H a = none → runA ts o a cls d D σ H) ∧ (b = false → wAny K Wout D r cls d σ H)
inductive ClsA (X : Cx) : List ExceptHandler → List ClA → Prop
  | nil : ClsA X [] []
  | plain {x : Str} {c : Value} {ts : Addr → Value → Option Addr → TS} {b₀ : Stmt} {suite : List Stmt} {np pos' : Pos} {hds : List ExceptHandler} {l : List ClA} (hc : Names X x c)
      (su : ∀ (a : Addr) (oe : Obj) (cls : Value) (d : Option Addr) (pn : List (Addr × Obj)), Zc cls d oe → (∃ vs, oe.data = .fields vs) → PSs (X.suite a ((a, oe) :: pn)) (b₀ :: suite) (ts a cls d)) (r : ClsA X hds l) :
      ClsA X (.ExceptHandler (some (.Name x np)) none (b₀ :: suite) pos' :: hds) ((c, none, ts) :: l)
  | named {x n : Str} {i : Nat} {c : Value} {ts : Addr → Value → Option Addr → TS} {b₀ : Stmt} {suite : List Stmt} {np pos' : Pos} {hds : List ExceptHandler} {l : List ClA} (hN : X.N.Nodup) (hi : X.N[i]? = some n) (hln : X.env.kindOf n = some .local) (hc : Names X x c)
      (su : ∀ (a : Addr) (oe : Obj) (cls : Value) (d : Option Addr) (pn : List (Addr × Obj)), Zc cls d oe → (∃ vs, oe.data = .fields vs) → PSs (X.suite a ((a, oe) :: pn)) (b₀ :: suite) (ts a cls d)) (r : ClsA X hds l) :
      ClsA X (.ExceptHandler (some (.Name x np)) (some n) (b₀ :: suite) pos' :: hds) ((c, some i, ts) :: l)
section
variable {X : Cx} {body : List Stmt} {k₀ : ExceptHandler} {ks : List ExceptHandler} {l : List ClA} {pos : Pos} {tb : WX → TS} {Wout : WX}
theorem ps_try_any (hst : X.stack = X.env :: X.outer) (hfr : X.env.frame = some X.env.locals) (tk : Takes X Wout)
    (hbd : ∀ (W : WX) (pn : List (Addr × Obj)) (xe : Value → Shared → Prop), Takes (X.tr pn xe) W → PassesOwn (model X.prog X.w) X.A X.env xe → PSs (X.tr pn xe) body (tb W))
    (hcl : ClsA X (k₀ :: ks) l) : PS X (.Try body (k₀ :: ks) [] [] pos) (fun D σ H => tb (wAny X.K Wout D l) D σ H) := by
  refine ⟨fun pins s σ H D I rd => ?_⟩
  have okX := I.ok
  have afr : X.A.frames = some (X.env :: X.outer) := by rw [okX.frames, hst]
  have nom : ∀ {x : Str} {c : Value} {a : Addr} {oe : Obj} {σ' : L2.St} {H' : Hp} {s' : Shared} {Q : Value → Shared → Prop} {E : Value → Shared → Prop} {np : Pos}, Names X x c → Inv (X.suite a ((a, oe) :: (X.pn ++ pins))) [] σ' H' s' → Q c s' → wpAny (model X.prog X.w) (X.A.mark (some (.ref a))) (eval (.Name x np) X.env) Q E s' :=
    fun {x c a oe σ' H' s' Q E np} nm Sv q => by
      obtain ⟨gl, ndb, mm | ⟨mm, bo, nn⟩⟩ := nm
      · exact ld_glob (X := X.suite a ((a, oe) :: (X.pn ++ pins))) Sv gl mm q ndb
      · exact ld_blt (X := X.suite a ((a, oe) :: (X.pn ++ pins))) Sv gl mm bo q nn ndb
  refine wpAny_Try_except ?_
  refine wpAny_mono ((hbd (wAny X.K Wout D l) (X.pn ++ pins) (fun ev sA => wpAny (model X.prog X.w) X.A (noteFrame ev X.env) (fun _ sB => wpAny (model X.prog X.w) X.A (setFlight ev none) (fun _ sC => wpAny (model X.prog X.w) X.A (handleBy ev X.env (k₀ :: ks)) (SP X pins D) X.xe sC) X.xe sB) X.xe sA)
    (fun u s' cx => ?_) PassesOwn.looking).run [] s σ H D (I.toTry _) rd) (fun fl sE ends => ?_) (fun ev sE z => z)
  · obtain ⟨a, B, sI, pinsT, σT, HT, cls, d, rfl, Jt, nb, grow, inAir, free, osE, bareE, wish⟩ := cx
    have Jx : Inv X pins σT HT sI := Jt.ofTry okX
    have air : Sky B (X.env :: X.outer) a (Zc cls d) X.env.locals s'.heap := by rw [← hst]; exact inAir
    show wpAny (model X.prog X.w) X.A (noteFrame (.ref a) X.env) _ _ _
    refine Sky.land Zc.steady afr hfr air fun hA flA upA => ?_
    have JA : Inv X pins σT HT { s' with heap := hA } := Jx.landed nb flA.1 (grow.trans upA) osE bareE
    obtain ⟨oA, vA, getA, zcA, dataA⟩ := flA.there
    have apart : a ∉ frs (X.env :: X.outer) := fun mm => by
      obtain ⟨_, oB, getB, isF⟩ := flA.2.2.1.mem mm
      rw [getA] at getB
      cases getB
      exact isF _ dataA
    have ne1 : a ≠ X.env.locals := fun z => apart (List.mem_filterMap.mpr ⟨X.env, List.mem_cons_self, by rw [hfr, z]⟩)
    have ne2 : a ∉ X.fs := fun mm => by
      obtain ⟨en, hen, q⟩ := List.mem_filterMap.mp mm
      exact apart (List.mem_filterMap.mpr ⟨en, List.mem_cons_of_mem _ hen, q⟩)
    have SA := JA.suite getA dataA free ne1 ne2
    have tyA : PySem.W.Looks (model X.prog X.w) hA (typeOf (.ref a)) cls := fun A Q E s k q => wpAny_typeOf_ref (k _ _ getA) (by rw [zcA.1]; exact q)
    have walk : ∀ {hds : List ExceptHandler} {cl : List ClA}, ClsA X hds cl → wAny X.K Wout D cl cls d σT HT → wpAny (model X.prog X.w) X.A (handleBy (.ref a) X.env hds) (SP X pins D) X.xe { s' with heap := hA } := by
      intro hds cl hk
      induction hk with
      | nil =>
        intro wsh
        refine wpAny_handleBy_nil ?_
        obtain ⟨f1, f2, f3, oe, vs, T, oT, ts', fe, fz, fd, f4, fr⟩ := id flA
        unfold PySem.passOn
        refine wpAny_bind (wpAny_field fe fd f4 ?_)
        rw [if_neg (show ¬ ((Value.ref T == Value.none) = true) from by simp)]
        have out : wpAny (model X.prog X.w) X.A (setFlight (.ref a) X.env.frame) (fun _ sD => wpAny (model X.prog X.w) X.A (throw (.ref a) : Sem Flow) (SP X pins D) X.xe sD) X.xe { s' with heap := hA } := by
          rw [hfr]
          refine HandSPX.setFlight_upZ flA fun hB inB upB => wpAny_throw (tk _ _ ?_)
          exact ⟨a, B, sI, pins, σT, HT, cls, d, rfl, Jx, nb, (grow.trans upA).trans upB, .inr (.inr (by rw [hst]; exact inB)), free, osE, bareE, wsh⟩
        first
          | exact wpAny_bind (wpAny_pure (wpAny_bind out))
          | exact wpAny_bind out
      | @plain x c ts b₀ suite np pos' hds2 l2 hc su r ih =>
        intro wsh
        obtain ⟨b, mt, yes, no⟩ := wsh
        refine wpAny_handleBy_cons (codeAny_handlers_test ?_) (by intro z; cases z)
        have lm := PySem.W.exm_one (M := model X.prog X.w) (JA.kIn) tyA mt
        refine nom hc SA (lm.here ?_)
        cases b with
        | false =>
          show wpAny _ X.A (handleBy (.ref a) X.env hds2) _ _ _
          exact ih (no rfl)
        | true =>
          refine codeAny_handlers_suite ?_
          refine HandSPX.lands_againZ flA fun hB flB upB => ?_
          have JB : Inv X pins σT HT { s' with heap := hB } := Jx.landed nb flB.1 ((grow.trans upA).trans upB) osE bareE
          obtain ⟨oB, vB, getB, zcB, dataB⟩ := flB.there
          have SB := JB.suite getB dataB free ne1 ne2
          refine wpAny_mono ((su a oB cls d (X.pn ++ pins) zcB ⟨_, dataB⟩).run [] _ _ HT _ SB (yes rfl a free)) (fun fl sE ends => ?_) (fun _ _ z => False.elim z)
          cases fl with
          | next => exact let ⟨_, _, Sx, qx⟩ := ends; ⟨_, _, Sx.unsuite okX, qx⟩
          | brk => exact let ⟨_, _, Sx, qx⟩ := ends; ⟨_, _, Sx.unsuite okX, qx⟩
          | cont => exact let ⟨_, _, Sx, qx⟩ := ends; ⟨_, _, Sx.unsuite okX, qx⟩
          | ret u => exact let ⟨_, _, _, Sx, rx, qx⟩ := ends; ⟨_, _, _, Sx.unsuite okX, rx, qx⟩
      | @named x n i c ts b₀ suite np pos' hds2 l2 hN hi hln hc su r ih =>
        intro wsh
        obtain ⟨b, mt, yes, no⟩ := wsh
        refine wpAny_handleBy_cons (codeAny_handlers_test ?_) (by intro z; cases z)
        have lm := PySem.W.exm_one (M := model X.prog X.w) (JA.kIn) tyA mt
        refine nom hc SA (lm.here ?_)
        cases b with
        | false =>
          show wpAny _ X.A (handleBy (.ref a) X.env hds2) _ _ _
          exact ih (no rfl)
        | true =>
          refine codeAny_handlers_suite_as ?_
          refine HandSPX.lands_againZ flA fun hB flB upB => ?_
          have JB : Inv X pins σT HT { s' with heap := hB } := Jx.landed nb flB.1 ((grow.trans upA).trans upB) osE bareE
          obtain ⟨oB, vB, getB, zcB, dataB⟩ := flB.there
          have SB := JB.suite getB dataB free ne1 ne2
          refine store_ok (X := X.suite a ((a, oB) :: (X.pn ++ pins))) (v := .ref a) SB hN hi (.inl hln) rfl (fun sF SF => ?_) (.inr hln)
          refine wpAny_mono ((su a oB cls d (X.pn ++ pins) zcB ⟨_, dataB⟩).run [] sF _ HT _ SF (yes rfl a free)) (fun fl sE ends => ?_) (fun _ _ z => False.elim z)
          cases fl with
          | next => exact let ⟨_, _, Sx, qx⟩ := ends; gone_ok (Sx.unsuite okX) hN hi hln fun _ Jz => ⟨_, _, Jz, qx⟩
          | brk => exact let ⟨_, _, Sx, qx⟩ := ends; gone_ok (Sx.unsuite okX) hN hi hln fun _ Jz => ⟨_, _, Jz, qx⟩
          | cont => exact let ⟨_, _, Sx, qx⟩ := ends; gone_ok (Sx.unsuite okX) hN hi hln fun _ Jz => ⟨_, _, Jz, qx⟩
          | ret u => exact let ⟨_, _, _, Sx, rx, qx⟩ := ends; gone_ok (Sx.unsuite okX) hN hi hln fun _ Jz => ⟨_, _, _, Jz, rx, qx⟩
    exact walk hcl wish
  · cases fl with
    | next => exact let ⟨_, _, Jz, qx⟩ := ends; wpAny_execs_nil ⟨_, _, Jz.ofTry okX, qx⟩
    | brk => exact let ⟨_, _, Jz, qx⟩ := ends; ⟨_, _, Jz.ofTry okX, qx⟩
    | cont => exact let ⟨_, _, Jz, qx⟩ := ends; ⟨_, _, Jz.ofTry okX, qx⟩
    | ret u => exact let ⟨_, _, _, Jz, rx, qx⟩ := ends; ⟨_, _, _, Jz.ofTry okX, rx, qx⟩
end
end DL

set_option Elab.async false
set_option maxRecDepth 100000
set_option maxHeartbeats 1000000

set_option Elab.async false
set_option maxRecDepth 100000
set_option maxHeartbeats 1000000
namespace DL
open PySem L2 HT TL
/-! ### standings, patterns, drawers, lengths that are refused, whatever they are -/
def NoStr (K : PySem.W.Frag) (H : Hp) (v : V) : Prop := ∃ t, (∀ H', Same H H' → TyX K H' v t) ∧ PySem.W.kitOne K t (.type "str") = some false
def BadSgn (K : PySem.W.Frag) (z : Str) (H : Hp) (n : Int) (v : V) : Prop := NoStr K H v ∨ ∃ y, v = .str y ∧ y.length ≤ 1000 ∧ sgnB n z (.str y) = false
def GoodSgn (z : Str) (n : Int) (v : V) : Prop := ∃ y, v = .str y ∧ y.length ≤ 1000 ∧ sgnB n z (.str y) = true
theorem BadSgn.same {K : PySem.W.Frag} {z : Str} {H H' : Hp} {n : Int} {v : V} (h : BadSgn K z H n v) (s : Same H H') : BadSgn K z H' n v := by
  rcases h with ⟨t, h1, h2⟩ | h
  · exact .inl ⟨t, fun H2 s2 => h1 H2 (s.trans s2), h2⟩
  · exact .inr h
theorem CabAt.sameI {C : Addr} {H H' : Hp} {c : Addr} {n : Int} {t : Addr} (h : CabAt C H c n t) (s : Same H H') : CabAt C H' c n t := by
  obtain ⟨dx, hc⟩ := h
  exact ⟨dx, s _ _ hc⟩
structure spSgn3 (K : PySem.W.Frag) (vs : List V) (H : Hp) (Q : VK) (_ : XK) : Prop where
  h : ∃ (n : Int) (v : V) (z : Str), vs = [.int n, v, .str z] ∧ ((BadSgn K z H n v ∧ ∀ H', Same H H' → Q (.bl false) H') ∨ (GoodSgn z n v ∧ ∀ H', Same H H' → Q (.bl true) H'))
structure spSgn2 (K : PySem.W.Frag) (z : Str) (vs : List V) (H : Hp) (Q : VK) (_ : XK) : Prop where
  h : ∃ (n : Int) (v : V), vs = [.int n, v] ∧ ((BadSgn K z H n v ∧ ∀ H', Same H H' → Q (.bl false) H') ∨ (GoodSgn z n v ∧ ∀ H', Same H H' → Q (.bl true) H'))
structure spCkSgn (K : PySem.W.Frag) (C : Addr) (z : Str) (CE : Addr) (vs : List V) (H : Hp) (Q : VK) (E : XK) : Prop where
  h : ∃ (c : Addr) (v : V) (n : Int) (t : Addr), vs = [.ref c, v] ∧ CabAt C H c n t ∧ ((BadSgn K z H n v ∧ ∀ H', Same H H' → E (.ref CE) none H') ∨ (GoodSgn z n v ∧ ∀ H', Same H H' → Q .non H'))
abbrev BadLenL (K : PySem.W.Frag) (H : Hp) (lo m : Int) (v : V) : Prop := (∃ (t : Value) (b1 b2 : Bool), TyX K H v t ∧ PySem.W.kitOne K t (.type "int") = some b1 ∧ PySem.W.kitOne K t (.type "bool") = some b2 ∧ (b1 && !b2) = false) ∨ ∃ i : Int, v = .int i ∧ ¬ (lo ≤ i ∧ i ≤ m)
structure spCkLen (K : PySem.W.Frag) (CN : Addr) (vs : List V) (H : Hp) (Q : VK) (E : XK) : Prop where
  h : ∃ (v : V) (lo m : Int), vs = [v, .int lo, .int m] ∧ ((BadLenL K H lo m v ∧ exIni CN "n" v H E) ∨ (∃ i : Int, v = .int i ∧ lo ≤ i ∧ i ≤ m ∧ Q .non H))
section
variable {P : Program} {w : World} {K : PySem.W.Frag} {mg : Str → Option Value} {base : Heap}
theorem ok_hasSignsI {f : Addr} {fd : FuncData} (F : Fun K "has_signs" "has_signs" s_has_signs f fd) (T : Bt mg) (zS : mg "str" = none) (zA : mg "all" = none) : FnOk P w K mg base CX0 1 f fd ["drawers", "value", "signs"] (spSgn3 K) := by
  refine F.ok scHS (fun vs H Q E h => ?_) (fun cdv A outer s H vs Q E hr h => ?_)
  · obtain ⟨n, v, z, rfl, _⟩ := h.h
    rfl
  · obtain ⟨n, v, z, rfl, hv⟩ := h.h
    refine ⟨_, pss_cons (ps_if (PW.pt (pw_or (pt_not (pt_val (pe_callB call_isi (by rfl) T.isinstance (by decide +kernel) (pa_cons (pv 1) (pa_cons (pe_bltn (v := .ty "str") (by rfl) zS (by decide +kernel) rfl) pa_nil)))))
        (pw_or1 (pt_cmpR op_ne (pe_callB call_len_str (by rfl) T.len PySem.boot_len (pa_cons (pv 1) pa_nil)) (pv 0) (nomark _))))) (pss_one (ps_ret pe_bl)) pss_nil)
      (pss_one (ps_ret (pe_callB (cr_all rfl) (by rfl) zA boot_all_ (pa_cons
        (pe_lc (own := [("sign", 3)]) (g := gName 3) (tt := tYes) (by rfl) scHS.nd (pi_str (pv 1)) (blkOk_by (N := nHS) (sc := defScope s_has_signs) (by decide +kernel)) (fun _ _ _ _ _ => pg_name (i := 3) scHS.nd rfl (by first | exact Or.inl rfl | exact Or.inr rfl)) (fun _ _ _ _ _ => pts_nil)
          (fun _ _ _ _ _ => pe_cmpR op_in_sign (pv 3) (pv 2) (by rfl))) pa_nil)))), ?_⟩
    have hv' : (NoStr K H v ∧ Q (.bl false) H) ∨ ∃ y, v = .str y ∧ y.length ≤ 1000 ∧ ∀ H', Same H H' → Q (.bl (sgnB n z (.str y))) H' := by
      rcases hv with ⟨hn | ⟨y, e, hy, hb⟩, k⟩ | ⟨⟨y, e, hy, hb⟩, k⟩
      · exact .inl ⟨hn, k H (Same.refl H)⟩
      · exact .inr ⟨y, e, hy, fun H' s => by rw [hb]; exact k H' s⟩
      · exact .inr ⟨y, e, hy, fun H' s => by rw [hb]; exact k H' s⟩
    rcases hv' with ⟨⟨t, ty, kt⟩, k⟩ | ⟨y, rfl, h1000, k⟩
    · exact ⟨_, rfl, _, _, t, _, false, rfl, .ty "str", ty H (Same.refl H), kt, _, rfl, iteT k⟩
    · have hdone : True := trivial
      have ysz : y.length ≤ sizeLine := Nat.le_of_lt (small1000 h1000)
      refine ⟨_, rfl, _, _, .type "str", _, true, rfl, .ty "str", .base (.str y), kit_ty (by decide +kernel), _, rfl, iteF ?_⟩
      refine ⟨_, rfl, _, rfl, ysz, _, rfl, rfl, _, rfl, ?_⟩
      have ei := int_dec (y.length : Int) n
      show if (!decide ((V.int (y.length : Int)) = V.int n)) = true then _ else _
      rw [ei]
      cases en : decide ((y.length : Int) = n) with
      | false =>
        refine iteT ?_
        have := k H (Same.refl H)
        rw [sgn_str, en] at this
        exact this
      | true =>
        refine iteF ?_
        refine ⟨_, rfl, _, rfl, fun D hD => ?_⟩
        have hsz : y.cps.toList.length = y.cps.size := Array.length_toList
        have hyl : y.length = y.cps.size := rfl
        have := h1000
        refine lc_pick walk_str y.cps.toList hsz (by omega) (fun _ => true) (fun c => V.bl (decide (c ∈ z.cps.toList))) hD (fun _ _ => trivial) ?_ ?_
        · rintro i x c H1 H1' Tk Nk ez s1 ⟨rfl, c', hc', rfl⟩ kT kF
          rw [Array.getElem?_toList, hc'] at ez
          cases ez
          refine ⟨rfl, tYes_of (iteT ?_)⟩
          exact ⟨_, rfl, _, rfl, _, z, rfl, rfl, kT _ rfl (Same.refl _)⟩
        · intro H1 s1 hD1
          rw [List.filter_eq_self.mpr fun _ _ => rfl] at hD1
          refine ⟨D, y.cps.toList.map fun c => decide (c ∈ z.cps.toList), rfl, SqL.of (by rw [hD1, List.map_map]; rfl), ?_⟩
          have := k H1 s1
          rw [sgn_str, en, Bool.true_and] at this
          have e9 : (y.cps.toList.map fun c => decide (c ∈ z.cps.toList)).all id = y.cps.toList.all fun c => decide (c ∈ z.cps.toList) := by rw [List.all_map]; rfl
          rw [e9]
          exact this
theorem scIsStdI : FnScope ["drawers", "value"] ["drawers", "value"] (defScope s_is_standing) := ⟨rfl, rfl, rfl, by decide +kernel, rfl, by decide +kernel, by decide +kernel⟩
theorem ok_isStdI {f f1 : Addr} {fd fd1 : FuncData} (F : Fun K "is_standing" "is_standing" s_is_standing f fd) (G : FnOk P w K mg base CX0 1 f1 fd1 ["drawers", "value", "signs"] (spSgn3 K)) (g1 : mg "has_signs" = some (.ref f1)) (k1 : PySem.W.keepIn K (.ref f1) = true) (b1 : Binds K fd1 ["drawers", "value", "signs"] [])
    (gS : ∃ t, mg "STANDING_SIGNS" = some (.str "os" t)) : FnOk P w K mg base CX0 2 f fd ["drawers", "value"] (spSgn2 K "os") := by
  refine F.ok scIsStdI (fun vs H Q E h => ?_) (fun cdv A outer s H vs Q E hr h => ?_)
  · obtain ⟨n, v, rfl, _⟩ := h.h
    rfl
  · obtain ⟨n, v, rfl, hv⟩ := h.h
    obtain ⟨tS, gS⟩ := gS
    refine ⟨_, pss_one (ps_ret (pe_call G (hr.mono (by decide)) rfl g1 k1 b1 .nil pass0 (pa_cons (pv 0) (pa_cons (pv 1) (pa_cons (pe_glob (v := .str "os") rfl gS ⟨_, rfl⟩) pa_nil))))), ?_⟩
    exact ⟨_, rfl, _, rfl, ⟨⟨n, v, _, rfl, hv⟩⟩⟩
theorem scIsPatI : FnScope ["drawers", "value"] ["drawers", "value"] (defScope s_is_pattern) := ⟨rfl, rfl, rfl, by decide +kernel, rfl, by decide +kernel, by decide +kernel⟩
theorem ok_isPatI {f f1 : Addr} {fd fd1 : FuncData} (F : Fun K "is_pattern" "is_pattern" s_is_pattern f fd) (G : FnOk P w K mg base CX0 1 f1 fd1 ["drawers", "value", "signs"] (spSgn3 K)) (g1 : mg "has_signs" = some (.ref f1)) (k1 : PySem.W.keepIn K (.ref f1) = true) (b1 : Binds K fd1 ["drawers", "value", "signs"] [])
    (gS : ∃ t, mg "PATTERN_SIGNS" = some (.str "os?" t)) : FnOk P w K mg base CX0 2 f fd ["drawers", "value"] (spSgn2 K "os?") := by
  refine F.ok scIsPatI (fun vs H Q E h => ?_) (fun cdv A outer s H vs Q E hr h => ?_)
  · obtain ⟨n, v, rfl, _⟩ := h.h
    rfl
  · obtain ⟨n, v, rfl, hv⟩ := h.h
    obtain ⟨tS, gS⟩ := gS
    refine ⟨_, pss_one (ps_ret (pe_call G (hr.mono (by decide)) rfl g1 k1 b1 .nil pass0 (pa_cons (pv 0) (pa_cons (pv 1) (pa_cons (pe_glob (v := .str "os?") rfl gS ⟨_, rfl⟩) pa_nil))))), ?_⟩
    exact ⟨_, rfl, _, rfl, ⟨⟨n, v, _, rfl, hv⟩⟩⟩
theorem scCkStdI : FnScope ["cabinet", "standing"] ["cabinet", "standing"] (defScope s_check_standing) := ⟨rfl, rfl, rfl, by decide +kernel, rfl, by decide +kernel, by decide +kernel⟩
theorem ok_ckStdI {f f1 C CE : Addr} {fd fd1 : FuncData} (F : Fun K "check_standing" "check_standing" s_check_standing f fd) (CP : CabP P w K mg base C) (BT : ErrT K mg "BadStanding" CE) (G : FnOk P w K mg base CX0 2 f1 fd1 ["drawers", "value"] (spSgn2 K "os")) (g1 : mg "is_standing" = some (.ref f1)) (k1 : PySem.W.keepIn K (.ref f1) = true) (b1 : Binds K fd1 ["drawers", "value"] []) :
    FnOk P w K mg base (L2.CX P w) 4 f fd ["cabinet", "standing"] (spCkSgn K C "os" CE) := by
  refine F.okX scCkStdI (fun vs H Q E h => ?_) (fun cdv A outer s H vs Q E hr h => ?_)
  · obtain ⟨c, v, n, t, rfl, _⟩ := h.h
    rfl
  · obtain ⟨c, v, n, t, rfl, ⟨dx, hc⟩, hv⟩ := h.h
    obtain ⟨pD, gD, fdD, hpD, GD, bD⟩ := CP.d
    refine ⟨_, pss_one (ps_if (pt_not (pt_val (pe_call G (hr.mono (by decide)) rfl g1 k1 b1 .nil pass0 (pa_cons (pe_prop (pv 0) CP.cl hpD GD (hr.mono (by decide)) bD .nil pass0 rfl) (pa_cons (pv 1) pa_nil)))))
      (pss_one (ps_raise rfl (takes_of rfl rfl rfl rfl) (pmk_own PySem.F.excBase_ValueError BT.x BT.g BT.k (raises_own BT.b BT.t) (by exact rfl)))) pss_nil), ?_⟩
    refine ⟨_, rfl, c, dx, _, rfl, hc, ⟨⟨c, dx, _, t, rfl, hc, _, rfl, ⟨⟨n, _, rfl, ?_⟩⟩⟩⟩⟩
    rcases hv with ⟨h1, k⟩ | ⟨h1, k⟩
    · exact .inl ⟨h1, fun H' s1 => ⟨_, rfl, iteT (k H' s1)⟩⟩
    · exact .inr ⟨h1, fun H' s1 => ⟨_, rfl, iteF (k H' s1)⟩⟩
theorem scCkPatI : FnScope ["cabinet", "pattern"] ["cabinet", "pattern"] (defScope s_check_pattern) := ⟨rfl, rfl, rfl, by decide +kernel, rfl, by decide +kernel, by decide +kernel⟩
theorem ok_ckPatI {f f1 C CE : Addr} {fd fd1 : FuncData} (F : Fun K "check_pattern" "check_pattern" s_check_pattern f fd) (CP : CabP P w K mg base C) (BT : ErrT K mg "BadPattern" CE) (G : FnOk P w K mg base CX0 2 f1 fd1 ["drawers", "value"] (spSgn2 K "os?")) (g1 : mg "is_pattern" = some (.ref f1)) (k1 : PySem.W.keepIn K (.ref f1) = true) (b1 : Binds K fd1 ["drawers", "value"] []) :
    FnOk P w K mg base (L2.CX P w) 4 f fd ["cabinet", "pattern"] (spCkSgn K C "os?" CE) := by
  refine F.okX scCkPatI (fun vs H Q E h => ?_) (fun cdv A outer s H vs Q E hr h => ?_)
  · obtain ⟨c, v, n, t, rfl, _⟩ := h.h
    rfl
  · obtain ⟨c, v, n, t, rfl, ⟨dx, hc⟩, hv⟩ := h.h
    obtain ⟨pD, gD, fdD, hpD, GD, bD⟩ := CP.d
    refine ⟨_, pss_one (ps_if (pt_not (pt_val (pe_call G (hr.mono (by decide)) rfl g1 k1 b1 .nil pass0 (pa_cons (pe_prop (pv 0) CP.cl hpD GD (hr.mono (by decide)) bD .nil pass0 rfl) (pa_cons (pv 1) pa_nil)))))
      (pss_one (ps_raise rfl (takes_of rfl rfl rfl rfl) (pmk_own PySem.F.excBase_ValueError BT.x BT.g BT.k (raises_own BT.b BT.t) (by exact rfl)))) pss_nil), ?_⟩
    refine ⟨_, rfl, c, dx, _, rfl, hc, ⟨⟨c, dx, _, t, rfl, hc, _, rfl, ⟨⟨n, _, rfl, ?_⟩⟩⟩⟩⟩
    rcases hv with ⟨h1, k⟩ | ⟨h1, k⟩
    · exact .inl ⟨h1, fun H' s1 => ⟨_, rfl, iteT (k H' s1)⟩⟩
    · exact .inr ⟨h1, fun H' s1 => ⟨_, rfl, iteF (k H' s1)⟩⟩
theorem scCkLen : FnScope ["value", "least", "most"] ["value", "least", "most"] (defScope s_check_number) := ⟨rfl, rfl, rfl, by decide +kernel, rfl, by decide +kernel, by decide +kernel⟩
theorem ok_ckLen {f f1 CN : Addr} {fd fd1 : FuncData} (F : Fun K "check_number" "check_number" s_check_number f fd) (BT : IniT P w K mg base "BadNumber" "n" goodA CN)
    (G : FnOk P w K mg base CX0 1 f1 fd1 ["value"] (spIsInt K)) (g1 : mg "is_integer" = some (.ref f1)) (k1 : PySem.W.keepIn K (.ref f1) = true) (b1 : Binds K fd1 ["value"] []) :
    FnOk P w K mg base (L2.CX P w) 4 f fd ["value", "least", "most"] (spCkLen K CN) := by
  refine F.okX scCkLen (fun vs H Q E h => ?_) (fun cdv A outer s H vs Q E hr h => ?_)
  · obtain ⟨v, lo, m, rfl, _⟩ := h.h
    rfl
  · obtain ⟨v, lo, m, rfl, hv⟩ := h.h
    obtain ⟨fI, fdI, i1, i2, GI, bI⟩ := BT.i
    refine ⟨_, pss_one (ps_if (PW.pt (pw_or (pt_not (pt_val (pe_call G (hr.mono (by decide)) rfl g1 k1 b1 .nil pass0 (pa_cons (pv 0) pa_nil)))) (pw_or1 (pt_not (pt_chain op_le op_le (pv 1) (pv 0) (pv 2))))))
      (pss_one (ps_raise rfl (takes_of rfl rfl rfl rfl) (pmk_oex BT.T i1 i2 GI (hr.mono (by decide)) bI .nil pass0 rfl BT.g (pa_cons (pv 0) pa_nil)))) pss_nil), ?_⟩
    rcases hv with ⟨⟨t, c1, c2, ty, e1, e2, e3⟩ | ⟨i, rfl, hn⟩, ke⟩ | ⟨i, rfl, i0, im, k⟩
    · refine ⟨_, rfl, ⟨v, t, c1, c2, rfl, ty, e1, e2, _, rfl, ?_⟩⟩
      rw [e3]
      exact iteT ⟨_, rfl, by show 1 ≤ 1000; decide, fun a ha => ini_mk ha trivial ke⟩
    · refine ⟨_, rfl, ⟨.int i, .type "int", true, false, rfl, .base (.int i), kit_ty (by decide +kernel), kit_ty (by decide +kernel), _, rfl, iteF ?_⟩⟩
      refine ⟨_, rfl, _, rfl, _, _, rfl, rfl, _, rfl, ?_⟩
      by_cases q : lo ≤ i
      · rw [decide_eq_true q]
        refine iteT ⟨_, rfl, _, _, rfl, rfl, _, rfl, ?_⟩
        rw [decide_eq_false (fun z => hn ⟨q, z⟩)]
        exact iteT ⟨_, rfl, by show 1 ≤ 1000; decide, fun a ha => ini_mk ha trivial ke⟩
      · rw [decide_eq_false q]
        exact iteF ⟨_, rfl, iteT ⟨_, rfl, by show 1 ≤ 1000; decide, fun a ha => ini_mk ha trivial ke⟩⟩
    · refine ⟨_, rfl, ⟨.int i, .type "int", true, false, rfl, .base (.int i), kit_ty (by decide +kernel), kit_ty (by decide +kernel), _, rfl, iteF ?_⟩⟩
      refine ⟨_, rfl, _, rfl, _, _, rfl, rfl, _, rfl, ?_⟩
      rw [decide_eq_true i0]
      refine iteT ⟨_, rfl, _, _, rfl, rfl, _, rfl, ?_⟩
      rw [decide_eq_true im]
      exact iteF k
end
end DL

set_option Elab.async false
set_option maxRecDepth 100000
set_option maxHeartbeats 1000000
namespace DL
open PySem PySem.Spec PyProof.Rows L2 HT TL
/-! ### a tuple taken once -/
theorem tuple_once (l : Addr) (items : Array Value) (n : Nat) (dd : Option Addr) (sl : Array (Option Value)) (u : Tok) :
    Meets (Builtin.«tuple.__mul__» ⟨[.ref l, .int 1 u], []⟩) (fun _ R s => s.heap.get? l = some { cls := .type "tuple", dict := dd, data := .seq items n, slots := sl } ∧ R (.ok (.ret (Value.ref l))) s) :=
  .of_wp fun prog w A R s h => by
    obtain ⟨hp, g, d, tk, os⟩ := s
    obtain ⟨hl, h⟩ := h
    have f1 := AutoSeq1.idx_int
    have c0 : (decide ((1 : Int) < -(2 ^ 63)) || decide ((1 : Int) ≥ 2 ^ 63)) = false := by decide
    have c1 : (items.isEmpty || (1 : Int) == 1) = true := by simp
    wp_walk using wpAny_loadPart' hl
    repeat (first
      | (refine wpAny_ite_false (decide_eq_false (by rw [c0]; exact Bool.false_ne_true)) ?_; wp_walk using wpAny_loadPart' hl)
      | (refine wpAny_ite_true (decide_eq_true c1) ?_; wp_walk using wpAny_loadPart' hl))
    exact ⟨_, rfl, h⟩
theorem op_repOne {X : Cx} : OpR X (binaryOp .Mult) (fun x y H Q => ∃ l xs, x = .ref l ∧ y = .int 1 ∧ SqT X.K H l xs ∧ Q (.ref l) H) := by
  intro pins s σ H x y v u Q I rx ry h
  obtain ⟨l, xs, rfl, rfl, hT, q⟩ := h
  cases rx
  obtain ⟨t, rfl⟩ := ry
  obtain ⟨its, r, ⟨⟨cls, dd, data, sl⟩, ho, hc, n, hd⟩, hs⟩ := I.tuple hT
  simp only at hc hd
  subst hc hd
  exact wpAny_binaryOp_repeat_ref (T := "tuple") (U := "int") (by decide) ⟨_, ho, rfl⟩ (fun s' => typeIs_int s' 1 t) noFill_tuple_mul F.fills_int_mul F.slot_int_rmul repeat_tuple F.slot_int_index.lookup
    (call_meets F.slot_int_rmul (typeIs_int s 1 t) F.entry_int_rmul (F.args_int_rmul_2 _ _) (int_rmul_tuple 1 t l its.toArray n dd sl)
      ⟨ho, rfl, ⟨_, ho, rfl⟩, call_meets F.slot_tuple_mul ⟨_, ho, rfl⟩ F.entry_tuple_mul (F.args_tuple_mul_2 _ _) (tuple_once l its.toArray n dd sl t) ⟨ho, .ref l, _, I, rfl, q⟩⟩)
/-- a tuple of one, taken so many times -/
theorem op_repAny {X : Cx} : OpR X (binaryOp .Mult) (fun x y H Q => ∃ l k z, x = .ref l ∧ y = .int k ∧ SqT X.K H l [.str z] ∧ 1 ≤ k ∧ k ≤ 1000 ∧ ∀ p xs H', Same H H' → SqT X.K H' p xs → Q (.ref p) H') := by
  intro pins s σ H x y v u Q I rx ry h
  obtain ⟨l, k, z, rfl, rfl, hT, h1, h2, q⟩ := h
  by_cases e : k = 1
  · subst e
    exact op_repOne pins s σ H _ _ v u Q I rx ry ⟨l, _, rfl, rfl, hT, q l _ H (Same.refl H) hT⟩
  · exact op_repT pins s σ H _ _ v u Q I rx ry ⟨l, k, _, rfl, rfl, hT, by simp, by omega, h2, by simp, fun p hp => q p _ _ (same_upd hp) (SqT.of' upd_same)⟩
theorem mulOk_8 {z : Str} {n : Int} (hz : z.length = 1) (h0 : 0 ≤ n) (h8 : n ≤ 8) : MulOk z n := by
  by_cases e : n = 0
  · subst e
    exact ⟨by decide, fun h => absurd (by decide) h, fun h => absurd (by decide) h⟩
  refine ⟨?_, fun _ _ => ?_, fun _ _ => ?_⟩
  · rw [decide_eq_false (by omega), decide_eq_false (by omega)]; rfl
  · rw [hz]
    have : n = 1 ∨ n = 2 ∨ n = 3 ∨ n = 4 ∨ n = 5 ∨ n = 6 ∨ n = 7 ∨ n = 8 := by omega
    rcases this with rfl | rfl | rfl | rfl | rfl | rfl | rfl | rfl <;> decide
  · rw [hz]
    have : n = 1 ∨ n = 2 ∨ n = 3 ∨ n = 4 ∨ n = 5 ∨ n = 6 ∨ n = 7 ∨ n = 8 := by omega
    rcases this with rfl | rfl | rfl | rfl | rfl | rfl | rfl | rfl <;> decide +kernel
/-! ### odd standings and patterns -/
theorem odd_txt {n : Int} {z : Str} (h1 : 1 ≤ n) (h7 : n ≤ 7) (hz : z = "os" ∨ z = "os?") :
    ((Txt.mul "s" (n + 1)).length ≤ 1000 ∧ sgnB n z (.str (Txt.mul "s" (n + 1))) = false) ∧ ((Txt.mul "s" (n - 1)).length ≤ 1000 ∧ sgnB n z (.str (Txt.mul "s" (n - 1))) = false) ∧
    ((Txt.mul "S" n).length ≤ 1000 ∧ sgnB n z (.str (Txt.mul "S" n)) = false) ∧ ((Txt.mul "x" n).length ≤ 1000 ∧ sgnB n z (.str (Txt.mul "x" n)) = false) ∧ ((Txt.mul "?" n).length ≤ 1000 ∧ sgnB n "os" (.str (Txt.mul "?" n)) = false) := by
  have : n = 1 ∨ n = 2 ∨ n = 3 ∨ n = 4 ∨ n = 5 ∨ n = 6 ∨ n = 7 := by omega
  rcases hz with rfl | rfl <;> rcases this with rfl | rfl | rfl | rfl | rfl | rfl | rfl <;> exact ⟨⟨by decide +kernel, by decide +kernel⟩, ⟨by decide +kernel, by decide +kernel⟩, ⟨by decide +kernel, by decide +kernel⟩, ⟨by decide +kernel, by decide +kernel⟩, ⟨by decide +kernel, by decide +kernel⟩⟩
theorem odd_std {K : PySem.W.Frag} {H : Hp} {n v : Int} {z : Str} {p d r : Addr} {xs ys : List V} (hr : H r = some (.lst ys)) (nd : d ≠ r) (h1 : 1 ≤ n) (h7 : n ≤ 7) (hz : z = "os" ∨ z = "os?") (h0 : 0 ≤ v) (h9 : v < 9) (hp : ∀ H', But r H H' → SqT K H' p xs) (hd : H d = some (.dT [])) :
    ∃ x, atI [.non, .int 0, .str (Txt.mul "s" (n + 1)), .str (Txt.mul "s" (n - 1)), .str (Txt.mul "S" n), .ref p, .str (Txt.mul "x" n), .bl true, .ref d] v = some x ∧ ∀ H', But r H H' → BadSgn K z H' n x := by
  obtain ⟨⟨a1, a2⟩, ⟨b1, b2⟩, ⟨c1, c2⟩, ⟨d1, d2⟩, _⟩ := odd_txt h1 h7 hz
  have : v = 0 ∨ v = 1 ∨ v = 2 ∨ v = 3 ∨ v = 4 ∨ v = 5 ∨ v = 6 ∨ v = 7 ∨ v = 8 := by omega
  rcases this with rfl | rfl | rfl | rfl | rfl | rfl | rfl | rfl | rfl
  · exact ⟨.non, rfl, fun _ _ => .inl ⟨.type "NoneType", fun _ _ => .base .non, kit_ty (by decide +kernel)⟩⟩
  · exact ⟨.int 0, rfl, fun _ _ => .inl ⟨.type "int", fun _ _ => .base (.int _), kit_ty (by decide +kernel)⟩⟩
  · exact ⟨_, rfl, fun _ _ => .inr ⟨_, rfl, a1, a2⟩⟩
  · exact ⟨_, rfl, fun _ _ => .inr ⟨_, rfl, b1, b2⟩⟩
  · exact ⟨_, rfl, fun _ _ => .inr ⟨_, rfl, c1, c2⟩⟩
  · exact ⟨.ref p, rfl, fun H' b => .inl ⟨.type "tuple", fun H2 s => tyT (SqT.same s (hp H' b)), kit_ty (by decide +kernel)⟩⟩
  · exact ⟨_, rfl, fun _ _ => .inr ⟨_, rfl, d1, d2⟩⟩
  · exact ⟨.bl true, rfl, fun _ _ => .inl ⟨.type "bool", fun _ _ => .base (.bl _), kit_ty (by decide +kernel)⟩⟩
  · exact ⟨.ref d, rfl, fun _ b => .inl ⟨.type "dict", fun _ s => .base (.dT (s _ _ (b _ _ nd hd))), kit_ty (by decide +kernel)⟩⟩
theorem sqT_but {K : PySem.W.Frag} {r : Addr} {H H' : Hp} {a : Addr} {xs ys : List V} (hr : H r = some (.lst ys)) (B : But r H H') (h : SqT K H a xs) : SqT K H' a xs := by
  rcases h with (h | ⟨o, h⟩) | h
  · exact .inl (.inl (B.tup hr h))
  · exact .inl (.inr ⟨o, B _ _ (ne_of h hr (by intro z; cases z)) h⟩)
  · exact .inr h
structure spOddS (K : PySem.W.Frag) (vs : List V) (H : Hp) (Q : VK) (_ : XK) : Prop where
  h : ∃ (r sc : Addr) (ns : List Int) (n : Int) (z : Str), vs = [.ref r, .int n, .str z] ∧ RowOk H r sc ∧ SqL K H sc (ns.map V.int) ∧ (∀ H', But r H H' → SqL K H' sc (ns.map V.int)) ∧ 1 ≤ n ∧ n ≤ 7 ∧ (z = "os" ∨ z = "os?") ∧
    ∀ (x : V) (H' : Hp), RowOk H' r sc → But r H H' → (∀ H'', But r H' H'' → BadSgn K z H'' n x) → Q x H'
section
variable {P : Program} {w : World} {K : PySem.W.Frag} {mg : Str → Option Value} {base : Heap}
abbrev nOS : List Str := ["_law_row", "_law_many", "_law_signs", "_law_odd_here"]
theorem scOS : FnScope nOS ["_law_row", "_law_many", "_law_signs"] (defScope s__law_odd_standing) := ⟨rfl, rfl, rfl, by decide +kernel, rfl, by decide +kernel, by decide +kernel⟩
theorem ok_oddS {f fT : Addr} {fd dT : FuncData} (F : Fun K "_law_odd_standing" "_law_odd_standing" s__law_odd_standing f fd) (T : Bt mg)
    (GT : FnOk P w K mg base CX0 1 fT dT ["_law_row", "_law_many"] (spTaken K)) (gT : mg "_law_taken" = some (.ref fT)) (kT : PySem.W.keepIn K (.ref fT) = true) (bT : Binds K dT ["_law_row", "_law_many"] []) :
    FnOk P w K mg base CX0 2 f fd ["_law_row", "_law_many", "_law_signs"] (spOddS K) := by
  refine F.ok scOS (fun vs H Q E h => ?_) (fun cdv A outer s H vs Q E hr h => ?_)
  · obtain ⟨r, sc, ns, n, z, rfl, _⟩ := h.h
    rfl
  · obtain ⟨r, sc, ns, n, z, rfl, R, S, SB, h1, h7, hz, k⟩ := h.h
    refine ⟨_, pss_cons (ps_set (i := 3) scOS.nd rfl (Or.inl rfl) (pe_lst (pa_cons pe_non (pa_cons pe_int (pa_cons (pe_op op_mul_str pe_str (pe_op op_add (pv 1) pe_int)) (pa_cons (pe_op op_mul_str pe_str (pe_op op_sub (pv 1) pe_int)) (pa_cons (pe_op op_mul_str pe_str (pv 1)) (pa_cons (pe_op op_repAny (pe_tup (pa_cons pe_str pa_nil)) (pv 1)) (pa_cons (pe_op op_mul_str pe_str (pv 1)) (pa_cons pe_bl (pa_cons pe_dnewT pa_nil)))))))))))
      (pss_one (ps_ret (pe_ifExp (PW.pt (pw_or (pt_cmpR op_in_sign pe_str (pv 2) (by rfl)) (pw_or1 (pt_cmpR op_eq (pe_call GT (hr.mono (by decide)) rfl gT kT bT .nil pass0 (pa_cons (pv 0) (pa_cons pe_int pa_nil))) pe_int (nomark _)))))
        (pe_ix ix_list (pv 3) (pe_call GT (hr.mono (by decide)) rfl gT kT bT .nil pass0 (pa_cons (pv 0) (pa_cons (pe_callB call_len_seq (by rfl) T.len (by decide +kernel) (pa_cons (pv 3) pa_nil)) pa_nil))) (fun _ _ => rfl)) (pe_op op_mul_str pe_str (pv 1))))), ?_⟩
    refine ⟨_, rfl, n, 1, rfl, rfl, "s", n + 1, rfl, rfl, mulOk_8 rfl (by omega) (by omega), ?_⟩
    refine ⟨_, rfl, n, 1, rfl, rfl, "s", n - 1, rfl, rfl, mulOk_8 rfl (by omega) (by omega), ?_⟩
    refine ⟨_, rfl, "S", n, rfl, rfl, mulOk_8 rfl (by omega) (by omega), ?_⟩
    refine ⟨(by show 1 ≤ sizeLine; decide), fun q hq => ?_⟩
    obtain ⟨s1, f1⟩ := new_at (o := .tup [.str "s"]) hq
    generalize upd H q (.tup [.str "s"]) = H1 at s1 f1 ⊢
    refine ⟨_, rfl, q, n, "s", rfl, rfl, SqT.of' f1, by omega, by omega, fun p xs H2 s2 hp => ?_⟩
    refine ⟨_, rfl, "x", n, rfl, rfl, mulOk_8 rfl (by omega) (by omega), ?_⟩
    refine fun d hd => ?_
    obtain ⟨s3, f3⟩ := new_at (o := .dT []) hd
    generalize upd H2 d (.dT []) = H3 at s3 f3 ⊢
    refine ⟨(by show 9 ≤ sizeLine; decide), fun l hl => ?_⟩
    obtain ⟨s4, f4⟩ := new_at (o := .lst [.non, .int 0, .str (Txt.mul "s" (n + 1)), .str (Txt.mul "s" (n - 1)), .str (Txt.mul "S" n), .ref p, .str (Txt.mul "x" n), .bl true, .ref d]) hl
    simp only [] at s4 f4 ⊢
    generalize upd H3 l (.lst [.non, .int 0, .str (Txt.mul "s" (n + 1)), .str (Txt.mul "s" (n - 1)), .str (Txt.mul "S" n), .ref p, .str (Txt.mul "x" n), .bl true, .ref d]) = H4 at s4 f4 ⊢
    have s02 := s1.trans s2
    have s04 := (s02.trans s3).trans s4
    obtain ⟨_, _, _, hR, _⟩ := id R.h
    have nd : d ≠ r := (ne_of_none (s02 _ _ hR) hd).symm
    have nl : l ≠ r := (ne_of_none ((s02.trans s3) _ _ hR) hl).symm
    have R4 := R.same s04
    obtain ⟨_, _, _, hR4, _⟩ := id R4.h
    have hp4 := SqT.same (s3.trans s4) hp
    have S4 := SB H4 (sbut s04)
    have fin : ∀ v H5 H6, (0 : Int) ≤ v → v < 9 → RowOk H6 r sc → But r H4 H5 → But r H5 H6 → ∃ x, atI [V.non, .int 0, .str (Txt.mul "s" (n + 1)), .str (Txt.mul "s" (n - 1)), .str (Txt.mul "S" n), .ref p, .str (Txt.mul "x" n), .bl true, .ref d] v = some x ∧ Q x H6 := fun v H5 H6 v0 v1 R6 B5 B6 => by
      obtain ⟨_, _, _, hR6, _⟩ := id R6.h
      have B46 := B5.trans B6
      obtain ⟨x, ax, bx⟩ := odd_std (K := K) (r := r) hR6 nd h1 h7 hz v0 v1 (fun H' b => sqT_but hR4 (B46.trans b) hp4) (B46 _ _ nd (s4 _ _ f3))
      exact ⟨x, ax, k x H6 R6 ((sbut s04).trans B46) bx⟩
    refine ⟨_, rfl, 63, z, rfl, rfl, _, rfl, ?_⟩
    rcases hz with rfl | rfl
    · rw [show decide (63 ∈ ("os" : Str).cps.toList) = false by decide +kernel]
      refine iteF ?_
      refine ⟨_, rfl, ⟨⟨r, sc, ns, 2, rfl, R4, S4, by decide, by decide, fun v H5 v0 v1 R5 B5 => ?_⟩⟩⟩
      refine ⟨rfl, _, rfl, ?_⟩
      have e0 : decide ((V.int v) = V.int 0) = decide (v = 0) := decide_eq_decide.mpr ⟨fun z => by injection z, fun z => by rw [z]⟩
      rw [e0]
      by_cases q0 : v = 0
      · rw [decide_eq_true q0]
        refine iteT ?_
        refine ⟨_, rfl, _, rfl, _, rfl, l, _, rfl, .inl (SqL.of (B5 _ _ nl f4)), ⟨⟨r, sc, ns, 9, rfl, R5, SB H5 ((sbut s04).trans B5), by decide, by decide, fun v' H6 v0' v1' R6 B6 => ?_⟩⟩⟩
        obtain ⟨x, ax, qx⟩ := fin v' H5 H6 v0' v1' R6 B5 B6
        exact ⟨l, _, v', x, rfl, rfl, SqL.of ((B5.trans B6) _ _ nl f4), ax, qx⟩
      · rw [decide_eq_false q0]
        refine iteF ?_
        obtain ⟨_, _, _, _, e1, e2⟩ := odd_txt (z := "os") h1 h7 (.inl rfl)
        exact ⟨_, rfl, "?", n, rfl, rfl, mulOk_8 rfl (by omega) (by omega), k _ H5 R5 ((sbut s04).trans B5) fun _ _ => .inr ⟨_, rfl, e1, e2⟩⟩
    · rw [show decide (63 ∈ ("os?" : Str).cps.toList) = true by decide +kernel]
      refine iteT ?_
      refine ⟨_, rfl, _, rfl, _, rfl, l, _, rfl, .inl (SqL.of f4), ⟨⟨r, sc, ns, 9, rfl, R4, S4, by decide, by decide, fun v' H6 v0' v1' R6 B6 => ?_⟩⟩⟩
      obtain ⟨x, ax, qx⟩ := fin v' H4 H6 v0' v1' R6 (But.refl _ _) B6
      exact ⟨l, _, v', x, rfl, rfl, SqL.of (B6 _ _ nl f4), ax, qx⟩
end
end DL

set_option Elab.async false
set_option maxRecDepth 100000
set_option maxHeartbeats 2000000
namespace DL
open PySem PySem.Spec PyProof.Rows L2 HT TL
/-! ### [x] and (x,) taken so many times, sorted of a tuple of ints -/
theorem rep_flat {α : Type} (x : α) : ∀ k : Nat, (List.replicate k [x]).flatten = List.replicate k x
  | 0 => rfl
  | k + 1 => by
    rw [List.replicate_succ, List.replicate_succ, List.flatten_cons, rep_flat x k]
    rfl
/-- a tuple of one, taken so many times -/
def rRepX (K : PySem.W.Frag) : R2 := fun x y H Q => ∃ l k z, x = .ref l ∧ y = .int k ∧ SqT K H l [z] ∧ 1 ≤ k ∧ k ≤ 1000 ∧ ∀ p H', Same H H' → SqT K H' p (List.replicate k.toNat z) → Q (.ref p) H'
theorem op_repX {X : Cx} : OpR X (binaryOp .Mult) (rRepX X.K) := by
  intro pins s σ H x y v u Q I rx ry h
  obtain ⟨l, k, z, rfl, rfl, hT, h1, h2, q⟩ := h
  by_cases e : k = 1
  · subst e
    exact op_repOne pins s σ H _ _ v u Q I rx ry ⟨l, _, rfl, rfl, hT, q l H (Same.refl H) hT⟩
  · exact op_repT pins s σ H _ _ v u Q I rx ry ⟨l, k, _, rfl, rfl, hT, by simp, by omega, h2, by simp, fun p hp => by
      rw [rep_flat]
      exact q p _ (same_upd hp) (SqT.of' upd_same)⟩
section
variable {prog : Program} {w : World} {A : Around} {E : Value → Shared → Prop} {s : Shared}
open PyProof.Rows in
theorem gather_tup {t : Addr} {vs : List Value} {Q : List Value → Shared → Prop} (ht : s.heap.IsTuple t vs.toArray) (hz : vs.length ≤ sizeLine)
    (h : Q vs { s with heap := (s.heap.push (seqObj "list" #[] 0)).update s.heap.objs.size (Obj.mapSeq (· ++ vs.toArray)) }) : wpAny (model prog w) A (collect (.ref t)) Q E s := by
  obtain ⟨o, ho, hc, n, hd⟩ := id ht
  unfold collect
  refine wpAny_bind (wpAny_runValue (codeAny_builtin entry_proto_collect' ?_))
  show wpAny _ _ (do again (.builtin "list.__iadd__" ⟨[← newList [], .ref t], []⟩)) _ _ s
  refine wpAny_bind (wpAny_newList (wpAny_pure ⟨Code.quiet_builtin _ (by decide +kernel), codeAny_builtin entry_list_iadd' ?_⟩))
  show wpAny _ _ (Builtin.List.listExtendWith (.ref s.heap.objs.size) (.ref t) (.ref s.heap.objs.size)) _ _ { s with heap := s.heap.push (seqObj "list" #[] 0) }
  have up : (s.heap.push (seqObj "list" #[] 0)).get? t = some o := Heap.get?_push_of_some _ ho
  have nw : (s.heap.push (seqObj "list" #[] 0)).get? s.heap.objs.size = some (seqObj "list" #[] 0) := Heap.get?_push_size _ rfl
  unfold Builtin.List.listExtendWith
  refine wpAny_bind (wpAny_typeOf (T := "tuple") ⟨o, up, hc⟩ ?_)
  rw [if_pos (by rw [show (Value.type "tuple" == Value.type "tuple") = true from rfl, Bool.or_true])]
  refine wpAny_bind (listItems_at up hd ?_)
  refine wpAny_bind (listItems_at (xs := #[]) (n := 0) nw rfl ?_)
  rw [if_neg (by simp)]
  refine wpAny_bind (listUpdate_at (xs := #[]) (n := 0) nw rfl ?_ (Nat.zero_le _) (by
    show (#[] ++ vs.toArray).size ≤ sizeLine + 1
    have : (#[] ++ vs.toArray).size = vs.length := by simp
    omega))
  refine wpAny_pure ?_
  show wpAny (model prog w) A (do
      match (← load s.heap.objs.size).data with
      | .seq xs _ => pure xs.toList
      | _ => unsupported "internal:collect") Q E _
  refine wpAny_bind (wpAny_load (get?_update_seq nw _) ?_)
  have e : ((#[] : Array Value) ++ vs.toArray).toList = vs := by simp
  show wpAny _ _ (pure ((#[] : Array Value) ++ vs.toArray).toList) Q E _
  rw [e]
  exact wpAny_pure h
open PyProof.Rows SrtO in
theorem sorted_tup {t : Addr} {vs : List Value} {ltv : Value → Value → Bool} {Q : Value → Shared → Prop} (O : Swo ltv) (ht : s.heap.IsTuple t vs.toArray) (hz : vs.length ≤ sizeLine)
    (hS : 2 ≤ vs.length → ∀ (h₁ : Heap) (a : Addr), SortableO prog w A.in1.in1 { s with heap := h₁ } a vs ltv)
    (h : ∀ out : List Value, Srtd ltv out → Stb ltv out vs → Q (.ref (s.heap.objs.size + 1)) { s with heap := sortedAll s.heap vs out.toArray }) : wpAny (model prog w) A (call (.builtin "sorted") [.ref t]) Q E s := by
  refine Calls.call_function_entry kind_sorted plain_sorted entry_sorted (args_sorted1 _) ?_
  unfold Builtin.«sorted»
  refine wpAny_bind (m := checkCount "sorted" 1 1 _) (wpAny_pure ?_)
  refine wpAny_bind (gather_tup ht hz ?_)
  refine wpAny_bind (wpAny_newList ?_ hz)
  obtain ⟨h2, e2⟩ : ∃ h2 : Heap, (s.heap.push (seqObj "list" #[] 0)).update s.heap.objs.size (Obj.mapSeq (· ++ vs.toArray)) = h2 := ⟨_, rfl⟩
  have n2 : h2.objs.size = s.heap.objs.size + 1 := by rw [← e2, Heap.size_update, size_push']
  have at2 : (h2.push (seqObj "list" vs.toArray 0)).get? (s.heap.objs.size + 1) = some (seqObj "list" vs.toArray 0) := by
    rw [← n2]
    exact Heap.get?_push_size _ rfl
  have fin : ∀ out : List Value, Srtd ltv out → Stb ltv out vs → Q (.ref (s.heap.objs.size + 1)) { s with heap := sortedHeap (h2.push (seqObj "list" vs.toArray 0)) (s.heap.objs.size + 1) vs out.toArray } := fun out a b => by
    rw [← e2]
    exact h out a b
  rw [e2]
  show wpAny _ _ _ _ _ { s with heap := h2.push (seqObj "list" vs.toArray 0) }
  rw [n2]
  refine wpAny_bind (wpAny_holding (wpAny_call_entry slot_list_sort ⟨_, at2, rfl⟩ entry_list_sort (list_sort_ord O at2 hz (fun q => hS q _ _) fun out a b => ⟨_, rfl, ?_⟩) (args_list_sort _)))
  exact wpAny_pure ⟨_, rfl, fin out a b⟩
end
/-- sorted(t), t a tuple of ints -/
def rSortTI (K : PySem.W.Frag) : List V → Hp → VK → Prop := fun vs H Q => ∃ (a : Addr) (ns : List Int), vs = [V.ref a] ∧ SqT K H a (ns.map V.int) ∧
  ∀ (ns' : List Int) (p : Addr), ns'.Perm ns → ns'.Pairwise (· ≤ ·) → H p = none → Q (.ref p) (upd H p (.lst (ns'.map V.int)))
theorem cr_sortTI {X : Cx} : CallR X (.builtin "sorted") (rSortTI X.K) := by
  intro pins s σ H vs us Q I r h
  obtain ⟨a, ns, rfl, hs, q⟩ := h
  obtain ⟨its, rv, ht, hz⟩ := I.tuple hs
  rw [Vals.ref1 r]
  have hi := rv.ints
  have hz2 : its.length ≤ sizeLine := by rw [← rv.length]; exact hz
  refine sorted_tup SrtO.swo_int ht hz2 (fun h2 h₁ a' => SrtO.ints_sortable hi h2) fun out h1 h2 => ?_
  obtain ⟨k1, k2, k3⟩ := SrtO.ints_out hi h1 h2
  obtain ⟨ep, he'⟩ := PyProof.Rows.sortedAll_at s.heap its out.toArray
  refine ⟨.ref _, upd H (s.heap.objs.size + 1) (.lst ((out.map SrtO.iv).map V.int)), I.laid (t' := s.toks) (fun _ _ => PyProof.Rows.sortedAll_old) (Nat.le_succ _) ⟨?_, out, ep, vals_of_ints k1, he'⟩, rfl, q _ _ k2 k3 (I.hok.fresh (Nat.le_succ _))⟩
  rw [List.length_map, k2.length_eq]
  rw [List.length_map] at hz
  exact hz
end DL

set_option Elab.async false
set_option maxRecDepth 100000
namespace DL
open PySem PySem.Spec PyProof.Rows L2
/-! ### a walk over a list or a tuple, whichever it is -/
/-- at a: a list or a tuple -/
def SqA (K : PySem.W.Frag) (H : Hp) (a : Addr) (xs : List V) : Prop := SqL K H a xs ∨ SqT K H a xs
/-! ### two for in one comprehension -/
end DL

set_option Elab.async false
set_option maxRecDepth 100000
namespace DL
open PySem L2 HT TL
/-! ### rows in their order: by their number of pulls, then by their pulls; as numbers -/
def rcode (r : List Int) : Int := r.foldl (fun a d => a * 8 + (d + 1)) 0
theorem rcode_snoc (r : List Int) (d : Int) : rcode (r ++ [d]) = rcode r * 8 + (d + 1) := by
  unfold rcode
  rw [List.foldl_append]
  rfl
theorem rcode_nil : rcode [] = 0 := rfl
def Low7 (r : List Int) : Prop := ∀ d ∈ r, 0 ≤ d ∧ d ≤ 6
theorem snoc_ind {α : Type} {p : List α → Prop} (h0 : p []) (hs : ∀ l a, p l → p (l ++ [a])) (l : List α) : p l := by
  have : ∀ m : List α, p m.reverse := fun m => by
    induction m with
    | nil => exact h0
    | cons a m ih =>
      rw [List.reverse_cons]
      exact hs _ _ ih
  have h := this l.reverse
  rw [List.reverse_reverse] at h
  exact h
theorem Low7.init {r : List Int} {d : Int} (h : Low7 (r ++ [d])) : Low7 r ∧ 0 ≤ d ∧ d ≤ 6 := ⟨fun x hx => h x (List.mem_append_left _ hx), h d (List.mem_append_right _ (List.mem_singleton.mpr rfl))⟩
theorem rcode_nn : ∀ {r : List Int}, Low7 r → 0 ≤ rcode r := by
  intro r
  refine snoc_ind (p := fun r => Low7 r → 0 ≤ rcode r) (fun _ => Int.le_refl _) (fun l a ih h => ?_) r
  obtain ⟨h1, h2, h3⟩ := h.init
  have := ih h1
  rw [rcode_snoc]
  omega
theorem rcode_inj' : ∀ a b : List Int, Low7 a → Low7 b → rcode a = rcode b → a = b := by
  intro a
  refine snoc_ind (p := fun a => ∀ b, Low7 a → Low7 b → rcode a = rcode b → a = b) (fun b _ hb e => ?_) (fun l x ih b ha hb e => ?_) a
  · revert hb e
    refine snoc_ind (p := fun b => Low7 b → rcode [] = rcode b → [] = b) (fun _ _ => rfl) (fun l y _ hb e => ?_) b
    obtain ⟨h1, h2, h3⟩ := hb.init
    have := rcode_nn h1
    rw [rcode_snoc, rcode_nil] at e
    omega
  · obtain ⟨h1, h2, h3⟩ := ha.init
    have p1 := rcode_nn h1
    revert hb e
    refine snoc_ind (p := fun b => Low7 b → rcode (l ++ [x]) = rcode b → l ++ [x] = b) (fun _ e => ?_) (fun m y _ hb e => ?_) b
    · rw [rcode_snoc, rcode_nil] at e
      omega
    · obtain ⟨g1, g2, g3⟩ := hb.init
      have p2 := rcode_nn g1
      rw [rcode_snoc, rcode_snoc] at e
      rw [ih m h1 g1 (by omega), show x = y by omega]
theorem rcode_inj {a b : List Int} (ha : Low7 a) (hb : Low7 b) (h : rcode a = rcode b) : a = b := rcode_inj' a b ha hb h
/-- a row is before another -/
def Bef (a b : List Int) : Prop := rcode a < rcode b ∧ a.length ≤ b.length
/-- rows in order, each behind the first one but one pull longer than one of those ahead of the i-th -/
structure Asc (rs : List (List Int)) (i : Nat) : Prop where
  pw : rs.Pairwise Bef
  low : ∀ x ∈ rs, Low7 x
  par : ∀ x ∈ rs, x = [] ∨ ∃ (j : Nat) (q : List Int) (d : Int), j < i ∧ rs[j]? = some q ∧ x = q ++ [d]
structure AscD (rs : List (List Int)) (i : Nat) (p : List Int) (D : Int) : Prop where
  pw : rs.Pairwise Bef
  low : ∀ x ∈ rs, Low7 x
  at' : rs[i]? = some p
  par : ∀ x ∈ rs, x = [] ∨ (∃ (j : Nat) (q : List Int) (d : Int), j < i ∧ rs[j]? = some q ∧ x = q ++ [d]) ∨ ∃ d : Int, d < D ∧ x = p ++ [d]
theorem AscD.done {rs : List (List Int)} {i : Nat} {p : List Int} {D : Int} (A : AscD rs i p D) : Asc rs (i + 1) := by
  refine ⟨A.pw, A.low, fun x hx => ?_⟩
  rcases A.par x hx with q | ⟨j, q, d, h1, h2, h3⟩ | ⟨d, h1, h2⟩
  · exact .inl q
  · exact .inr ⟨j, q, d, by omega, h2, h3⟩
  · exact .inr ⟨i, p, d, by omega, A.at', h2⟩
theorem AscD.up {rs : List (List Int)} {i : Nat} {p : List Int} {D D' : Int} (A : AscD rs i p D) (h : D ≤ D') : AscD rs i p D' := by
  refine ⟨A.pw, A.low, A.at', fun x hx => ?_⟩
  rcases A.par x hx with q | q | ⟨d, h1, h2⟩
  · exact .inl q
  · exact .inr (.inl q)
  · exact .inr (.inr ⟨d, by omega, h2⟩)
theorem AscD.below {rs : List (List Int)} {i : Nat} {p : List Int} {D d : Int} (A : AscD rs i p D) (hD : D ≤ d) (h0 : 0 ≤ d) : ∀ x ∈ rs, Bef x (p ++ [d]) := by
  intro x hx
  have hp : Low7 p := A.low p (List.mem_of_getElem? A.at')
  have pn := rcode_nn hp
  have lx := A.low x hx
  rcases A.par x hx with rfl | ⟨j, q, e, h1, h2, rfl⟩ | ⟨e, h1, rfl⟩
  · refine ⟨?_, by simp⟩
    rw [rcode_snoc, rcode_nil]
    omega
  · obtain ⟨g1, g2, g3⟩ := lx.init
    obtain ⟨l1, e1⟩ := List.getElem?_eq_some_iff.mp h2
    obtain ⟨l2, e2⟩ := List.getElem?_eq_some_iff.mp A.at'
    have := List.pairwise_iff_getElem.mp A.pw j i l1 l2 h1
    rw [e1, e2] at this
    obtain ⟨b1, b2⟩ := this
    refine ⟨?_, by rw [List.length_append, List.length_append]; exact Nat.add_le_add_right b2 _⟩
    rw [rcode_snoc, rcode_snoc]
    omega
  · refine ⟨?_, by rw [List.length_append, List.length_append]; exact Nat.le_refl _⟩
    rw [rcode_snoc, rcode_snoc]
    omega
theorem AscD.add {rs : List (List Int)} {i : Nat} {p : List Int} {D d : Int} (A : AscD rs i p D) (hD : D ≤ d) (h0 : 0 ≤ d) (h6 : d ≤ 6) : AscD (rs ++ [p ++ [d]]) i p (d + 1) := by
  have hp : Low7 p := A.low p (List.mem_of_getElem? A.at')
  have keep : ∀ (j : Nat) (q : List Int), rs[j]? = some q → (rs ++ [p ++ [d]])[j]? = some q := fun j q h => by
    rw [List.getElem?_append_left (List.getElem?_eq_some_iff.mp h).1]
    exact h
  refine ⟨?_, fun x hx => ?_, keep i p A.at', fun x hx => ?_⟩
  · rw [List.pairwise_append]
    refine ⟨A.pw, List.pairwise_singleton _ _, fun x hx y hy => ?_⟩
    rw [List.mem_singleton.mp hy]
    exact A.below hD h0 x hx
  · rcases List.mem_append.mp hx with hx | hx
    · exact A.low x hx
    · rw [List.mem_singleton.mp hx]
      intro e he
      rcases List.mem_append.mp he with he | he
      · exact hp e he
      · rw [List.mem_singleton.mp he]; exact ⟨h0, h6⟩
  · rcases List.mem_append.mp hx with hx | hx
    · rcases A.par x hx with q | ⟨j, q, e, h1, h2, h3⟩ | ⟨e, h1, h2⟩
      · exact .inl q
      · exact .inr (.inl ⟨j, q, e, h1, keep j q h2, h3⟩)
      · exact .inr (.inr ⟨e, by omega, h2⟩)
    · exact .inr (.inr ⟨d, by omega, List.mem_singleton.mp hx⟩)
/-! ### the pulls that go, one after another -/
theorem drs_pw (n : Nat) : (drs n).Pairwise (· < ·) := by
  unfold drs
  rw [List.pairwise_map]
  exact List.pairwise_lt_range.imp fun h => by omega
theorem free_pw (bs : List Bar) (st : List Bool) : (freeL bs st).Pairwise (· < ·) := (drs_pw st.length).filter _
theorem free_mem {bs : List Bar} {st : List Bool} {d : Int} : d ∈ freeL bs st ↔ (0 ≤ d ∧ d < st.length) ∧ goesB bs st d = true := by
  refine ⟨fun h => ⟨free_in h, (List.mem_filter.mp h).2⟩, fun h => ?_⟩
  refine List.mem_filter.mpr ⟨?_, h.2⟩
  unfold drs
  exact List.mem_map.mpr ⟨d.toNat, List.mem_range.mpr (by omega), by omega⟩
theorem pw_drop {l : List Int} (h : l.Pairwise (· < ·)) {t : Nat} {d : Int} (hd : l[t]? = some d) : (∀ x ∈ l.drop (t + 1), d + 1 ≤ x) ∧ l.drop t = d :: l.drop (t + 1) := by
  obtain ⟨h1, h2⟩ := List.getElem?_eq_some_iff.mp hd
  have e : l.drop t = d :: l.drop (t + 1) := by rw [List.drop_eq_getElem_cons h1, h2]
  refine ⟨fun x hx => ?_, e⟩
  have hp : (l.drop t).Pairwise (· < ·) := List.Pairwise.sublist (List.drop_sublist t l) h
  rw [e, List.pairwise_cons] at hp
  have := hp.1 x hx
  omega
theorem mem_take_succ {α : Type} {l : List α} {t : Nat} {d x : α} (hd : l[t]? = some d) (h : x ∈ l.take (t + 1)) : x ∈ l.take t ∨ x = d := by
  obtain ⟨h1, h2⟩ := List.getElem?_eq_some_iff.mp hd
  rw [List.take_succ_eq_append_getElem h1, h2] at h
  rcases List.mem_append.mp h with h | h
  · exact .inl h
  · exact .inr (List.mem_singleton.mp h)
/-! ### the queue: an entry is a standing and its row -/
abbrev Ent := List Bool × List Int
def Led (bs : List Bar) (s0 : List Bool) (e : Ent) : Prop := runB bs s0 e.2 = some e.1 ∧ (Low7 e.2 ∧ ∀ d ∈ e.2, 0 ≤ d ∧ d < s0.length) ∧ e.1.length = s0.length
theorem runB_snoc {bs : List Bar} : ∀ {r : List Int} {st : List Bool} {d : Int}, runB bs st (r ++ [d]) = (runB bs st r).bind fun s => if goesB bs s d = true then some (flip s d) else none
  | [], st, d => by
    show runB bs st [d] = _
    rw [runB_cons]
    rfl
  | x :: r, st, d => by
    show runB bs st (x :: (r ++ [d])) = _
    rw [runB_cons, runB_cons]
    by_cases q : goesB bs st x = true
    · rw [if_pos q, if_pos q]
      exact runB_snoc
    · rw [if_neg q, if_neg q]
      rfl
theorem Led.step {bs : List Bar} {s0 : List Bool} {p : Ent} {d : Int} (L : Led bs s0 p) (hd : d ∈ freeL bs p.1) (h7 : s0.length ≤ 7) : Led bs s0 (flip p.1 d, p.2 ++ [d]) := by
  obtain ⟨⟨d0, d1⟩, hg⟩ := free_mem.mp hd
  refine ⟨?_, ⟨fun x hx => ?_, fun x hx => ?_⟩, by rw [flip_len]; exact L.2.2⟩
  · show runB bs s0 (p.2 ++ [d]) = _
    rw [runB_snoc, L.1, Option.bind_some, if_pos hg]
  · rcases List.mem_append.mp hx with hx | hx
    · exact L.2.1.1 x hx
    · rw [List.mem_singleton.mp hx]
      have := L.2.2
      omega
  · rcases List.mem_append.mp hx with hx | hx
    · exact L.2.1.2 x hx
    · rw [List.mem_singleton.mp hx]
      have := L.2.2
      omega
structure BI (bs : List Bar) (s0 : List Bool) (i : Nat) (es : List Ent) : Prop where
  nd : (es.map (·.1)).Nodup
  asc : Asc (es.map (·.2)) i
  led : ∀ e ∈ es, Led bs s0 e
  ex : ∀ (j : Nat) (p : Ent), j < i → es[j]? = some p → ∀ d ∈ freeL bs p.1, ∃ e ∈ es, e.1 = flip p.1 d ∧ rcode e.2 ≤ rcode (p.2 ++ [d]) ∧ e.2.length ≤ p.2.length + 1
  root : (s0, []) ∈ es
structure BD (bs : List Bar) (s0 : List Bool) (i : Nat) (p : Ent) (t : Nat) (D : Int) (es : List Ent) : Prop where
  nd : (es.map (·.1)).Nodup
  asc : AscD (es.map (·.2)) i p.2 D
  led : ∀ e ∈ es, Led bs s0 e
  at' : es[i]? = some p
  ex : ∀ (j : Nat) (p : Ent), j < i → es[j]? = some p → ∀ d ∈ freeL bs p.1, ∃ e ∈ es, e.1 = flip p.1 d ∧ rcode e.2 ≤ rcode (p.2 ++ [d]) ∧ e.2.length ≤ p.2.length + 1
  exd : ∀ d ∈ (freeL bs p.1).take t, ∃ e ∈ es, e.1 = flip p.1 d ∧ rcode e.2 ≤ rcode (p.2 ++ [d]) ∧ e.2.length ≤ p.2.length + 1
  dle : ∀ d ∈ (freeL bs p.1).drop t, D ≤ d
  root : (s0, []) ∈ es
theorem BD.done {bs : List Bar} {s0 : List Bool} {i : Nat} {p : Ent} {D : Int} {es : List Ent} (B : BD bs s0 i p (freeL bs p.1).length D es) : BI bs s0 (i + 1) es := by
  refine ⟨B.nd, B.asc.done, B.led, fun j q hj hq => ?_, B.root⟩
  by_cases e : j = i
  · subst e
    rw [B.at'] at hq
    cases hq
    have := B.exd
    rw [List.take_length] at this
    exact this
  · exact B.ex j q (by omega) hq
theorem BD.free {bs : List Bar} {s0 : List Bool} {i : Nat} {p : Ent} {t : Nat} {D : Int} {es : List Ent} (B : BD bs s0 i p t D es) {d : Int} (hd : (freeL bs p.1)[t]? = some d) (h7 : s0.length ≤ 7) :
    d ∈ freeL bs p.1 ∧ D ≤ d ∧ 0 ≤ d ∧ d ≤ 6 := by
  have hm := List.mem_of_getElem? hd
  obtain ⟨d0, d1⟩ := free_in hm
  have := (B.led p (List.mem_of_getElem? B.at')).2.2
  obtain ⟨_, e⟩ := pw_drop (free_pw bs p.1) hd
  exact ⟨hm, B.dle d (by rw [e]; exact List.mem_cons_self), d0, by omega⟩
theorem BD.old {bs : List Bar} {s0 : List Bool} {i : Nat} {p : Ent} {t : Nat} {D : Int} {es : List Ent} (B : BD bs s0 i p t D es) {d : Int} (hd : (freeL bs p.1)[t]? = some d) (h7 : s0.length ≤ 7) (h : flip p.1 d ∈ es.map (·.1)) : BD bs s0 i p (t + 1) (d + 1) es := by
  obtain ⟨hm, hD, d0, d6⟩ := B.free hd h7
  refine ⟨B.nd, B.asc.up (by omega), B.led, B.at', B.ex, fun x hx => ?_, (pw_drop (free_pw bs p.1) hd).1, B.root⟩
  rcases mem_take_succ hd hx with hx | rfl
  · exact B.exd x hx
  · obtain ⟨e, he, h1⟩ := List.mem_map.mp h
    obtain ⟨b1, b2⟩ := B.asc.below hD d0 e.2 (List.mem_map.mpr ⟨e, he, rfl⟩)
    rw [List.length_append] at b2
    exact ⟨e, he, h1, Int.le_of_lt b1, b2⟩
theorem BD.new {bs : List Bar} {s0 : List Bool} {i : Nat} {p : Ent} {t : Nat} {D : Int} {es : List Ent} (B : BD bs s0 i p t D es) {d : Int} (hd : (freeL bs p.1)[t]? = some d) (h7 : s0.length ≤ 7) (h : ¬ flip p.1 d ∈ es.map (·.1)) : BD bs s0 i p (t + 1) (d + 1) (es ++ [(flip p.1 d, p.2 ++ [d])]) := by
  obtain ⟨hm, hD, d0, d6⟩ := B.free hd h7
  have mono : ∀ {e : Ent}, e ∈ es → e ∈ es ++ [(flip p.1 d, p.2 ++ [d])] := fun he => List.mem_append_left _ he
  refine ⟨?_, ?_, fun e he => ?_, ?_, fun j q hj hq x hx => ?_, fun x hx => ?_, (pw_drop (free_pw bs p.1) hd).1, mono B.root⟩
  · rw [List.map_append, List.nodup_append]
    refine ⟨B.nd, by simp, fun x hx y hy => ?_⟩
    rw [List.mem_singleton.mp hy]
    intro z
    have z' : x = flip p.1 d := z
    rw [z'] at hx
    exact h hx
  · rw [List.map_append]
    exact B.asc.add hD d0 d6
  · rcases List.mem_append.mp he with he | he
    · exact B.led e he
    · rw [List.mem_singleton.mp he]
      exact (B.led p (List.mem_of_getElem? B.at')).step hm h7
  · rw [List.getElem?_append_left (List.getElem?_eq_some_iff.mp B.at').1]
    exact B.at'
  · have hq' : es[j]? = some q := by
      have := (List.getElem?_eq_some_iff.mp B.at').1
      rw [List.getElem?_append_left (by omega)] at hq
      exact hq
    obtain ⟨e, he, h1⟩ := B.ex j q hj hq' x hx
    exact ⟨e, mono he, h1⟩
  · rcases mem_take_succ hd hx with hx | rfl
    · obtain ⟨e, he, h1⟩ := B.exd x hx
      exact ⟨e, mono he, h1⟩
    · exact ⟨_, List.mem_append_right _ (List.mem_singleton.mpr rfl), rfl, Int.le_refl _, by rw [List.length_append]; exact Nat.le_refl _⟩
/-- every row that goes ends where an entry stands whose row is not behind it -/
theorem BI.opt {bs : List Bar} {s0 : List Bool} {es : List Ent} (B : BI bs s0 es.length es) (h7 : s0.length ≤ 7) : ∀ (r : List Int), (∀ d ∈ r, 0 ≤ d ∧ d < s0.length) → ∀ st, runB bs s0 r = some st → ∃ e ∈ es, e.1 = st ∧ rcode e.2 ≤ rcode r ∧ e.2.length ≤ r.length := by
  intro r
  refine snoc_ind (p := fun (r : List Int) => (∀ d ∈ r, 0 ≤ d ∧ d < s0.length) → ∀ st, runB bs s0 r = some st → ∃ e ∈ es, e.1 = st ∧ rcode e.2 ≤ rcode r ∧ e.2.length ≤ r.length) (fun _ st h => ?_) (fun l d ih hl st h => ?_) r
  · cases h
    exact ⟨_, B.root, rfl, Int.le_refl _, Nat.le_refl _⟩
  · rw [runB_snoc] at h
    cases hr : runB bs s0 l with
    | none => rw [hr] at h; cases h
    | some s1 =>
      rw [hr, Option.bind_some] at h
      by_cases hg : goesB bs s1 d = true
      · rw [if_pos hg] at h
        cases h
        obtain ⟨e, he, h1, h2, h3⟩ := ih (fun x hx => hl x (List.mem_append_left _ hx)) s1 hr
        obtain ⟨j, hj⟩ := List.getElem?_of_mem he
        have el := (B.led e he).2.2
        have hdm : d ∈ freeL bs e.1 := free_mem.mpr ⟨by have := hl d (List.mem_append_right _ (List.mem_singleton.mpr rfl)); omega, by rw [h1]; exact hg⟩
        obtain ⟨f, hf, g1, g2, g3⟩ := B.ex j e (List.getElem?_eq_some_iff.mp hj).1 hj d hdm
        refine ⟨f, hf, by rw [g1, h1], ?_, ?_⟩
        · rw [rcode_snoc] at g2 ⊢
          omega
        · rw [List.length_append]
          show f.2.length ≤ l.length + 1
          omega
      · rw [if_neg hg] at h
        cases h
/-! ### there are not many standings -/
end DL

set_option Elab.async false
set_option maxRecDepth 100000
namespace DL
open PySem L2 HT TL
/-! ### a dict that is made within a for's head is read only from then on -/
/-! ### rows in a dict -/
abbrev KEnt := Addr × Ent
def kvsOf (ks : List KEnt) : List (Key × V) := ks.map fun k => (.inr (sstr k.2.1), .ref k.1)
structure RowsEl (H : Hp) (ks : List KEnt) : Prop where
  el : ∀ k ∈ ks, H k.1 = some (.tup (k.2.2.map V.int))
theorem RowsEl.same {H H' : Hp} {ks : List KEnt} (R : RowsEl H ks) (s : Same H H') : RowsEl H' ks := ⟨fun k hk => s _ _ (R.el k hk)⟩
end DL

set_option Elab.async false
set_option maxRecDepth 100000
namespace DL
open PySem L2 HT TL
/-! ### all rows, one pull longer at each turn; the first one that leads to a standing -/
theorem nd_eq {es : List Ent} (nd : (es.map (·.1)).Nodup) : ∀ {a b : Ent}, a ∈ es → b ∈ es → a.1 = b.1 → a = b := by
  induction es with
  | nil => intro a b ha; cases ha
  | cons x es ih =>
    intro a b ha hb e
    rw [List.map_cons, List.nodup_cons] at nd
    rcases List.mem_cons.mp ha with qa | ha'
    · rcases List.mem_cons.mp hb with qb | hb'
      · rw [qa, qb]
      · have hm : x.1 ∈ es.map (·.1) := List.mem_map.mpr ⟨b, hb', by rw [← e, qa]⟩
        exact absurd hm nd.1
    · rcases List.mem_cons.mp hb with qb | hb'
      · have hm : x.1 ∈ es.map (·.1) := List.mem_map.mpr ⟨a, ha', by rw [e, qb]⟩
        exact absurd hm nd.1
      · exact ih nd.2 ha' hb' e
structure LI (bs : List Bar) (s0 : List Bool) (i : Nat) (cat fst : List Ent) : Prop where
  asc : Asc (cat.map (·.2)) i
  led : ∀ e ∈ cat, Led bs s0 e
  ex : ∀ (j : Nat) (p : Ent), j < i → cat[j]? = some p → ∀ d ∈ freeL bs p.1, (flip p.1 d, p.2 ++ [d]) ∈ cat
  root : (s0, []) ∈ cat
  fnd : (fst.map (·.1)).Nodup
  fin : ∀ e ∈ fst, e ∈ cat
  fco : ∀ x ∈ cat, ∃ e ∈ fst, e.1 = x.1 ∧ rcode e.2 ≤ rcode x.2
structure LD (bs : List Bar) (s0 : List Bool) (i : Nat) (p : Ent) (t : Nat) (D : Int) (cat fst : List Ent) : Prop where
  asc : AscD (cat.map (·.2)) i p.2 D
  led : ∀ e ∈ cat, Led bs s0 e
  at' : cat[i]? = some p
  ex : ∀ (j : Nat) (p : Ent), j < i → cat[j]? = some p → ∀ d ∈ freeL bs p.1, (flip p.1 d, p.2 ++ [d]) ∈ cat
  exd : ∀ d ∈ (freeL bs p.1).take t, (flip p.1 d, p.2 ++ [d]) ∈ cat
  dle : ∀ d ∈ (freeL bs p.1).drop t, D ≤ d
  root : (s0, []) ∈ cat
  fnd : (fst.map (·.1)).Nodup
  fin : ∀ e ∈ fst, e ∈ cat
  fco : ∀ x ∈ cat, ∃ e ∈ fst, e.1 = x.1 ∧ rcode e.2 ≤ rcode x.2
theorem LD.done {bs : List Bar} {s0 : List Bool} {i : Nat} {p : Ent} {D : Int} {cat fst : List Ent} (B : LD bs s0 i p (freeL bs p.1).length D cat fst) : LI bs s0 (i + 1) cat fst := by
  refine ⟨B.asc.done, B.led, fun j q hj hq => ?_, B.root, B.fnd, B.fin, B.fco⟩
  by_cases e : j = i
  · subst e
    rw [B.at'] at hq
    cases hq
    have := B.exd
    rw [List.take_length] at this
    exact this
  · exact B.ex j q (by omega) hq
theorem LD.free {bs : List Bar} {s0 : List Bool} {i : Nat} {p : Ent} {t : Nat} {D : Int} {cat fst : List Ent} (B : LD bs s0 i p t D cat fst) {d : Int} (hd : (freeL bs p.1)[t]? = some d) (h7 : s0.length ≤ 7) :
    d ∈ freeL bs p.1 ∧ D ≤ d ∧ 0 ≤ d ∧ d ≤ 6 := by
  have hm := List.mem_of_getElem? hd
  obtain ⟨d0, d1⟩ := free_in hm
  have := (B.led p (List.mem_of_getElem? B.at')).2.2
  obtain ⟨_, e⟩ := pw_drop (free_pw bs p.1) hd
  exact ⟨hm, B.dle d (by rw [e]; exact List.mem_cons_self), d0, by omega⟩
def addF (fst : List Ent) (e : Ent) : List Ent := if e.1 ∈ fst.map (·.1) then fst else fst ++ [e]
theorem LD.add {bs : List Bar} {s0 : List Bool} {i : Nat} {p : Ent} {t : Nat} {D : Int} {cat fst : List Ent} (B : LD bs s0 i p t D cat fst) {d : Int} (hd : (freeL bs p.1)[t]? = some d) (h7 : s0.length ≤ 7) :
    LD bs s0 i p (t + 1) (d + 1) (cat ++ [(flip p.1 d, p.2 ++ [d])]) (addF fst (flip p.1 d, p.2 ++ [d])) := by
  obtain ⟨hm, hD, d0, d6⟩ := B.free hd h7
  have mono : ∀ {e : Ent}, e ∈ cat → e ∈ cat ++ [(flip p.1 d, p.2 ++ [d])] := fun he => List.mem_append_left _ he
  have last : (flip p.1 d, p.2 ++ [d]) ∈ cat ++ [(flip p.1 d, p.2 ++ [d])] := List.mem_append_right _ (List.mem_singleton.mpr rfl)
  have fsub : ∀ {e : Ent}, e ∈ fst → e ∈ addF fst (flip p.1 d, p.2 ++ [d]) := fun he => by
    unfold addF
    by_cases z : (flip p.1 d, p.2 ++ [d]).1 ∈ fst.map (·.1)
    · rw [if_pos z]; exact he
    · rw [if_neg z]; exact List.mem_append_left _ he
  refine ⟨?_, fun e he => ?_, ?_, fun j q hj hq x hx => ?_, fun x hx => ?_, (pw_drop (free_pw bs p.1) hd).1, mono B.root, ?_, fun e he => ?_, fun x hx => ?_⟩
  · rw [List.map_append]
    exact B.asc.add hD d0 d6
  · rcases List.mem_append.mp he with he | he
    · exact B.led e he
    · rw [List.mem_singleton.mp he]
      exact (B.led p (List.mem_of_getElem? B.at')).step hm h7
  · rw [List.getElem?_append_left (List.getElem?_eq_some_iff.mp B.at').1]
    exact B.at'
  · have hq' : cat[j]? = some q := by
      have := (List.getElem?_eq_some_iff.mp B.at').1
      rw [List.getElem?_append_left (by omega)] at hq
      exact hq
    exact mono (B.ex j q hj hq' x hx)
  · rcases mem_take_succ hd hx with hx | rfl
    · exact mono (B.exd x hx)
    · exact last
  · unfold addF
    by_cases z : (flip p.1 d, p.2 ++ [d]).1 ∈ fst.map (·.1)
    · rw [if_pos z]; exact B.fnd
    · rw [if_neg z, List.map_append, List.nodup_append]
      refine ⟨B.fnd, by simp, fun x hx y hy q => ?_⟩
      have e1 : y = (flip p.1 d, p.2 ++ [d]).1 := List.mem_singleton.mp hy
      rw [← e1, ← q] at z
      exact z hx
  · unfold addF at he
    by_cases z : (flip p.1 d, p.2 ++ [d]).1 ∈ fst.map (·.1)
    · rw [if_pos z] at he; exact mono (B.fin e he)
    · rw [if_neg z] at he
      rcases List.mem_append.mp he with he | he
      · exact mono (B.fin e he)
      · rw [List.mem_singleton.mp he]; exact last
  · rcases List.mem_append.mp hx with hx | hx
    · obtain ⟨e, he, h1⟩ := B.fco x hx
      exact ⟨e, fsub he, h1⟩
    · rw [List.mem_singleton.mp hx]
      by_cases z : (flip p.1 d, p.2 ++ [d]).1 ∈ fst.map (·.1)
      · obtain ⟨e, he, h1⟩ := List.mem_map.mp z
        have := (B.asc.below hD d0 e.2 (List.mem_map.mpr ⟨e, B.fin e he, rfl⟩)).1
        exact ⟨e, fsub he, h1, Int.le_of_lt this⟩
      · refine ⟨_, ?_, rfl, Int.le_refl _⟩
        unfold addF
        rw [if_neg z]
        exact List.mem_append_right _ (List.mem_singleton.mpr rfl)
/-- those from the i-th on have k pulls, none has more -/
structure LV (k i : Nat) (cat : List Ent) : Prop where
  le : ∀ x ∈ cat, x.2.length ≤ k
  eq : ∀ x ∈ cat.drop i, x.2.length = k
theorem LI.all {bs : List Bar} {s0 : List Bool} {i k : Nat} {cat fst : List Ent} (B : LI bs s0 i cat fst) (V : LV k i cat) : ∀ (r : List Int), (∀ d ∈ r, 0 ≤ d ∧ d < s0.length) → r.length ≤ k → ∀ st, runB bs s0 r = some st → (st, r) ∈ cat := by
  intro r
  refine snoc_ind (p := fun (r : List Int) => (∀ d ∈ r, 0 ≤ d ∧ d < s0.length) → r.length ≤ k → ∀ st, runB bs s0 r = some st → (st, r) ∈ cat) (fun _ _ st h => ?_) (fun l d ih hl hk st h => ?_) r
  · cases h
    exact B.root
  · rw [List.length_append] at hk
    have hk : l.length + 1 ≤ k := hk
    rw [runB_snoc] at h
    cases hr : runB bs s0 l with
    | none => rw [hr] at h; cases h
    | some s1 =>
      rw [hr, Option.bind_some] at h
      by_cases hg : goesB bs s1 d = true
      · rw [if_pos hg] at h
        cases h
        have hm := ih (fun x hx => hl x (List.mem_append_left _ hx)) (by omega) s1 hr
        obtain ⟨j, hj⟩ := List.getElem?_of_mem hm
        have el := (B.led _ hm).2.2
        have el : s1.length = s0.length := el
        have hji : j < i := by
          rcases Nat.lt_or_ge j i with h | h
          · exact h
          · have : (s1, l) ∈ cat.drop i := by
              have e : (cat.drop i)[j - i]? = some (s1, l) := by
                rw [List.getElem?_drop, show i + (j - i) = j by omega]
                exact hj
              exact List.mem_of_getElem? e
            have := V.eq _ this
            have : l.length = k := this
            omega
        exact B.ex j _ hji hj d (free_mem.mpr ⟨by have := hl d (List.mem_append_right _ (List.mem_singleton.mpr rfl)); show 0 ≤ d ∧ d < s1.length; omega, hg⟩)
      · rw [if_neg hg] at h
        cases h
/-! ### a standing as a pattern -/
end DL

set_option Elab.async false
set_option maxRecDepth 100000

set_option Elab.async false
set_option maxRecDepth 100000
namespace DL
open PySem L2 HT TL
/-! ### two queues that came to their end hold the same -/
theorem sub_asc {es es' : List Ent} (h1 : (es.map (·.2)).Pairwise Bef) (h2 : (es'.map (·.2)).Pairwise Bef) (hs : ∀ e, e ∈ es ↔ e ∈ es') : es = es' := by
  induction es generalizing es' with
  | nil =>
    cases es' with
    | nil => rfl
    | cons b es' => exact absurd ((hs b).mpr List.mem_cons_self) (by simp)
  | cons a es ih =>
    cases es' with
    | nil => exact absurd ((hs a).mp List.mem_cons_self) (by simp)
    | cons b es' =>
      rw [List.map_cons, List.pairwise_cons] at h1 h2
      have hab : a = b := by
        rcases List.mem_cons.mp ((hs a).mp List.mem_cons_self) with q | q
        · exact q
        · rcases List.mem_cons.mp ((hs b).mpr List.mem_cons_self) with q' | q'
          · exact q'.symm
          · have z1 := (h1.1 b.2 (List.mem_map.mpr ⟨b, q', rfl⟩)).1
            have z2 := (h2.1 a.2 (List.mem_map.mpr ⟨a, q, rfl⟩)).1
            omega
      subst hab
      congr 1
      refine ih h1.2 h2.2 fun e => ⟨fun he => ?_, fun he => ?_⟩
      · rcases List.mem_cons.mp ((hs e).mp (List.mem_cons_of_mem _ he)) with q | q
        · have z1 := (h1.1 e.2 (List.mem_map.mpr ⟨e, he, rfl⟩)).1
          rw [q] at z1
          omega
        · exact q
      · rcases List.mem_cons.mp ((hs e).mpr (List.mem_cons_of_mem _ he)) with q | q
        · have z1 := (h2.1 e.2 (List.mem_map.mpr ⟨e, he, rfl⟩)).1
          rw [q] at z1
          omega
        · exact q
theorem BI.sub {bs : List Bar} {s0 : List Bool} {es es' : List Ent} (I : BI bs s0 es.length es) (I' : BI bs s0 es'.length es') (h7 : s0.length ≤ 7) {e : Ent} (he : e ∈ es) : e ∈ es' := by
  obtain ⟨m1, ⟨m2, m3⟩, m4⟩ := I.led e he
  obtain ⟨f, hf, g1, g2, _⟩ := I'.opt h7 e.2 m3 e.1 m1
  obtain ⟨n1, ⟨n2, n3⟩, n4⟩ := I'.led f hf
  obtain ⟨e', he', k1, k2, _⟩ := I.opt h7 f.2 n3 f.1 n1
  have : e' = e := nd_eq I.nd he' he (by rw [k1, g1])
  subst this
  have : f = e' := Prod.ext g1 (rcode_inj n2 m2 (by omega))
  rw [← this]
  exact hf
theorem BI.same {bs : List Bar} {s0 : List Bool} {es es' : List Ent} (I : BI bs s0 es.length es) (I' : BI bs s0 es'.length es') (h7 : s0.length ≤ 7) : es = es' :=
  sub_asc I.asc.pw I'.asc.pw fun _ => ⟨I.sub I' h7, I'.sub I h7⟩
/-! ### sorted texts -/
/-! ### (len(a), a) < (len(b), b) -/
end DL

set_option Elab.async false
set_option maxRecDepth 100000

set_option Elab.async false
set_option maxRecDepth 100000

set_option Elab.async false
set_option maxRecDepth 100000
namespace DL
open PySem L2 HT TL RZ
/-! ### patterns of sets -/
theorem SqA.same {K : PySem.W.Frag} {H H' : Hp} {a : Addr} {xs : List V} (s : Same H H') (h : SqA K H a xs) : SqA K H' a xs := by
  rcases h with h | h
  · exact .inl (s.seq h)
  · exact .inr (SqT.same s h)
end DL

set_option Elab.async false
set_option maxRecDepth 100000
namespace DL
open PySem L2 HT TL
/-! ### walks over a dict of rows -/
/-- a dict of rows, locked from its making on -/
structure RowsFrz (H : Hp) (a : Addr) (od : Obj) (ks : List KEnt) : Prop where
  at' : H a = some (.frz od (.dK (kvsOf ks)))
  el : RowsEl H ks
theorem RowsFrz.same {H H' : Hp} {a : Addr} {od : Obj} {ks : List KEnt} (R : RowsFrz H a od ks) (s : Same H H') : RowsFrz H' a od ks := ⟨s _ _ R.at', R.el.same s⟩
theorem RowsFrz.but {r sc : Addr} {H H' : Hp} {a : Addr} {od : Obj} {ks : List KEnt} (R : RowsFrz H a od ks) (hR : RowOk H r sc) (B : But r H H') : RowsFrz H' a od ks := by
  obtain ⟨_, _, _, h, _⟩ := hR.h
  exact ⟨B _ _ (ne_of R.at' h (by intro z; cases z)) R.at', ⟨fun k hk => B.tup h (R.el.el k hk)⟩⟩
end DL

set_option Elab.async false
set_option maxRecDepth 100000
namespace DL
open PySem L2 HT TL RZ
structure PairsAt (H : Hp) (qs : List (Addr × Int × Int)) : Prop where
  el : ∀ q ∈ qs, H q.1 = some (.tup [.int q.2.1, .int q.2.2])
theorem PairsAt.same {H H' : Hp} {qs : List (Addr × Int × Int)} (A : PairsAt H qs) (s : Same H H') : PairsAt H' qs := ⟨fun q hq => s _ _ (A.el q hq)⟩
def never (es : List Ent) (p : Int × Int) : Bool := !(es.any fun e => sat e.1 p.1 && sat e.1 p.2)
end DL

set_option Elab.async false
set_option maxRecDepth 100000
set_option maxHeartbeats 1000000

set_option Elab.async false
set_option maxRecDepth 100000
set_option maxHeartbeats 1000000

set_option Elab.async false
set_option maxRecDepth 100000
set_option maxHeartbeats 1000000
namespace DL
open PySem L2 HT TL RZ
/-! ### the law's tables -/
def iJ (J : It) : TI := fun _ H R => R J H
theorem for_itJ {J : It} {n : Nat} {Gd : Hp → Prop} {Y : Nat → Hp → V → Hp → Prop} {g : TG} {tb : TS} {D : Ends} {σ : L2.St} {H : Hp} (wk : Walk J n Gd Y) (Pv : Nat → L2.St → Hp → Prop) (p0 : Pv 0 σ H) (pG : ∀ i σ' H', i ≤ n → Pv i σ' H' → Gd H')
    (ps : ∀ i x σ' H1 H2, i < n → Pv i σ' H1 → Y i H1 x H2 → g x σ' H2 fun σ3 H3 => tb { D with nx := Pv (i + 1), ct := Pv (i + 1), bk := D.nx } σ3 H3) (pd : ∀ σ' H', Pv n σ' H' → D.nx σ' H') : tFor (iJ J) g tb D σ H :=
  for_it wk Pv p0 pG ps pd
end DL

set_option Elab.async false
set_option maxRecDepth 100000
set_option maxHeartbeats 2000000
namespace DL
open PySem PySem.Spec PyProof.Rows L2 HT TL
/-! ### costs, orders, seen things that are none -/
def big30 : Int := 1000000000000000000000000000000
def costB : V → Bool
  | .int i => decide (0 ≤ i) && decide (i ≤ big30)
  | _ => false
structure spIsCosts (K : PySem.W.Frag) (vs : List V) (H : Hp) (Q : VK) (_ : XK) : Prop where
  h : ∃ (n : Int) (v : V), vs = [.int n, v] ∧ ((∃ t : Value, TyX K H v t ∧ PySem.W.kitOne K t (.type "tuple") = some false ∧ Q (.bl false) H) ∨
    ∃ (a : Addr) (xs : List V), v = .ref a ∧ SqT K H a xs ∧ xs.length ≤ 1000 ∧ (∀ x ∈ xs, scV x = true) ∧ ∀ H', Same H H' → Q (.bl (decide ((xs.length : Int) = n) && xs.all costB)) H')
theorem spIsInt_sc {K : PySem.W.Frag} {x : V} {H : Hp} {Q : VK} {E : XK} (hx : scV x = true) (k : ∀ b, (∀ i, x = .int i → b = true) → ((∀ i, x ≠ .int i) → b = false) → Q (.bl b) H) : spIsInt K [x] H Q E := by
  cases x with
  | int i => exact ⟨⟨.int i, .type "int", true, false, rfl, .base (.int i), kit_ty (by decide +kernel), kit_ty (by decide +kernel), k true (fun _ _ => rfl) (fun z => absurd rfl (z i))⟩⟩
  | non => exact ⟨⟨.non, .type "NoneType", false, false, rfl, .base .non, kit_ty (by decide +kernel), kit_ty (by decide +kernel), k false (fun _ z => by cases z) fun _ => rfl⟩⟩
  | bl b => exact ⟨⟨.bl b, .type "bool", true, true, rfl, .base (.bl b), kit_ty (by decide +kernel), kit_ty (by decide +kernel), k false (fun _ z => by cases z) fun _ => rfl⟩⟩
  | str z => exact ⟨⟨.str z, .type "str", false, false, rfl, .base (.str z), kit_ty (by decide +kernel), kit_ty (by decide +kernel), k false (fun _ z => by cases z) fun _ => rfl⟩⟩
  | _ => cases hx
/-- costs that are none, costs -/
def BadCo (K : PySem.W.Frag) (H : Hp) (n : Int) (v : V) : Prop := (∃ t : Value, (∀ H', Same H H' → TyX K H' v t) ∧ PySem.W.kitOne K t (.type "tuple") = some false) ∨
  ∃ (a : Addr) (xs : List V), v = .ref a ∧ SqT K H a xs ∧ xs.length ≤ 1000 ∧ (∀ x ∈ xs, scV x = true) ∧ (decide ((xs.length : Int) = n) && xs.all costB) = false
def GoodCo (K : PySem.W.Frag) (H : Hp) (n : Int) (v : V) : Prop := ∃ (a : Addr) (xs : List V), v = .ref a ∧ SqT K H a xs ∧ xs.length ≤ 1000 ∧ (∀ x ∈ xs, scV x = true) ∧ (decide ((xs.length : Int) = n) && xs.all costB) = true
structure spCkCo (K : PySem.W.Frag) (C CE : Addr) (vs : List V) (H : Hp) (Q : VK) (E : XK) : Prop where
  h : ∃ (c : Addr) (v : V) (n : Int) (t : Addr), vs = [.ref c, v] ∧ CabAt C H c n t ∧ ((BadCo K H n v ∧ ∀ H', Same H H' → E (.ref CE) none H') ∨ (GoodCo K H n v ∧ ∀ H', Same H H' → Q .non H'))
/-- orders that are none -/
def BadOr (K : PySem.W.Frag) (H : Hp) (n : Int) (v : V) : Prop := (∃ t : Value, (∀ H', Same H H' → TyX K H' v t) ∧ PySem.W.kitOne K t (.type "tuple") = some false) ∨
  ∃ (a : Addr) (xs : List V), v = .ref a ∧ SqT K H a xs ∧ xs.length ≤ 1000 ∧ (∀ x ∈ xs, scV x = true) ∧ (xs.all (isD n) = false ∨ ((xs.length : Int) ≠ n ∧ ∃ ns : List Int, xs = ns.map V.int))
structure spIsOr (K : PySem.W.Frag) (vs : List V) (H : Hp) (Q : VK) (_ : XK) : Prop where
  h : ∃ (n : Int) (v : V), vs = [.int n, v] ∧ 0 ≤ n ∧ n ≤ 7 ∧ BadOr K H n v ∧ ∀ H', Same H H' → Q (.bl false) H'
structure spCkOr (K : PySem.W.Frag) (C CE : Addr) (vs : List V) (H : Hp) (_ : VK) (E : XK) : Prop where
  h : ∃ (c : Addr) (v : V) (n : Int) (t : Addr), vs = [.ref c, v] ∧ 0 ≤ n ∧ n ≤ 7 ∧ CabAt C H c n t ∧ BadOr K H n v ∧ ∀ H', Same H H' → E (.ref CE) none H'
/-- seen things that are none: none at all, or the first wrong one behind good ones -/
def SqP (K : PySem.W.Frag) (H : Hp) (l : Addr) (xs : List V) : Prop := H l = some (.lst xs) ∨ SqT K H l xs
inductive BadSe (K : PySem.W.Frag) (H : Hp) (n : Int) : V → V → Prop
  | ty {v : V} {t : Value} : (∀ H', Same H H' → TyX K H' v t) → PySem.W.kitAny K t [.type "list", .type "tuple"] = some false → BadSe K H n v .non
  | long {l : Addr} {xs : List V} : SqP K H l xs → 60 < xs.length → BadSe K H n (.ref l) .non
  | at_ {l : Addr} {k : Nat} {x : V} {post : List V} : SqP K H l (List.replicate k .non ++ x :: post) → k + 1 + post.length ≤ 60 → x ≠ .non → (scV x = true ∧ isD n x = false ∨ ∃ (a : Addr) (t : Value), x = .ref a ∧ (∀ H', Same H H' → TyX K H' x t) ∧ PySem.W.kitOne K t (.type "int") = some false ∧ PySem.W.kitOne K t (.type "bool") = some false) → BadSe K H n (.ref l) (.int k)
structure spCkSe (K : PySem.W.Frag) (C CE : Addr) (vs : List V) (H : Hp) (_ : VK) (E : XK) : Prop where
  h : ∃ (c : Addr) (v x : V) (n : Int) (t : Addr), vs = [.ref c, v] ∧ CabAt C H c n t ∧ BadSe K H n v x ∧ ∀ H', Same H H' → exIni CE "index" x H' E
def iOr9 (a b : TI) : TI := fun σ H R => a σ H R ∨ b σ H R
theorem pi_or9 {X : Cx} {tg e : Expr} {a b : TI} (ha : PI X tg e a) (hb : PI X tg e b) : PI X tg e (iOr9 a b) := ⟨fun pins s σ H R I h => h.elim (ha.run pins s σ H R I) (hb.run pins s σ H R I)⟩
theorem kit_l9 {K : PySem.W.Frag} : PySem.W.kitAny K (.type "list") [.type "list", .type "tuple"] = some true := by
  have q : PySem.W.kitOne K (.type "list") (.type "list") = some true := kit_ty (by decide +kernel)
  simp [PySem.W.kitAny, q]
theorem kit_t9 {K : PySem.W.Frag} : PySem.W.kitAny K (.type "tuple") [.type "list", .type "tuple"] = some true := by
  have q : PySem.W.kitOne K (.type "tuple") (.type "list") = some false := kit_ty (by decide +kernel)
  have r : PySem.W.kitOne K (.type "tuple") (.type "tuple") = some true := kit_ty (by decide +kernel)
  simp [PySem.W.kitAny, q, r]
theorem SqP.ty {K : PySem.W.Frag} {H : Hp} {l : Addr} {xs : List V} (h : SqP K H l xs) : ∃ tv, TyX K H (.ref l) tv ∧ PySem.W.kitAny K tv [.type "list", .type "tuple"] = some true := by
  rcases h with h | h
  · exact ⟨_, .base (.lst h), kit_l9⟩
  · exact ⟨_, tyT h, kit_t9⟩
theorem SqP.sq {K : PySem.W.Frag} {H : Hp} {l : Addr} {xs : List V} (h : SqP K H l xs) : SqL K H l xs ∨ SqT K H l xs := h.imp SqL.of id
theorem SqP.same {K : PySem.W.Frag} {H H' : Hp} {l : Addr} {xs : List V} (h : SqP K H l xs) (s : Same H H') : SqP K H' l xs := h.imp (fun e => s _ _ e) fun e => SqT.same s e
structure spFew9 (C CT : Addr) (vs : List V) (H : Hp) (Q : VK) (E : XK) : Prop where
  h : ∃ (c t : Addr) (n m : Int), vs = [.ref c, .int m] ∧ CabAt C H c n t ∧ ((m < n ∧ 0 ≤ m ∧ m ≤ 100 ∧ exIni CT "most" (.int m) H E) ∨ (n ≤ m ∧ Q .non H))
section
variable {P : Program} {w : World} {K : PySem.W.Frag} {mg : Str → Option Value} {base : Heap}
abbrev nICo : List Str := ["drawers", "value", "cost"]
theorem scICo : FnScope nICo ["drawers", "value"] (defScope s_is_costs) := ⟨rfl, rfl, rfl, by decide +kernel, rfl, by decide +kernel, by decide +kernel⟩
theorem ok_isCosts {f f1 : Addr} {fd fd1 : FuncData} (F : Fun K "is_costs" "is_costs" s_is_costs f fd) (T : Bt mg) (zA : mg "all" = none) (gM : ∃ t, mg "MOST_COST" = some (.int 1000000000000000000000000000000 t))
    (G : FnOk P w K mg base CX0 1 f1 fd1 ["value"] (spIsInt K)) (g1 : mg "is_integer" = some (.ref f1)) (k1 : PySem.W.keepIn K (.ref f1) = true) (b1 : Binds K fd1 ["value"] []) :
    FnOk P w K mg base CX0 3 f fd ["drawers", "value"] (spIsCosts K) := by
  refine F.ok scICo (fun vs H Q E h => ?_) (fun cdv A outer s H vs Q E hr h => ?_)
  · obtain ⟨n, v, rfl, _⟩ := h.h
    rfl
  · obtain ⟨n, v, rfl, hv⟩ := h.h
    obtain ⟨tM, gMt⟩ := gM
    refine ⟨_, pss_cons (ps_if (PW.pt (pw_or (pt_not (pt_val (pe_callB call_isi (by rfl) T.isinstance (by decide +kernel) (pa_cons (pv 1) (pa_cons (pe_bltn (v := .ty "tuple") (by rfl) T.tuple (by decide +kernel) rfl) pa_nil)))))
        (pw_or1 (pt_cmpR op_ne (pe_callB call_len_seq (by rfl) T.len (by decide +kernel) (pa_cons (pv 1) pa_nil)) (pv 0) (nomark _))))) (pss_one (ps_ret pe_bl)) pss_nil)
      (pss_one (ps_ret (pe_callB (cr_all rfl) (by rfl) zA boot_all_ (pa_cons
          (pe_lc (own := [("cost", 2)]) (g := gName 2) (tt := tYes) (by rfl) scICo.nd (pi_tup (pv 1)) (blkOk_by (N := nICo) (sc := defScope s_is_costs) (by decide +kernel)) (fun _ _ _ _ _ => pg_name (i := 2) scICo.nd rfl (Or.inl rfl)) (fun _ _ _ _ _ => pts_nil)
            (fun _ _ _ _ _ => pe_and (pe_call G (hr.mono (by decide)) rfl g1 k1 b1 .nil pass0 (pa_cons (pv 2) pa_nil)) (pe_one (pe_chain op_le op_le pe_int (pv 2) (pe_glob (v := .int 1000000000000000000000000000000) (by rfl) gMt ⟨_, rfl⟩))))) pa_nil)))), ?_⟩
    rcases hv with ⟨t, hty, hk, k⟩ | ⟨a, xs, rfl, S, hlen, hsc, k⟩
    · exact ⟨_, rfl, _, _, t, _, false, rfl, .ty "tuple", hty, hk, _, rfl, iteT k⟩
    · refine ⟨_, rfl, _, _, _, _, true, rfl, .ty "tuple", tyT S, kit_ty (by decide +kernel), _, rfl, iteF ?_⟩
      refine ⟨_, rfl, a, _, rfl, .inr S, _, rfl, rfl, _, rfl, ?_⟩
      by_cases e : (xs.length : Int) = n
      · rw [decide_eq_true (by rw [e])]
        rw [decide_eq_true e, Bool.true_and] at k
        refine iteF ?_
        refine ⟨_, rfl, a, rfl, ⟨_, S⟩, fun D hD => ?_⟩
        refine lc_pick (walk_tup (K := K) (a := a) (xs := xs)) xs rfl (by omega) (fun _ => true) (fun x => V.bl (costB x)) hD (fun H' s1 => SqT.same s1 S) ?_ ?_
        · rintro i x z H1 H1' Tk Nk ez s1 ⟨rfl, ex⟩ kT kF
          have ex : xs[i]? = some x := ex
          rw [ez] at ex
          cases ex
          refine ⟨rfl, tYes_of (iteT ?_)⟩
          have kT := kT _ rfl (Same.refl _)
          have sc := hsc _ (List.mem_of_getElem? ez)
          refine ⟨_, rfl, spIsInt_sc sc fun b bt bf => ⟨b, rfl, ?_⟩⟩
          cases x with
          | int i =>
            rw [bt i rfl]
            refine iteT ⟨_, rfl, _, _, rfl, rfl, _, rfl, ?_⟩
            have kT : Tk (.bl (decide (0 ≤ i) && decide (i ≤ big30))) H1' := kT
            by_cases q : 0 ≤ i
            · rw [decide_eq_true q] at kT ⊢
              exact iteT ⟨_, _, rfl, rfl, kT⟩
            · rw [decide_eq_false q] at kT ⊢
              exact iteF kT
          | non => rw [bf fun i z => by cases z]; exact iteF kT
          | bl b => rw [bf fun i z => by cases z]; exact iteF kT
          | str z => rw [bf fun i z => by cases z]; exact iteF kT
          | _ => cases sc
        · intro H1 s1 hD1
          rw [List.filter_eq_self.mpr fun _ _ => rfl] at hD1
          refine ⟨D, xs.map costB, rfl, SqL.of (by rw [hD1, List.map_map]; rfl), ?_⟩
          rw [bl_all]
          exact k H1 s1
      · rw [decide_eq_false (fun z => e (by injection z))]
        rw [decide_eq_false e, Bool.false_and] at k
        exact iteT (k H (Same.refl H))
theorem scCCo : FnScope ["cabinet", "costs"] ["cabinet", "costs"] (defScope s_check_costs) := ⟨rfl, rfl, rfl, by decide +kernel, rfl, by decide +kernel, by decide +kernel⟩
theorem ok_ckCosts {f f1 C CE : Addr} {fd fd1 : FuncData} (F : Fun K "check_costs" "check_costs" s_check_costs f fd) (CP : CabP P w K mg base C) (BT : ErrT K mg "BadCosts" CE)
    (G : FnOk P w K mg base CX0 3 f1 fd1 ["drawers", "value"] (spIsCosts K)) (g1 : mg "is_costs" = some (.ref f1)) (k1 : PySem.W.keepIn K (.ref f1) = true) (b1 : Binds K fd1 ["drawers", "value"] []) :
    FnOk P w K mg base (L2.CX P w) 5 f fd ["cabinet", "costs"] (spCkCo K C CE) := by
  refine F.okX scCCo (fun vs H Q E h => ?_) (fun cdv A outer s H vs Q E hr h => ?_)
  · obtain ⟨c, v, n, t, rfl, _⟩ := h.h
    rfl
  · obtain ⟨c, v, n, t, rfl, ⟨dx, hc⟩, hv⟩ := h.h
    obtain ⟨pD, gD, fdD, hpD, GD, bD⟩ := CP.d
    refine ⟨_, pss_one (ps_if (pt_not (pt_val (pe_call G (hr.mono (by decide)) rfl g1 k1 b1 .nil pass0 (pa_cons (pe_prop (pv 0) CP.cl hpD GD (hr.mono (by decide)) bD .nil pass0 rfl) (pa_cons (pv 1) pa_nil)))))
      (pss_one (ps_raise rfl (takes_of rfl rfl rfl rfl) (pmk_own PySem.F.excBase_ValueError BT.x BT.g BT.k (raises_own BT.b BT.t) (by exact rfl)))) pss_nil), ?_⟩
    refine ⟨_, rfl, c, dx, _, rfl, hc, ⟨⟨c, dx, _, t, rfl, hc, _, rfl, ?_⟩⟩⟩
    rcases hv with ⟨⟨t, ty, kt⟩ | ⟨a, xs, rfl, S, l, sc, no⟩, k⟩ | ⟨⟨a, xs, rfl, S, l, sc, yes⟩, k⟩
    · exact ⟨⟨n, v, rfl, .inl ⟨t, ty H (Same.refl H), kt, _, rfl, iteT (k H (Same.refl H))⟩⟩⟩
    · refine ⟨⟨n, _, rfl, .inr ⟨a, xs, rfl, S, l, sc, fun H' s => ⟨_, rfl, ?_⟩⟩⟩⟩
      rw [no]
      exact iteT (k H' s)
    · refine ⟨⟨n, _, rfl, .inr ⟨a, xs, rfl, S, l, sc, fun H' s => ⟨_, rfl, ?_⟩⟩⟩⟩
      rw [yes]
      exact iteF (k H' s)
theorem scFew9 : FnScope ["cabinet", "most"] ["cabinet", "most"] (defScope s_check_few_drawers) := ⟨rfl, rfl, rfl, by decide +kernel, rfl, by decide +kernel, by decide +kernel⟩
theorem ok_few9 {f C CT : Addr} {fd : FuncData} (F : Fun K "check_few_drawers" "check_few_drawers" s_check_few_drawers f fd) (CP : CabP P w K mg base C) (BT : IniT P w K mg base "TooMany" "most" goodI CT) :
    FnOk P w K mg base (L2.CX P w) 4 f fd ["cabinet", "most"] (spFew9 C CT) := by
  refine F.okX scFew9 (fun vs H Q E h => ?_) (fun cdv A outer s H vs Q E hr h => ?_)
  · obtain ⟨c, t, n, m, rfl, _⟩ := h.h
    rfl
  · obtain ⟨c, t, n, m, rfl, ⟨dx, hc⟩, hv⟩ := h.h
    obtain ⟨fI, fdI, i1, i2, GI, bI⟩ := BT.i
    obtain ⟨pD, gD, fdD, hpD, GD, bD⟩ := CP.d
    refine ⟨_, pss_one (ps_if (pt_cmpR op_gt (pe_prop (pv 0) CP.cl hpD GD (hr.mono (by decide)) bD .nil pass0 rfl) (pv 1) (nomark _)) (pss_one (ps_raise rfl (takes_of rfl rfl rfl rfl) (pmk_oex BT.T i1 i2 GI (hr.mono (by decide)) bI .nil pass0 rfl BT.g (pa_cons (pv 1) pa_nil)))) pss_nil), ?_⟩
    refine ⟨_, rfl, c, dx, _, rfl, hc, ⟨⟨c, dx, _, t, rfl, hc, _, rfl, _, _, rfl, rfl, _, rfl, ?_⟩⟩⟩
    rcases hv with ⟨h4, m0, m1, ke⟩ | ⟨h4, k⟩
    · rw [decide_eq_true h4]
      exact iteT ⟨_, rfl, by show 1 ≤ 1000; decide, fun a ha => ini_mk ha (.inr ⟨m, rfl, by omega, by omega⟩) ke⟩
    · rw [decide_eq_false (by omega)]
      exact iteF k
abbrev nIOr : List Str := ["drawers", "value", "drawer"]
theorem scIOr : FnScope nIOr ["drawers", "value"] (defScope s_is_order) := ⟨rfl, rfl, rfl, by decide +kernel, rfl, by decide +kernel, by decide +kernel⟩
theorem ok_isOrder {f f1 : Addr} {fd fd1 : FuncData} (F : Fun K "is_order" "is_order" s_is_order f fd) (T : Bt mg) (zA : mg "all" = none) (zS : mg "sorted" = none) (zL : mg "list" = none)
    (G : FnOk P w K mg base CX0 2 f1 fd1 ["drawers", "value"] (spIsDrawer K)) (g1 : mg "is_drawer" = some (.ref f1)) (k1 : PySem.W.keepIn K (.ref f1) = true) (b1 : Binds K fd1 ["drawers", "value"] []) :
    FnOk P w K mg base CX0 3 f fd ["drawers", "value"] (spIsOr K) := by
  refine F.ok scIOr (fun vs H Q E h => ?_) (fun cdv A outer s H vs Q E hr h => ?_)
  · obtain ⟨n, v, rfl, _⟩ := h.h
    rfl
  · obtain ⟨n, v, rfl, n0, n7, hv, k⟩ := h.h
    have hu : _ + 64 < cLine := hr.units
    refine ⟨_, pss_cons (ps_if (PW.pt (pw_or (pt_not (pt_val (pe_callB call_isi (by rfl) T.isinstance (by decide +kernel) (pa_cons (pv 1) (pa_cons (pe_bltn (v := .ty "tuple") (by rfl) T.tuple (by decide +kernel) rfl) pa_nil)))))
        (pw_or1 (pt_not (pt_val (pe_callB (cr_all rfl) (by rfl) zA boot_all_ (pa_cons
          (pe_lc (own := [("drawer", 2)]) (g := gName 2) (tt := tYes) (by rfl) scIOr.nd (pi_tup (pv 1)) (blkOk_by (N := nIOr) (sc := defScope s_is_order) (by decide +kernel)) (fun _ _ _ _ _ => pg_name (i := 2) scIOr.nd rfl (Or.inl rfl)) (fun _ _ _ _ _ => pts_nil)
            (fun _ _ _ _ _ => pe_call G (hr.mono (by decide)) rfl g1 k1 b1 .nil pass0 (pa_cons (pv 0) (pa_cons (pv 2) pa_nil)))) pa_nil))))))) (pss_one (ps_ret pe_bl)) pss_nil)
      (pss_one (ps_ret (pe_cmpR (op_eqD hu) (pe_callB cr_sortTI (by rfl) zS (by decide +kernel) (pa_cons (pv 1) pa_nil)) (pe_listRg rfl (by rfl) zL (prg_1 (by rfl) T.range (pv 0))) (nomark _)))), ?_⟩
    rcases hv with ⟨t, ty, hk⟩ | ⟨a, xs, rfl, S, hlen, hsc, hb⟩
    · exact ⟨_, rfl, _, _, t, _, false, rfl, .ty "tuple", ty H (Same.refl H), hk, _, rfl, iteT (k H (Same.refl H))⟩
    · refine ⟨_, rfl, _, _, _, _, true, rfl, .ty "tuple", tyT S, kit_ty (by decide +kernel), _, rfl, iteF ?_⟩
      refine ⟨_, rfl, a, rfl, ⟨_, S⟩, fun D hD => ?_⟩
      refine lc_pick (walk_tup (K := K) (a := a) (xs := xs)) xs rfl (by omega) (fun _ => true) (fun x => V.bl (isD n x)) hD (fun H' s1 => SqT.same s1 S) ?_ ?_
      · rintro i x z H1 H1' Tk Nk ez s1 ⟨rfl, ex⟩ kT kF
        have ex : xs[i]? = some x := ex
        rw [ez] at ex
        cases ex
        refine ⟨rfl, tYes_of (iteT ?_)⟩
        refine ⟨_, rfl, _, rfl, ?_⟩
        exact spIsDrawer_sc (hsc _ (List.mem_of_getElem? ez)) (kT _ rfl (Same.refl _))
      · intro H1 s1 hD1
        rw [List.filter_eq_self.mpr fun _ _ => rfl] at hD1
        refine ⟨D, xs.map (isD n), rfl, SqL.of (by rw [hD1, List.map_map]; rfl), _, rfl, ?_⟩
        rw [bl_all]
        rcases hb with hb | ⟨ln, ns, rfl⟩
        · rw [hb]
          exact iteT (k H1 s1)
        · rw [List.length_map] at ln hlen
          cases ea : (ns.map V.int).all (isD n) with
          | false => exact iteT (k H1 s1)
          | true =>
            refine iteF ?_
            refine ⟨_, rfl, a, ns, rfl, SqT.same s1 S, fun ns' q hp hs nq => ?_⟩
            have sq := same_upd (o := .lst (ns'.map V.int)) nq
            have fq : (upd H1 q (.lst (ns'.map V.int))) q = some (.lst (ns'.map V.int)) := upd_same
            generalize upd H1 q (.lst (ns'.map V.int)) = H2 at sq fq ⊢
            refine ⟨_, rfl, _, rfl, .of_le (by decide) (by omega) (by decide) n0, fun u nu => ?_⟩
            have su := same_upd (o := .lst (rgV 0 n)) nu
            have er : rgV 0 n = ((List.range n.toNat).map fun i => ((i : Nat) : Int)).map V.int := by
              unfold rgV
              rw [List.map_map, Int.sub_zero]
              refine List.map_congr_left fun i _ => ?_
              show V.int (0 + (i : Int)) = V.int (i : Int)
              rw [Int.zero_add]
            rw [er] at su ⊢
            generalize hr2 : ((List.range n.toNat).map fun i => ((i : Nat) : Int)) = rs at su ⊢
            have rl : rs.length = n.toNat := by rw [← hr2, List.length_map, List.length_range]
            refine ⟨.list (ns'.map PyData.int), .list (rs.map PyData.int), .lst (SqL.of (su _ _ fq)) (dpAll_ints _), .lst (SqL.of upd_same) (dpAll_ints _), dok_shaped (dok_list (dok_ints _)) (by decide), dok_shaped (dok_list (dok_ints _)) (by decide), ?_⟩
            have ee : PyData.eqv (.list (ns'.map PyData.int)) (.list (rs.map PyData.int)) = decide (ns' = rs) := PySem.W.Datum.eqv (α := List Int) _ _
            rw [ee, decide_eq_false (fun z => ln (by have := congrArg List.length z; rw [hp.length_eq, rl] at this; omega))]
            exact k _ ((s1.trans sq).trans su)
theorem scCOr : FnScope ["cabinet", "order"] ["cabinet", "order"] (defScope s_check_order) := ⟨rfl, rfl, rfl, by decide +kernel, rfl, by decide +kernel, by decide +kernel⟩
theorem ok_ckOrder {f f1 C CE : Addr} {fd fd1 : FuncData} (F : Fun K "check_order" "check_order" s_check_order f fd) (CP : CabP P w K mg base C) (BT : ErrT K mg "BadOrder" CE)
    (G : FnOk P w K mg base CX0 3 f1 fd1 ["drawers", "value"] (spIsOr K)) (g1 : mg "is_order" = some (.ref f1)) (k1 : PySem.W.keepIn K (.ref f1) = true) (b1 : Binds K fd1 ["drawers", "value"] []) :
    FnOk P w K mg base (L2.CX P w) 5 f fd ["cabinet", "order"] (spCkOr K C CE) := by
  refine F.okX scCOr (fun vs H Q E h => ?_) (fun cdv A outer s H vs Q E hr h => ?_)
  · obtain ⟨c, v, n, t, rfl, _⟩ := h.h
    rfl
  · obtain ⟨c, v, n, t, rfl, n0, n7, ⟨dx, hc⟩, hv, k⟩ := h.h
    obtain ⟨pD, gD, fdD, hpD, GD, bD⟩ := CP.d
    refine ⟨_, pss_one (ps_if (pt_not (pt_val (pe_call G (hr.mono (by decide)) rfl g1 k1 b1 .nil pass0 (pa_cons (pe_prop (pv 0) CP.cl hpD GD (hr.mono (by decide)) bD .nil pass0 rfl) (pa_cons (pv 1) pa_nil)))))
      (pss_one (ps_raise rfl (takes_of rfl rfl rfl rfl) (pmk_own PySem.F.excBase_ValueError BT.x BT.g BT.k (raises_own BT.b BT.t) (by exact rfl)))) pss_nil), ?_⟩
    exact ⟨_, rfl, c, dx, _, rfl, hc, ⟨⟨c, dx, _, t, rfl, hc, _, rfl, ⟨⟨n, v, rfl, n0, n7, hv, fun H' s => ⟨_, rfl, iteT (k H' s)⟩⟩⟩⟩⟩⟩
abbrev nCSe : List Str := ["cabinet", "seen", "index", "thing"]
theorem scCSe : FnScope nCSe ["cabinet", "seen"] (defScope s_check_seen) := ⟨rfl, rfl, rfl, by decide +kernel, rfl, by decide +kernel, by decide +kernel⟩
theorem ok_ckSeenX {f f1 C CE : Addr} {fd fd1 : FuncData} (F : Fun K "check_seen" "check_seen" s_check_seen f fd) (T : Bt mg) (zL : mg "list" = none) (gM : ∃ t, mg "MOST_SEEN" = some (.int 60 t)) (CP : CabP P w K mg base C) (BT : IniT P w K mg base "BadSeen" "index" goodI CE)
    (G1 : FnOk P w K mg base CX0 2 f1 fd1 ["drawers", "value"] (spIsDrawer K)) (g1 : mg "is_drawer" = some (.ref f1)) (k1 : PySem.W.keepIn K (.ref f1) = true) (b1 : Binds K fd1 ["drawers", "value"] []) :
    FnOk P w K mg base (L2.CX P w) 4 f fd ["cabinet", "seen"] (spCkSe K C CE) := by
  refine F.okX scCSe (fun vs H Q E h => ?_) (fun cdv A outer s H vs Q E hr h => ?_)
  · obtain ⟨c, v, x, n, t, rfl, _⟩ := h.h
    rfl
  · obtain ⟨c, v, x, n, t, rfl, ⟨dx, hc⟩, hv, ke⟩ := h.h
    obtain ⟨tM, gM⟩ := gM
    obtain ⟨fI, fdI, i1, i2, GI, bI⟩ := BT.i
    obtain ⟨pD, gD, fdD, hpD, GD, bD⟩ := CP.d
    refine ⟨_, pss_cons (ps_if (PW.pt (pw_or (pt_not (pt_val (pe_callB call_isiT (by rfl) T.isinstance (by decide +kernel) (pa_cons (pv 1) (pa_cons (pe_tup (pa_cons (pe_bltn (v := .ty "list") (by rfl) zL (by decide +kernel) rfl) (pa_cons (pe_bltn (v := .ty "tuple") (by rfl) T.tuple (by decide +kernel) rfl) pa_nil))) pa_nil)))))
        (pw_or1 (pt_cmpR op_gt (pe_callB call_len_seq (by rfl) T.len PySem.boot_len (pa_cons (pv 1) pa_nil)) (pe_glob (v := .int 60) rfl gM ⟨_, rfl⟩) (nomark _)))))
        (pss_one (ps_raise rfl (takes_of rfl rfl rfl rfl) (pmk_oex BT.T i1 i2 GI (hr.mono (by decide)) bI .nil pass0 rfl BT.g (pa_cons pe_non pa_nil)))) pss_nil)
      (pss_one (ps_for (passes_of rfl) rfl (pi_or9 (pi_enum (by rfl) T.enumerate (pa_cons (pv 1) pa_nil)) (pi_enumT (by rfl) T.enumerate (pa_cons (pv 1) pa_nil))) (pg_tup (by rfl) (pgs_cons (pg_name (i := 2) scCSe.nd rfl (.inl rfl)) (pgs_cons (pg_name (i := 3) scCSe.nd rfl (.inl rfl)) pgs_nil)))
        (pss_one (ps_if (PW.pt (pw_and (pt_cmpR op_notN (pv 3) pe_non (nomark _)) (pw_and1 (pt_not (pt_val (pe_call G1 (hr.mono (by decide)) rfl g1 k1 b1 .nil pass0 (pa_cons (pe_prop (pv 0) CP.cl hpD GD (hr.mono (by decide)) bD .nil pass0 rfl) (pa_cons (pv 3) pa_nil))))))))
          (pss_one (ps_raise rfl (takes_of rfl rfl rfl rfl) (pmk_oex BT.T i1 i2 GI (hr.mono (by decide)) bI .nil pass0 rfl BT.g (pa_cons (pv 2) pa_nil)))) pss_nil)))), ?_⟩
    refine ⟨_, rfl, (by show 2 ≤ sizeLine; decide), fun q hq => ?_⟩
    obtain ⟨s0, f0⟩ := new_at (o := .tup [.ty "list", .ty "tuple"]) hq
    generalize upd H q (.tup [.ty "list", .ty "tuple"]) = H0 at s0 f0 ⊢
    cases hv with
    | ty h1 h2 =>
      refine ⟨_, q, _, _, _, false, rfl, f0, .cons (.ty "list") (.cons (.ty "tuple") .nil), h1 H0 s0, h2, _, rfl, iteT ?_⟩
      exact ⟨by show 1 ≤ 1000; decide, fun a ha => ini_mk ha (.inl rfl) (ke H0 s0)⟩
    | long S l60 =>
      obtain ⟨tv, ty, kt⟩ := (S.same s0).ty
      refine ⟨_, q, _, tv, _, true, rfl, f0, .cons (.ty "list") (.cons (.ty "tuple") .nil), ty, kt, _, rfl, iteF ?_⟩
      refine ⟨_, rfl, _, _, rfl, (S.same s0).sq, _, _, rfl, rfl, _, rfl, ?_⟩
      rw [decide_eq_true (by omega)]
      exact iteT ⟨by show 1 ≤ 1000; decide, fun a ha => ini_mk ha (.inl rfl) (ke H0 s0)⟩
    | @at_ l k x post S l60 nn no =>
      obtain ⟨xs, exs⟩ : ∃ xs, List.replicate k V.non ++ x :: post = xs := ⟨_, rfl⟩
      have xl : xs.length = k + 1 + post.length := by rw [← exs, List.length_append, List.length_replicate, List.length_cons]; omega
      rw [exs] at S
      have S0 := S.same s0
      obtain ⟨tv, ty, kt⟩ := S0.ty
      refine ⟨_, q, _, tv, _, true, rfl, f0, .cons (.ty "list") (.cons (.ty "tuple") .nil), ty, kt, _, rfl, iteF ?_⟩
      refine ⟨_, rfl, l, _, rfl, S0.sq, _, _, rfl, rfl, _, rfl, ?_⟩
      rw [decide_eq_false (by omega)]
      refine iteF ?_
      obtain ⟨J, Gd, wk, hG, hJ⟩ : ∃ (J : It) (Gd : Hp → Prop), Walk J xs.length Gd (YPair (fun i => some (.int (i : Nat))) (fun i => xs[i]?)) ∧ (∀ H', Same H0 H' → Gd H') ∧
          ∀ (g : TG) (tb : TS) (D : Ends) (σ : L2.St), σ[1]? = some (some (.ref l)) → tFor (iJ J) g tb D σ H0 → tFor (iOr9 (iEnum K (tCons (tVar 1) tNil)) (iEnumT K (tCons (tVar 1) tNil))) g tb D σ H0 := by
        rcases S0 with h | h
        · exact ⟨_, _, walk_enum, fun H' s1 => s1.seq (SqL.of h), fun g tb D σ e q => .inl ⟨_, e, l, _, rfl, SqL.of h, q⟩⟩
        · exact ⟨_, _, walk_enumT, fun H' s1 => SqT.same s1 h, fun g tb D σ e q => .inr ⟨_, e, l, _, rfl, h, q⟩⟩
      refine hJ _ _ _ _ rfl ?_
      refine for_itJ wk (fun i σ H' => i ≤ k ∧ ∃ v2 v3, σ = [some (.ref c), some (.ref l), v2, v3] ∧ Same H0 H') ⟨Nat.zero_le _, _, _, rfl, Same.refl _⟩ (fun i σ H' _ ⟨_, _, _, _, s1⟩ => hG _ s1) ?_ (fun σ H' ⟨z, _⟩ => by omega)
      rintro i y σ H1 H2 hi ⟨ik, v2, v3, rfl, s1⟩ ⟨T', x1, x2, rfl, hT, rfl, e1, e2⟩
      have e1' : V.int (i : Nat) = x1 := Option.some.inj e1
      subst e1'
      have e2 : xs[i]? = some x2 := e2
      rw [← exs] at e2
      obtain ⟨s2, f2⟩ := new_at (o := .tup [.int (i : Nat), x2]) hT
      generalize upd H1 T' (.tup [.int (i : Nat), x2]) = H2 at s2 f2 ⊢
      have s12 := s1.trans s2
      refine ⟨T', _, rfl, SqT.of' f2, rfl, _, _, rfl, _, _, rfl, rfl, ?_⟩
      rcases Nat.lt_or_ge i k with hlt | hge
      · rw [List.getElem?_append_left (by rw [List.length_replicate]; exact hlt), List.getElem?_replicate, if_pos hlt] at e2
        cases e2
        exact ⟨_, rfl, rfl, _, rfl, iteF ⟨hlt, _, _, rfl, s12⟩⟩
      · obtain rfl : i = k := by omega
        rw [List.getElem?_append_right (by rw [List.length_replicate]; exact Nat.le_refl _), List.length_replicate, Nat.sub_self] at e2
        have ex : x = x2 := Option.some.inj e2
        subst ex
        have s02 := s0.trans s12
        refine ⟨_, rfl, rfl, _, rfl, ?_⟩
        rw [decide_eq_false nn]
        refine iteT ?_
        have hc2 := s02 _ _ hc
        refine ⟨_, rfl, c, dx, _, rfl, hc2, ⟨⟨c, dx, _, t, rfl, hc2, _, rfl, ?_⟩⟩⟩
        rcases no with ⟨sc, nd⟩ | ⟨a, t2, rfl, tx, kt1, kt2⟩
        · refine spIsDrawer_sc sc ⟨_, rfl, ?_⟩
          rw [nd]
          exact iteT ⟨_, rfl, by show 1 ≤ 1000; decide, fun a ha => ini_mk ha (.inr ⟨_, rfl, by omega, by omega⟩) (ke _ s02)⟩
        · exact ⟨⟨n, .inr ⟨_, t2, false, false, rfl, tx _ s02, kt1, kt2, rfl, _, rfl, iteT ⟨_, rfl, by show 1 ≤ 1000; decide, fun a ha => ini_mk ha (.inr ⟨_, rfl, by omega, by omega⟩) (ke _ s02)⟩⟩⟩⟩
end
end DL

set_option Elab.async false
set_option maxRecDepth 100000
set_option maxHeartbeats 1000000
namespace DL
open PySem L2 HT TL
/-! ### what is no cabinet -/
def NoCab (K : PySem.W.Frag) (C : Addr) (H : Hp) (v : V) : Prop := ∃ t, (∀ H', Same H H' → TyX K H' v t) ∧ PySem.W.kitOne K t (.ref C) = some false
theorem NoCab.same {K : PySem.W.Frag} {C : Addr} {H H' : Hp} {v : V} (h : NoCab K C H v) (s : Same H H') : NoCab K C H' v := by
  obtain ⟨t, h1, h2⟩ := h
  exact ⟨t, fun H2 s2 => h1 H2 (s.trans s2), h2⟩
structure spCkC (K : PySem.W.Frag) (C CB : Addr) (vs : List V) (H : Hp) (Q : VK) (E : XK) : Prop where
  h : ∃ v : V, vs = [v] ∧ ((∃ (c : Addr) (n : Int) (t : Addr), v = .ref c ∧ CabAt C H c n t ∧ Q .non H) ∨ (NoCab K C H v ∧ E (.ref CB) none H))
section
variable {P : Program} {w : World} {K : PySem.W.Frag} {mg : Str → Option Value} {base : Heap}
theorem scCkC : FnScope ["cabinet"] ["cabinet"] (defScope s_check_cabinet) := ⟨rfl, rfl, rfl, by decide +kernel, rfl, by decide +kernel, by decide +kernel⟩
theorem ok_ckC {f C CB : Addr} {fd : FuncData} (F : Fun K "check_cabinet" "check_cabinet" s_check_cabinet f fd) (T : Bt mg) (I : CabI K mg C) (BT : ErrT K mg "BadCabinet" CB) : FnOk P w K mg base (L2.CX P w) 2 f fd ["cabinet"] (spCkC K C CB) := by
  refine F.okX scCkC (fun vs H Q E h => ?_) (fun cdv A outer s H vs Q E hr h => ?_)
  · obtain ⟨v, rfl, _⟩ := h.h
    rfl
  · obtain ⟨v, rfl, hv⟩ := h.h
    refine ⟨_, pss_one (ps_if (pt_not (pt_val (pe_callB call_isi (by rfl) T.isinstance (by decide +kernel) (pa_cons (pv 0) (pa_cons (pe_glob (v := .ref C) rfl I.mgC rfl) pa_nil)))))
      (pss_one (ps_raise rfl (takes_of rfl rfl rfl rfl) (pmk_own PySem.F.excBase_ValueError BT.x BT.g BT.k (raises_own BT.b BT.t) (by exact rfl)))) pss_nil), ?_⟩
    rcases hv with ⟨c, n, t, rfl, ⟨dx, hc⟩, k⟩ | ⟨⟨t, ty, kt⟩, k⟩
    · exact ⟨_, rfl, _, _, _, _, true, rfl, .own C, .base (.ins hc I.cl I.ha I.hn I.htk I.hm), I.kk, _, rfl, iteF k⟩
    · exact ⟨_, rfl, _, _, t, _, false, rfl, .own C, ty H (Same.refl H), kt, _, rfl, iteT k⟩
end
end DL

set_option Elab.async false
set_option maxRecDepth 100000
set_option maxHeartbeats 4000000
namespace DL
open PySem L2 HT TL
/-! ### what is no cabinet, drawn -/
structure KitC (K : PySem.W.Frag) (C : Addr) : Prop where
  n : PySem.W.kitOne K (.type "NoneType") (.ref C) = some false
  i : PySem.W.kitOne K (.type "int") (.ref C) = some false
  b : PySem.W.kitOne K (.type "bool") (.ref C) = some false
  t : PySem.W.kitOne K (.type "tuple") (.ref C) = some false
  s : PySem.W.kitOne K (.type "str") (.ref C) = some false
  d : PySem.W.kitOne K (.type "dict") (.ref C) = some false
structure spOddC (K : PySem.W.Frag) (C : Addr) (vs : List V) (H : Hp) (Q : VK) (_ : XK) : Prop where
  h : ∃ (r sc : Addr) (ns : List Int), vs = [.ref r] ∧ RowOk H r sc ∧ (∀ H', But r H H' → SqL K H' sc (ns.map V.int)) ∧ ∀ (x : V) (H' : Hp), RowOk H' r sc → But r H H' → (∀ H'', Same H' H'' → NoCab K C H'' x) → Q x H'
section
variable {P : Program} {w : World} {K : PySem.W.Frag} {mg : Str → Option Value} {base : Heap}
theorem scOC : FnScope ["_law_row"] ["_law_row"] (defScope s__law_odd) := ⟨rfl, rfl, rfl, by decide +kernel, rfl, by decide +kernel, by decide +kernel⟩
theorem ok_oddC {f fT C : Addr} {fd dT : FuncData} (F : Fun K "_law_odd" "_law_odd" s__law_odd f fd) (T : Bt mg) (KC : KitC K C)
    (GT : FnOk P w K mg base CX0 1 fT dT ["_law_row", "_law_many"] (spTaken K)) (gT : mg "_law_taken" = some (.ref fT)) (kT : PySem.W.keepIn K (.ref fT) = true) (bT : Binds K dT ["_law_row", "_law_many"] []) :
    FnOk P w K mg base CX0 2 f fd ["_law_row"] (spOddC K C) := by
  refine F.ok scOC (fun vs H Q E h => ?_) (fun cdv A outer s H vs Q E hr h => ?_)
  · obtain ⟨r, sc, ns, rfl, _⟩ := h.h
    rfl
  · obtain ⟨r, sc, ns, rfl, R, SB, k⟩ := h.h
    refine ⟨_, pss_one (ps_ret (pe_ix ix_list (pe_lst (pa_cons pe_non (pa_cons pe_int (pa_cons pe_bl (pa_cons (pe_tup (pa_cons pe_int (pa_cons (pe_tup pa_nil) pa_nil))) (pa_cons pe_str (pa_cons pe_dnewT pa_nil)))))))
      (pe_call GT (hr.mono (by decide)) rfl gT kT bT .nil pass0 (pa_cons (pv 0) (pa_cons pe_int pa_nil))) (fun _ _ => rfl))), ?_⟩
    refine ⟨(by show 0 ≤ sizeLine; decide), fun e he => ?_⟩
    obtain ⟨s1, f1⟩ := new_at (o := .tup []) he
    generalize upd H e (.tup []) = H1 at s1 f1 ⊢
    refine ⟨(by show 2 ≤ sizeLine; decide), fun p hp => ?_⟩
    obtain ⟨s2, f2⟩ := new_at (o := .tup [.int 2, .ref e]) hp
    generalize upd H1 p (.tup [.int 2, .ref e]) = H2 at s2 f2 ⊢
    refine fun d hd => ?_
    obtain ⟨s3, f3⟩ := new_at (o := .dT []) hd
    generalize upd H2 d (.dT []) = H3 at s3 f3 ⊢
    refine ⟨(by show 6 ≤ sizeLine; decide), fun l hl => ?_⟩
    obtain ⟨s4, f4⟩ := new_at (o := .lst [.non, .int 2, .bl true, .ref p, .str "drawers 2", .ref d]) hl
    simp only [] at s4 f4 ⊢
    generalize upd H3 l (.lst [.non, .int 2, .bl true, .ref p, .str "drawers 2", .ref d]) = H4 at s4 f4 ⊢
    have s04 := (((s1.trans s2).trans s3).trans s4)
    obtain ⟨_, _, _, hR, _⟩ := id R.h
    have nd : d ≠ r := (ne_of_none ((s1.trans s2) _ _ hR) hd).symm
    have nl : l ≠ r := (ne_of_none (((s1.trans s2).trans s3) _ _ hR) hl).symm
    have R4 := R.same s04
    obtain ⟨_, _, _, hR4, _⟩ := id R4.h
    refine ⟨_, rfl, ⟨⟨r, sc, ns, 6, rfl, R4, SB H4 (sbut s04), by decide, by decide, fun v H5 v0 v1 R5 B5 => ?_⟩⟩⟩
    have hp5 : SqT K H5 p [.int 2, .ref e] := sqT_but hR4 B5 (SqT.of' ((s3.trans s4) _ _ f2))
    have hd5 := B5 _ _ nd (s4 _ _ f3)
    have fin : ∃ x, atI [V.non, .int 2, .bl true, .ref p, .str "drawers 2", .ref d] v = some x ∧ ∀ H'', Same H5 H'' → NoCab K C H'' x := by
      have : v = 0 ∨ v = 1 ∨ v = 2 ∨ v = 3 ∨ v = 4 ∨ v = 5 := by omega
      rcases this with rfl | rfl | rfl | rfl | rfl | rfl
      · exact ⟨.non, rfl, fun _ _ => ⟨_, fun _ _ => .base .non, KC.n⟩⟩
      · exact ⟨.int 2, rfl, fun _ _ => ⟨_, fun _ _ => .base (.int _), KC.i⟩⟩
      · exact ⟨.bl true, rfl, fun _ _ => ⟨_, fun _ _ => .base (.bl _), KC.b⟩⟩
      · exact ⟨.ref p, rfl, fun _ s => ⟨_, fun _ s' => tyT (SqT.same (s.trans s') hp5), KC.t⟩⟩
      · exact ⟨.str "drawers 2", rfl, fun _ _ => ⟨_, fun _ _ => .base (.str _), KC.s⟩⟩
      · exact ⟨.ref d, rfl, fun _ s => ⟨_, fun _ s' => .base (.dT (s' _ _ (s _ _ hd5))), KC.d⟩⟩
    obtain ⟨x, ax, nx⟩ := fin
    exact ⟨l, _, v, x, rfl, rfl, SqL.of (B5 _ _ nl f4), ax, k x H5 R5 ((sbut s04).trans B5) nx⟩
end
end DL

set_option Elab.async false
set_option maxRecDepth 100000
set_option maxHeartbeats 2000000
namespace DL
open PySem PySem.Spec PyProof.Rows L2 HT TL
/-! ### calls that are refused: no cabinet, or what is handed beside it -/
def spC1 (K : PySem.W.Frag) (C CB : Addr) : Sp := fun vs H _ E => ∃ v : V, vs = [v] ∧ NoCab K C H v ∧ E (.ref CB) none H
def spC2 (K : PySem.W.Frag) (C CB : Addr) (sp2 : Sp) : Sp := fun vs H _ E => ∃ v u : V, vs = [v, u] ∧ ((NoCab K C H v ∧ E (.ref CB) none H) ∨ ∃ (c : Addr) (n : Int) (t : Addr), v = .ref c ∧ CabAt C H c n t ∧ ∀ Q', sp2 [.ref c, u] H Q' E)
def spC3 (K : PySem.W.Frag) (C CB : Addr) (sp2 : Sp) : Sp := fun vs H _ E => ∃ v u x : V, vs = [v, u, x] ∧ ((NoCab K C H v ∧ E (.ref CB) none H) ∨ ∃ (c : Addr) (n : Int) (t : Addr), v = .ref c ∧ CabAt C H c n t ∧ ∀ Q', sp2 [.ref c, u] H Q' E)
def spCh (K : PySem.W.Frag) (C CB CC CQ : Addr) : Sp := fun vs H _ E => ∃ v u x : V, vs = [v, u, x] ∧ ((NoCab K C H v ∧ E (.ref CB) none H) ∨ ∃ (c : Addr) (n : Int) (t : Addr), v = .ref c ∧ CabAt C H c n t ∧ ∀ Q', spCkCo K C CC [.ref c, u] H (fun _ H1 => spCkSgn K C "os?" CQ [.ref c, x] H1 Q' E) E)
def spRs (K : PySem.W.Frag) (C CB CT CN : Addr) : Sp := fun vs H _ E => ∃ v u x : V, vs = [v, u, x] ∧ ((NoCab K C H v ∧ E (.ref CB) none H) ∨ ∃ (c : Addr) (n : Int) (t : Addr), v = .ref c ∧ CabAt C H c n t ∧ ∀ Q', spFew9 C CT [.ref c, .int 4] H (fun _ H1 => spCkLen K CN [u, .int 0, .int 1000000000000000000000000000000] H1 (fun _ H2 => spCkLen K CN [x, .int 1, .int 1000000000] H2 Q' E) E) E)
theorem spCkCo.impQ {K : PySem.W.Frag} {C CE : Addr} {vs : List V} {H : Hp} {Q Q' : VK} {E : XK} (h : spCkCo K C CE vs H Q E) (hq : ∀ u H', Q u H' → Q' u H') : spCkCo K C CE vs H Q' E := by
  obtain ⟨c, v, n, t, e, hc, hv⟩ := h.h
  exact ⟨⟨c, v, n, t, e, hc, hv.imp id fun z => ⟨z.1, fun H' s => hq _ _ (z.2 H' s)⟩⟩⟩
theorem spFew9.impQ {C CT : Addr} {vs : List V} {H : Hp} {Q Q' : VK} {E : XK} (h : spFew9 C CT vs H Q E) (hq : ∀ u H', Q u H' → Q' u H') : spFew9 C CT vs H Q' E := by
  obtain ⟨c, t, n, m, e, hc, hv⟩ := h.h
  exact ⟨⟨c, t, n, m, e, hc, hv.imp id fun z => ⟨z.1, hq _ _ z.2⟩⟩⟩
theorem spCkLen.impQ {K : PySem.W.Frag} {CN : Addr} {vs : List V} {H : Hp} {Q Q' : VK} {E : XK} (h : spCkLen K CN vs H Q E) (hq : ∀ u H', Q u H' → Q' u H') : spCkLen K CN vs H Q' E := by
  obtain ⟨v, lo, m, e, hv⟩ := h.h
  refine ⟨⟨v, lo, m, e, hv.imp id ?_⟩⟩
  rintro ⟨i, a, b, c, k⟩
  exact ⟨i, a, b, c, hq _ _ k⟩
section
variable {P : Program} {w : World} {K : PySem.W.Frag} {mg : Str → Option Value} {base : Heap}
theorem scJ_first_ring : FnScope ["cabinet", "shortest", "standing", "row", "ring"] ["cabinet"] (defScope s_first_ring) := ⟨rfl, rfl, rfl, by decide +kernel, rfl, by decide +kernel, by decide +kernel⟩
theorem okJ_first_ring {f f0 C CB : Addr} {fd fd0 : FuncData} (F : Fun K "first_ring" "first_ring" s_first_ring f fd)
    (G0 : FnOk P w K mg base (L2.CX P w) 2 f0 fd0 ["cabinet"] (spCkC K C CB)) (g0 : mg "check_cabinet" = some (.ref f0)) (k0 : PySem.W.keepIn K (.ref f0) = true) (b0 : Binds K fd0 ["cabinet"] []) :
    FnOk P w K mg base (L2.CX P w) 4 f fd ["cabinet"] (spC1 K C CB) := by
  refine F.okX scJ_first_ring (fun vs H Q E h => ?_) (fun cdv A outer s H vs Q E hr h => ?_)
  · obtain ⟨v, rfl, _⟩ := h
    rfl
  · obtain ⟨v, rfl, hv⟩ := h
    refine ⟨_, pss_cons (ps_expr (pe_call G0 (hr.mono (by decide)) rfl g0 k0 b0 .nil (passes_call (E := E) (takes_of rfl rfl rfl rfl) (fun _ _ _ _ z => z)) (pa_cons (pv 0) pa_nil))) pss_never, ?_⟩
    exact ⟨_, rfl, ⟨⟨v, rfl, .inr hv⟩⟩⟩
theorem scJ_longest_row : FnScope ["cabinet", "pulls", "left", "standing", "row", "wanted", "drawer"] ["cabinet"] (defScope s_longest_row) := ⟨rfl, rfl, rfl, by decide +kernel, rfl, by decide +kernel, by decide +kernel⟩
theorem okJ_longest_row {f f0 C CB : Addr} {fd fd0 : FuncData} (F : Fun K "longest_row" "longest_row" s_longest_row f fd)
    (G0 : FnOk P w K mg base (L2.CX P w) 2 f0 fd0 ["cabinet"] (spCkC K C CB)) (g0 : mg "check_cabinet" = some (.ref f0)) (k0 : PySem.W.keepIn K (.ref f0) = true) (b0 : Binds K fd0 ["cabinet"] []) :
    FnOk P w K mg base (L2.CX P w) 4 f fd ["cabinet"] (spC1 K C CB) := by
  refine F.okX scJ_longest_row (fun vs H Q E h => ?_) (fun cdv A outer s H vs Q E hr h => ?_)
  · obtain ⟨v, rfl, _⟩ := h
    rfl
  · obtain ⟨v, rfl, hv⟩ := h
    refine ⟨_, pss_cons (ps_expr (pe_call G0 (hr.mono (by decide)) rfl g0 k0 b0 .nil (passes_call (E := E) (takes_of rfl rfl rfl rfl) (fun _ _ _ _ z => z)) (pa_cons (pv 0) pa_nil))) pss_never, ?_⟩
    exact ⟨_, rfl, ⟨⟨v, rfl, .inr hv⟩⟩⟩
theorem scJ_keeping : FnScope ["cabinet", "bars"] ["cabinet"] (defScope s_keeping) := ⟨rfl, rfl, rfl, by decide +kernel, rfl, by decide +kernel, by decide +kernel⟩
theorem okJ_keeping {f f0 C CB : Addr} {fd fd0 : FuncData} (F : Fun K "keeping" "keeping" s_keeping f fd)
    (G0 : FnOk P w K mg base (L2.CX P w) 2 f0 fd0 ["cabinet"] (spCkC K C CB)) (g0 : mg "check_cabinet" = some (.ref f0)) (k0 : PySem.W.keepIn K (.ref f0) = true) (b0 : Binds K fd0 ["cabinet"] []) :
    FnOk P w K mg base (L2.CX P w) 4 f fd ["cabinet"] (spC1 K C CB) := by
  refine F.okX scJ_keeping (fun vs H Q E h => ?_) (fun cdv A outer s H vs Q E hr h => ?_)
  · obtain ⟨v, rfl, _⟩ := h
    rfl
  · obtain ⟨v, rfl, hv⟩ := h
    refine ⟨_, pss_cons (ps_expr (pe_call G0 (hr.mono (by decide)) rfl g0 k0 b0 .nil (passes_call (E := E) (takes_of rfl rfl rfl rfl) (fun _ _ _ _ z => z)) (pa_cons (pv 0) pa_nil))) pss_never, ?_⟩
    exact ⟨_, rfl, ⟨⟨v, rfl, .inr hv⟩⟩⟩
theorem scJ_force : FnScope ["cabinet", "pattern", "pulls", "first_needs", "_"] ["cabinet", "pattern"] (defScope s_force) := ⟨rfl, rfl, rfl, by decide +kernel, rfl, by decide +kernel, by decide +kernel⟩
theorem okJ_force {f f0 f1 C CB CE : Addr} {fd fd0 fd1 : FuncData} (F : Fun K "force" "force" s_force f fd)
    (G0 : FnOk P w K mg base (L2.CX P w) 2 f0 fd0 ["cabinet"] (spCkC K C CB)) (g0 : mg "check_cabinet" = some (.ref f0)) (k0 : PySem.W.keepIn K (.ref f0) = true) (b0 : Binds K fd0 ["cabinet"] [])
    (G1 : FnOk P w K mg base (L2.CX P w) 4 f1 fd1 ["cabinet", "pattern"] (spCkSgn K C "os?" CE)) (g1 : mg "check_pattern" = some (.ref f1)) (k1 : PySem.W.keepIn K (.ref f1) = true) (b1 : Binds K fd1 ["cabinet", "pattern"] []) :
    FnOk P w K mg base (L2.CX P w) 6 f fd ["cabinet", "pattern"] (spC2 K C CB (spCkSgn K C "os?" CE)) := by
  refine F.okX scJ_force (fun vs H Q E h => ?_) (fun cdv A outer s H vs Q E hr h => ?_)
  · obtain ⟨v, u, rfl, _⟩ := h
    rfl
  · obtain ⟨v, u, rfl, hv⟩ := h
    refine ⟨_, pss_cons (ps_expr (pe_call G0 (hr.mono (by decide)) rfl g0 k0 b0 .nil (passes_call (E := E) (takes_of rfl rfl rfl rfl) (fun _ _ _ _ z => z)) (pa_cons (pv 0) pa_nil))) (pss_cons (ps_expr (pe_call G1 (hr.mono (by decide)) rfl g1 k1 b1 .nil (passes_call (E := E) (takes_of rfl rfl rfl rfl) (fun _ _ _ _ z => z)) (pa_cons (pv 0) (pa_cons (pv 1) pa_nil)))) pss_never), ?_⟩
    rcases hv with hn | ⟨c, n, t, rfl, hc, hk⟩
    · exact ⟨_, rfl, ⟨⟨v, rfl, .inr hn⟩⟩⟩
    · exact ⟨_, rfl, ⟨⟨_, rfl, .inl ⟨c, n, t, rfl, hc, _, rfl, _, rfl, hk _⟩⟩⟩⟩
theorem scJ_plan : FnScope ["cabinet", "pattern", "pulls", "first_needs", "other_needs"] ["cabinet", "pattern"] (defScope s_plan) := ⟨rfl, rfl, rfl, by decide +kernel, rfl, by decide +kernel, by decide +kernel⟩
theorem okJ_plan {f f0 f1 C CB CE : Addr} {fd fd0 fd1 : FuncData} (F : Fun K "plan" "plan" s_plan f fd)
    (G0 : FnOk P w K mg base (L2.CX P w) 2 f0 fd0 ["cabinet"] (spCkC K C CB)) (g0 : mg "check_cabinet" = some (.ref f0)) (k0 : PySem.W.keepIn K (.ref f0) = true) (b0 : Binds K fd0 ["cabinet"] [])
    (G1 : FnOk P w K mg base (L2.CX P w) 4 f1 fd1 ["cabinet", "pattern"] (spCkSgn K C "os?" CE)) (g1 : mg "check_pattern" = some (.ref f1)) (k1 : PySem.W.keepIn K (.ref f1) = true) (b1 : Binds K fd1 ["cabinet", "pattern"] []) :
    FnOk P w K mg base (L2.CX P w) 6 f fd ["cabinet", "pattern"] (spC2 K C CB (spCkSgn K C "os?" CE)) := by
  refine F.okX scJ_plan (fun vs H Q E h => ?_) (fun cdv A outer s H vs Q E hr h => ?_)
  · obtain ⟨v, u, rfl, _⟩ := h
    rfl
  · obtain ⟨v, u, rfl, hv⟩ := h
    refine ⟨_, pss_cons (ps_expr (pe_call G0 (hr.mono (by decide)) rfl g0 k0 b0 .nil (passes_call (E := E) (takes_of rfl rfl rfl rfl) (fun _ _ _ _ z => z)) (pa_cons (pv 0) pa_nil))) (pss_cons (ps_expr (pe_call G1 (hr.mono (by decide)) rfl g1 k1 b1 .nil (passes_call (E := E) (takes_of rfl rfl rfl rfl) (fun _ _ _ _ z => z)) (pa_cons (pv 0) (pa_cons (pv 1) pa_nil)))) pss_never), ?_⟩
    rcases hv with hn | ⟨c, n, t, rfl, hc, hk⟩
    · exact ⟨_, rfl, ⟨⟨v, rfl, .inr hn⟩⟩⟩
    · exact ⟨_, rfl, ⟨⟨_, rfl, .inl ⟨c, n, t, rfl, hc, _, rfl, _, rfl, hk _⟩⟩⟩⟩
theorem scJ_plan_depth : FnScope ["cabinet", "pattern", "value", "pulls", "planned", "choices", "first_needs", "_"] ["cabinet", "pattern", "value"] (defScope s_plan_depth) := ⟨rfl, rfl, rfl, by decide +kernel, rfl, by decide +kernel, by decide +kernel⟩
theorem okJ_plan_depth {f f0 f1 C CB CE : Addr} {fd fd0 fd1 : FuncData} (F : Fun K "plan_depth" "plan_depth" s_plan_depth f fd)
    (G0 : FnOk P w K mg base (L2.CX P w) 2 f0 fd0 ["cabinet"] (spCkC K C CB)) (g0 : mg "check_cabinet" = some (.ref f0)) (k0 : PySem.W.keepIn K (.ref f0) = true) (b0 : Binds K fd0 ["cabinet"] [])
    (G1 : FnOk P w K mg base (L2.CX P w) 4 f1 fd1 ["cabinet", "pattern"] (spCkSgn K C "os?" CE)) (g1 : mg "check_pattern" = some (.ref f1)) (k1 : PySem.W.keepIn K (.ref f1) = true) (b1 : Binds K fd1 ["cabinet", "pattern"] []) :
    FnOk P w K mg base (L2.CX P w) 6 f fd ["cabinet", "pattern", "value"] (spC3 K C CB (spCkSgn K C "os?" CE)) := by
  refine F.okX scJ_plan_depth (fun vs H Q E h => ?_) (fun cdv A outer s H vs Q E hr h => ?_)
  · obtain ⟨v, u, x, rfl, _⟩ := h
    rfl
  · obtain ⟨v, u, x, rfl, hv⟩ := h
    refine ⟨_, pss_cons (ps_expr (pe_call G0 (hr.mono (by decide)) rfl g0 k0 b0 .nil (passes_call (E := E) (takes_of rfl rfl rfl rfl) (fun _ _ _ _ z => z)) (pa_cons (pv 0) pa_nil))) (pss_cons (ps_expr (pe_call G1 (hr.mono (by decide)) rfl g1 k1 b1 .nil (passes_call (E := E) (takes_of rfl rfl rfl rfl) (fun _ _ _ _ z => z)) (pa_cons (pv 0) (pa_cons (pv 1) pa_nil)))) pss_never), ?_⟩
    rcases hv with hn | ⟨c, n, t, rfl, hc, hk⟩
    · exact ⟨_, rfl, ⟨⟨v, rfl, .inr hn⟩⟩⟩
    · exact ⟨_, rfl, ⟨⟨_, rfl, .inl ⟨c, n, t, rfl, hc, _, rfl, _, rfl, hk _⟩⟩⟩⟩
theorem scJ_ring_at : FnScope ["cabinet", "standing"] ["cabinet", "standing"] (defScope s_ring_at) := ⟨rfl, rfl, rfl, by decide +kernel, rfl, by decide +kernel, by decide +kernel⟩
theorem okJ_ring_at {f f0 f1 C CB CE : Addr} {fd fd0 fd1 : FuncData} (F : Fun K "ring_at" "ring_at" s_ring_at f fd)
    (G0 : FnOk P w K mg base (L2.CX P w) 2 f0 fd0 ["cabinet"] (spCkC K C CB)) (g0 : mg "check_cabinet" = some (.ref f0)) (k0 : PySem.W.keepIn K (.ref f0) = true) (b0 : Binds K fd0 ["cabinet"] [])
    (G1 : FnOk P w K mg base (L2.CX P w) 4 f1 fd1 ["cabinet", "standing"] (spCkSgn K C "os" CE)) (g1 : mg "check_standing" = some (.ref f1)) (k1 : PySem.W.keepIn K (.ref f1) = true) (b1 : Binds K fd1 ["cabinet", "standing"] []) :
    FnOk P w K mg base (L2.CX P w) 6 f fd ["cabinet", "standing"] (spC2 K C CB (spCkSgn K C "os" CE)) := by
  refine F.okX scJ_ring_at (fun vs H Q E h => ?_) (fun cdv A outer s H vs Q E hr h => ?_)
  · obtain ⟨v, u, rfl, _⟩ := h
    rfl
  · obtain ⟨v, u, rfl, hv⟩ := h
    refine ⟨_, pss_cons (ps_expr (pe_call G0 (hr.mono (by decide)) rfl g0 k0 b0 .nil (passes_call (E := E) (takes_of rfl rfl rfl rfl) (fun _ _ _ _ z => z)) (pa_cons (pv 0) pa_nil))) (pss_cons (ps_expr (pe_call G1 (hr.mono (by decide)) rfl g1 k1 b1 .nil (passes_call (E := E) (takes_of rfl rfl rfl rfl) (fun _ _ _ _ z => z)) (pa_cons (pv 0) (pa_cons (pv 1) pa_nil)))) pss_never), ?_⟩
    rcases hv with hn | ⟨c, n, t, rfl, hc, hk⟩
    · exact ⟨_, rfl, ⟨⟨v, rfl, .inr hn⟩⟩⟩
    · exact ⟨_, rfl, ⟨⟨_, rfl, .inl ⟨c, n, t, rfl, hc, _, rfl, _, rfl, hk _⟩⟩⟩⟩
theorem scJ_fits_many : FnScope ["cabinet", "seen"] ["cabinet", "seen"] (defScope s_fits_many) := ⟨rfl, rfl, rfl, by decide +kernel, rfl, by decide +kernel, by decide +kernel⟩
theorem okJ_fits_many {f f0 f1 C CB CE : Addr} {fd fd0 fd1 : FuncData} (F : Fun K "fits_many" "fits_many" s_fits_many f fd)
    (G0 : FnOk P w K mg base (L2.CX P w) 2 f0 fd0 ["cabinet"] (spCkC K C CB)) (g0 : mg "check_cabinet" = some (.ref f0)) (k0 : PySem.W.keepIn K (.ref f0) = true) (b0 : Binds K fd0 ["cabinet"] [])
    (G1 : FnOk P w K mg base (L2.CX P w) 4 f1 fd1 ["cabinet", "seen"] (spCkSe K C CE)) (g1 : mg "check_seen" = some (.ref f1)) (k1 : PySem.W.keepIn K (.ref f1) = true) (b1 : Binds K fd1 ["cabinet", "seen"] []) :
    FnOk P w K mg base (L2.CX P w) 6 f fd ["cabinet", "seen"] (spC2 K C CB (spCkSe K C CE)) := by
  refine F.okX scJ_fits_many (fun vs H Q E h => ?_) (fun cdv A outer s H vs Q E hr h => ?_)
  · obtain ⟨v, u, rfl, _⟩ := h
    rfl
  · obtain ⟨v, u, rfl, hv⟩ := h
    refine ⟨_, pss_cons (ps_expr (pe_call G0 (hr.mono (by decide)) rfl g0 k0 b0 .nil (passes_call (E := E) (takes_of rfl rfl rfl rfl) (fun _ _ _ _ z => z)) (pa_cons (pv 0) pa_nil))) (pss_cons (ps_expr (pe_call G1 (hr.mono (by decide)) rfl g1 k1 b1 .nil (passes_call (E := E) (takes_of rfl rfl rfl rfl) (fun _ _ _ _ z => z)) (pa_cons (pv 0) (pa_cons (pv 1) pa_nil)))) pss_never), ?_⟩
    rcases hv with hn | ⟨c, n, t, rfl, hc, hk⟩
    · exact ⟨_, rfl, ⟨⟨v, rfl, .inr hn⟩⟩⟩
    · exact ⟨_, rfl, ⟨⟨_, rfl, .inl ⟨c, n, t, rfl, hc, _, rfl, _, rfl, hk _⟩⟩⟩⟩
theorem scJ_first_fit : FnScope ["cabinet", "seen", "standing", "row", "onward", "drawer"] ["cabinet", "seen"] (defScope s_first_fit) := ⟨rfl, rfl, rfl, by decide +kernel, rfl, by decide +kernel, by decide +kernel⟩
theorem okJ_first_fit {f f0 f1 C CB CE : Addr} {fd fd0 fd1 : FuncData} (F : Fun K "first_fit" "first_fit" s_first_fit f fd)
    (G0 : FnOk P w K mg base (L2.CX P w) 2 f0 fd0 ["cabinet"] (spCkC K C CB)) (g0 : mg "check_cabinet" = some (.ref f0)) (k0 : PySem.W.keepIn K (.ref f0) = true) (b0 : Binds K fd0 ["cabinet"] [])
    (G1 : FnOk P w K mg base (L2.CX P w) 4 f1 fd1 ["cabinet", "seen"] (spCkSe K C CE)) (g1 : mg "check_seen" = some (.ref f1)) (k1 : PySem.W.keepIn K (.ref f1) = true) (b1 : Binds K fd1 ["cabinet", "seen"] []) :
    FnOk P w K mg base (L2.CX P w) 6 f fd ["cabinet", "seen"] (spC2 K C CB (spCkSe K C CE)) := by
  refine F.okX scJ_first_fit (fun vs H Q E h => ?_) (fun cdv A outer s H vs Q E hr h => ?_)
  · obtain ⟨v, u, rfl, _⟩ := h
    rfl
  · obtain ⟨v, u, rfl, hv⟩ := h
    refine ⟨_, pss_cons (ps_expr (pe_call G0 (hr.mono (by decide)) rfl g0 k0 b0 .nil (passes_call (E := E) (takes_of rfl rfl rfl rfl) (fun _ _ _ _ z => z)) (pa_cons (pv 0) pa_nil))) (pss_cons (ps_expr (pe_call G1 (hr.mono (by decide)) rfl g1 k1 b1 .nil (passes_call (E := E) (takes_of rfl rfl rfl rfl) (fun _ _ _ _ z => z)) (pa_cons (pv 0) (pa_cons (pv 1) pa_nil)))) pss_never), ?_⟩
    rcases hv with hn | ⟨c, n, t, rfl, hc, hk⟩
    · exact ⟨_, rfl, ⟨⟨v, rfl, .inr hn⟩⟩⟩
    · exact ⟨_, rfl, ⟨⟨_, rfl, .inl ⟨c, n, t, rfl, hc, _, rfl, _, rfl, hk _⟩⟩⟩⟩
theorem scJ_stands_after : FnScope ["cabinet", "seen"] ["cabinet", "seen"] (defScope s_stands_after) := ⟨rfl, rfl, rfl, by decide +kernel, rfl, by decide +kernel, by decide +kernel⟩
theorem okJ_stands_after {f f0 f1 C CB CE : Addr} {fd fd0 fd1 : FuncData} (F : Fun K "stands_after" "stands_after" s_stands_after f fd)
    (G0 : FnOk P w K mg base (L2.CX P w) 2 f0 fd0 ["cabinet"] (spCkC K C CB)) (g0 : mg "check_cabinet" = some (.ref f0)) (k0 : PySem.W.keepIn K (.ref f0) = true) (b0 : Binds K fd0 ["cabinet"] [])
    (G1 : FnOk P w K mg base (L2.CX P w) 4 f1 fd1 ["cabinet", "seen"] (spCkSe K C CE)) (g1 : mg "check_seen" = some (.ref f1)) (k1 : PySem.W.keepIn K (.ref f1) = true) (b1 : Binds K fd1 ["cabinet", "seen"] []) :
    FnOk P w K mg base (L2.CX P w) 6 f fd ["cabinet", "seen"] (spC2 K C CB (spCkSe K C CE)) := by
  refine F.okX scJ_stands_after (fun vs H Q E h => ?_) (fun cdv A outer s H vs Q E hr h => ?_)
  · obtain ⟨v, u, rfl, _⟩ := h
    rfl
  · obtain ⟨v, u, rfl, hv⟩ := h
    refine ⟨_, pss_cons (ps_expr (pe_call G0 (hr.mono (by decide)) rfl g0 k0 b0 .nil (passes_call (E := E) (takes_of rfl rfl rfl rfl) (fun _ _ _ _ z => z)) (pa_cons (pv 0) pa_nil))) (pss_cons (ps_expr (pe_call G1 (hr.mono (by decide)) rfl g1 k1 b1 .nil (passes_call (E := E) (takes_of rfl rfl rfl rfl) (fun _ _ _ _ z => z)) (pa_cons (pv 0) (pa_cons (pv 1) pa_nil)))) pss_never), ?_⟩
    rcases hv with hn | ⟨c, n, t, rfl, hc, hk⟩
    · exact ⟨_, rfl, ⟨⟨v, rfl, .inr hn⟩⟩⟩
    · exact ⟨_, rfl, ⟨⟨_, rfl, .inl ⟨c, n, t, rfl, hc, _, rfl, _, rfl, hk _⟩⟩⟩⟩
theorem scJ_sure_pulls : FnScope ["cabinet", "seen", "standings", "told", "onward", "pulls", "drawers"] ["cabinet", "seen"] (defScope s_sure_pulls) := ⟨rfl, rfl, rfl, by decide +kernel, rfl, by decide +kernel, by decide +kernel⟩
theorem okJ_sure_pulls {f f0 f1 C CB CE : Addr} {fd fd0 fd1 : FuncData} (F : Fun K "sure_pulls" "sure_pulls" s_sure_pulls f fd)
    (G0 : FnOk P w K mg base (L2.CX P w) 2 f0 fd0 ["cabinet"] (spCkC K C CB)) (g0 : mg "check_cabinet" = some (.ref f0)) (k0 : PySem.W.keepIn K (.ref f0) = true) (b0 : Binds K fd0 ["cabinet"] [])
    (G1 : FnOk P w K mg base (L2.CX P w) 4 f1 fd1 ["cabinet", "seen"] (spCkSe K C CE)) (g1 : mg "check_seen" = some (.ref f1)) (k1 : PySem.W.keepIn K (.ref f1) = true) (b1 : Binds K fd1 ["cabinet", "seen"] []) :
    FnOk P w K mg base (L2.CX P w) 6 f fd ["cabinet", "seen"] (spC2 K C CB (spCkSe K C CE)) := by
  refine F.okX scJ_sure_pulls (fun vs H Q E h => ?_) (fun cdv A outer s H vs Q E hr h => ?_)
  · obtain ⟨v, u, rfl, _⟩ := h
    rfl
  · obtain ⟨v, u, rfl, hv⟩ := h
    refine ⟨_, pss_cons (ps_expr (pe_call G0 (hr.mono (by decide)) rfl g0 k0 b0 .nil (passes_call (E := E) (takes_of rfl rfl rfl rfl) (fun _ _ _ _ z => z)) (pa_cons (pv 0) pa_nil))) (pss_cons (ps_expr (pe_call G1 (hr.mono (by decide)) rfl g1 k1 b1 .nil (passes_call (E := E) (takes_of rfl rfl rfl rfl) (fun _ _ _ _ z => z)) (pa_cons (pv 0) (pa_cons (pv 1) pa_nil)))) pss_never), ?_⟩
    rcases hv with hn | ⟨c, n, t, rfl, hc, hk⟩
    · exact ⟨_, rfl, ⟨⟨v, rfl, .inr hn⟩⟩⟩
    · exact ⟨_, rfl, ⟨⟨_, rfl, .inl ⟨c, n, t, rfl, hc, _, rfl, _, rfl, hk _⟩⟩⟩⟩
theorem scJ_renamed : FnScope ["cabinet", "order", "bars"] ["cabinet", "order"] (defScope s_renamed) := ⟨rfl, rfl, rfl, by decide +kernel, rfl, by decide +kernel, by decide +kernel⟩
theorem okJ_renamed {f f0 f1 C CB CE : Addr} {fd fd0 fd1 : FuncData} (F : Fun K "renamed" "renamed" s_renamed f fd)
    (G0 : FnOk P w K mg base (L2.CX P w) 2 f0 fd0 ["cabinet"] (spCkC K C CB)) (g0 : mg "check_cabinet" = some (.ref f0)) (k0 : PySem.W.keepIn K (.ref f0) = true) (b0 : Binds K fd0 ["cabinet"] [])
    (G1 : FnOk P w K mg base (L2.CX P w) 5 f1 fd1 ["cabinet", "order"] (spCkOr K C CE)) (g1 : mg "check_order" = some (.ref f1)) (k1 : PySem.W.keepIn K (.ref f1) = true) (b1 : Binds K fd1 ["cabinet", "order"] []) :
    FnOk P w K mg base (L2.CX P w) 7 f fd ["cabinet", "order"] (spC2 K C CB (spCkOr K C CE)) := by
  refine F.okX scJ_renamed (fun vs H Q E h => ?_) (fun cdv A outer s H vs Q E hr h => ?_)
  · obtain ⟨v, u, rfl, _⟩ := h
    rfl
  · obtain ⟨v, u, rfl, hv⟩ := h
    refine ⟨_, pss_cons (ps_expr (pe_call G0 (hr.mono (by decide)) rfl g0 k0 b0 .nil (passes_call (E := E) (takes_of rfl rfl rfl rfl) (fun _ _ _ _ z => z)) (pa_cons (pv 0) pa_nil))) (pss_cons (ps_expr (pe_call G1 (hr.mono (by decide)) rfl g1 k1 b1 .nil (passes_call (E := E) (takes_of rfl rfl rfl rfl) (fun _ _ _ _ z => z)) (pa_cons (pv 0) (pa_cons (pv 1) pa_nil)))) pss_never), ?_⟩
    rcases hv with hn | ⟨c, n, t, rfl, hc, hk⟩
    · exact ⟨_, rfl, ⟨⟨v, rfl, .inr hn⟩⟩⟩
    · exact ⟨_, rfl, ⟨⟨_, rfl, .inl ⟨c, n, t, rfl, hc, _, rfl, _, rfl, hk _⟩⟩⟩⟩
theorem scJ_cheapest : FnScope ["cabinet", "costs", "pattern", "pulls", "done", "queue", "cost", "length", "row", "standing", "drawer", "beyond"] ["cabinet", "costs", "pattern"] (defScope s_cheapest) := ⟨rfl, rfl, rfl, by decide +kernel, rfl, by decide +kernel, by decide +kernel⟩
theorem okJ_cheapest {f f0 f1 f2 C CB CC CQ : Addr} {fd fd0 fd1 fd2 : FuncData} (F : Fun K "cheapest" "cheapest" s_cheapest f fd)
    (G0 : FnOk P w K mg base (L2.CX P w) 2 f0 fd0 ["cabinet"] (spCkC K C CB)) (g0 : mg "check_cabinet" = some (.ref f0)) (k0 : PySem.W.keepIn K (.ref f0) = true) (b0 : Binds K fd0 ["cabinet"] [])
    (G1 : FnOk P w K mg base (L2.CX P w) 5 f1 fd1 ["cabinet", "costs"] (spCkCo K C CC)) (g1 : mg "check_costs" = some (.ref f1)) (k1 : PySem.W.keepIn K (.ref f1) = true) (b1 : Binds K fd1 ["cabinet", "costs"] [])
    (G2 : FnOk P w K mg base (L2.CX P w) 4 f2 fd2 ["cabinet", "pattern"] (spCkSgn K C "os?" CQ)) (g2 : mg "check_pattern" = some (.ref f2)) (k2 : PySem.W.keepIn K (.ref f2) = true) (b2 : Binds K fd2 ["cabinet", "pattern"] []) :
    FnOk P w K mg base (L2.CX P w) 7 f fd ["cabinet", "costs", "pattern"] (spCh K C CB CC CQ) := by
  refine F.okX scJ_cheapest (fun vs H Q E h => ?_) (fun cdv A outer s H vs Q E hr h => ?_)
  · obtain ⟨v, u, x, rfl, _⟩ := h
    rfl
  · obtain ⟨v, u, x, rfl, hv⟩ := h
    refine ⟨_, pss_cons (ps_expr (pe_call G0 (hr.mono (by decide)) rfl g0 k0 b0 .nil (passes_call (E := E) (takes_of rfl rfl rfl rfl) (fun _ _ _ _ z => z)) (pa_cons (pv 0) pa_nil))) (pss_cons (ps_expr (pe_call G1 (hr.mono (by decide)) rfl g1 k1 b1 .nil (passes_call (E := E) (takes_of rfl rfl rfl rfl) (fun _ _ _ _ z => z)) (pa_cons (pv 0) (pa_cons (pv 1) pa_nil)))) (pss_cons (ps_expr (pe_call G2 (hr.mono (by decide)) rfl g2 k2 b2 .nil (passes_call (E := E) (takes_of rfl rfl rfl rfl) (fun _ _ _ _ z => z)) (pa_cons (pv 0) (pa_cons (pv 2) pa_nil)))) pss_never)), ?_⟩
    rcases hv with hn | ⟨c, n, t, rfl, hc, hk⟩
    · exact ⟨_, rfl, ⟨⟨v, rfl, .inr hn⟩⟩⟩
    · refine ⟨_, rfl, ⟨⟨_, rfl, .inl ⟨c, n, t, rfl, hc, _, rfl, _, rfl, ?_⟩⟩⟩⟩
      exact (hk _).impQ fun _ H1 z => ⟨_, rfl, _, rfl, z⟩
theorem scJ_count_rest : FnScope ["cabinet", "length", "divisor", "ways", "counts"] ["cabinet", "length", "divisor"] (defScope s_count_rest) := ⟨rfl, rfl, rfl, by decide +kernel, rfl, by decide +kernel, by decide +kernel⟩
theorem okJ_count_rest {f f0 f1 f2 C CB CT CN : Addr} {fd fd0 fd1 fd2 : FuncData} (F : Fun K "count_rest" "count_rest" s_count_rest f fd)
    (G0 : FnOk P w K mg base (L2.CX P w) 2 f0 fd0 ["cabinet"] (spCkC K C CB)) (g0 : mg "check_cabinet" = some (.ref f0)) (k0 : PySem.W.keepIn K (.ref f0) = true) (b0 : Binds K fd0 ["cabinet"] [])
    (G1 : FnOk P w K mg base (L2.CX P w) 4 f1 fd1 ["cabinet", "most"] (spFew9 C CT)) (g1 : mg "check_few_drawers" = some (.ref f1)) (k1 : PySem.W.keepIn K (.ref f1) = true) (b1 : Binds K fd1 ["cabinet", "most"] [])
    (G2 : FnOk P w K mg base (L2.CX P w) 4 f2 fd2 ["value", "least", "most"] (spCkLen K CN)) (g2 : mg "check_number" = some (.ref f2)) (k2 : PySem.W.keepIn K (.ref f2) = true) (b2 : Binds K fd2 ["value", "least", "most"] []) (hC : ∃ t, mg "MOST_COUNTED" = some (.int 4 t)) (hL : ∃ t, mg "MOST_LENGTH" = some (.int 1000000000000000000000000000000 t)) (hD : ∃ t, mg "MOST_DIVISOR" = some (.int 1000000000 t)) :
    FnOk P w K mg base (L2.CX P w) 7 f fd ["cabinet", "length", "divisor"] (spRs K C CB CT CN) := by
  refine F.okX scJ_count_rest (fun vs H Q E h => ?_) (fun cdv A outer s H vs Q E hr h => ?_)
  · obtain ⟨v, u, x, rfl, _⟩ := h
    rfl
  · obtain ⟨v, u, x, rfl, hv⟩ := h
    obtain ⟨_, gC⟩ := hC
    obtain ⟨_, gL⟩ := hL
    obtain ⟨_, gD⟩ := hD
    refine ⟨_, pss_cons (ps_expr (pe_call G0 (hr.mono (by decide)) rfl g0 k0 b0 .nil (passes_call (E := E) (takes_of rfl rfl rfl rfl) (fun _ _ _ _ z => z)) (pa_cons (pv 0) pa_nil))) (pss_cons (ps_expr (pe_call G1 (hr.mono (by decide)) rfl g1 k1 b1 .nil (passes_call (E := E) (takes_of rfl rfl rfl rfl) (fun _ _ _ _ z => z)) (pa_cons (pv 0) (pa_cons (pe_glob (v := .int 4) (by rfl) gC ⟨_, rfl⟩) pa_nil)))) (pss_cons (ps_expr (pe_call G2 (hr.mono (by decide)) rfl g2 k2 b2 .nil (passes_call (E := E) (takes_of rfl rfl rfl rfl) (fun _ _ _ _ z => z)) (pa_cons (pv 1) (pa_cons pe_int (pa_cons (pe_glob (v := .int 1000000000000000000000000000000) (by rfl) gL ⟨_, rfl⟩) pa_nil))))) (pss_cons (ps_expr (pe_call G2 (hr.mono (by decide)) rfl g2 k2 b2 .nil (passes_call (E := E) (takes_of rfl rfl rfl rfl) (fun _ _ _ _ z => z)) (pa_cons (pv 2) (pa_cons pe_int (pa_cons (pe_glob (v := .int 1000000000) (by rfl) gD ⟨_, rfl⟩) pa_nil))))) pss_never))), ?_⟩
    rcases hv with hn | ⟨c, n, t, rfl, hc, hk⟩
    · exact ⟨_, rfl, ⟨⟨v, rfl, .inr hn⟩⟩⟩
    · refine ⟨_, rfl, ⟨⟨_, rfl, .inl ⟨c, n, t, rfl, hc, _, rfl, ?_⟩⟩⟩⟩
      exact (hk _).impQ fun _ H1 z => ⟨_, rfl, z.impQ fun _ H2 z => ⟨_, rfl, z⟩⟩
end
end DL

set_option Elab.async false
set_option maxRecDepth 100000
set_option maxHeartbeats 4000000
namespace DL
open PySem PySem.Spec PyProof.Rows L2 HT TL
/-! ### the law's call, and how it is refused -/
/-- what call number kd is handed is refused -/
def JCase (K : PySem.W.Frag) (C CB CQ CC CS CSe CT CN COr : Addr) (a b c : V) (H1 : Hp) (E : XK) : Nat → Prop
  | 0 => ∀ Q' : VK, (spC1 K C CB) [a] H1 Q' E
  | 1 => ∀ Q' : VK, (spC1 K C CB) [a] H1 Q' E
  | 2 => ∀ Q' : VK, (spC1 K C CB) [a] H1 Q' E
  | 3 => ∀ Q' : VK, (spC2 K C CB (spCkSgn K C "os?" CQ)) [a, b] H1 Q' E
  | 4 => ∀ Q' : VK, (spC2 K C CB (spCkSgn K C "os?" CQ)) [a, b] H1 Q' E
  | 5 => ∀ Q' : VK, (spC3 K C CB (spCkSgn K C "os?" CQ)) [a, b, c] H1 Q' E
  | 6 => ∀ Q' : VK, (spCh K C CB CC CQ) [a, b, c] H1 Q' E
  | 7 => ∀ Q' : VK, (spC2 K C CB (spCkSgn K C "os" CS)) [a, b] H1 Q' E
  | 8 => ∀ Q' : VK, (spC2 K C CB (spCkSe K C CSe)) [a, b] H1 Q' E
  | 9 => ∀ Q' : VK, (spC2 K C CB (spCkSe K C CSe)) [a, b] H1 Q' E
  | 10 => ∀ Q' : VK, (spC2 K C CB (spCkSe K C CSe)) [a, b] H1 Q' E
  | 11 => ∀ Q' : VK, (spC2 K C CB (spCkSe K C CSe)) [a, b] H1 Q' E
  | 12 => ∀ Q' : VK, (spRs K C CB CT CN) [a, b, c] H1 Q' E
  | 13 => ∀ Q' : VK, (spC2 K C CB (spCkOr K C COr)) [a, b] H1 Q' E
  | _ => False
/-- the classes, each apart from the others -/
structure ApartN (K : PySem.W.Frag) (L : List Addr) : Prop where
  one : ∀ (i j : Nat) (A B : Addr), L[i]? = some A → L[j]? = some B → PySem.W.exmOne K (.ref A) (.ref B) = some (decide (i = j))
theorem apartN_of {K : PySem.W.Frag} {n : Nat} {L : List Addr} (tab : (L.map fun a => L.map fun b => PySem.W.subIn K (.ref a) (.ref b)) = (List.range n).map fun i => (List.range n).map fun j => some (decide (i = j)))
    (bs : (L.map fun b => PySem.W.subIn K (.ref b) (.type "BaseException")) = List.replicate n (some true)) (cs : (L.map fun b => PySem.W.isClsIn K b) = List.replicate n true)
    (ts : (L.map fun b => PySem.W.typeIn K (.ref b)) = List.replicate n (some (.type "type"))) : ApartN K L := by
  have all : ∀ {α : Type} {f : Addr → α} {x : α}, L.map f = List.replicate n x → ∀ A ∈ L, f A = x := fun {α f x} e A hA => by
    have := List.mem_map_of_mem (f := f) hA
    rw [e] at this
    exact List.eq_of_mem_replicate this
  refine ⟨fun i j A B hi hj => exm_of (all bs B (List.mem_of_getElem? hj)) (all cs B (List.mem_of_getElem? hj)) (all ts B (List.mem_of_getElem? hj)) ?_⟩
  have e1 := congrArg (fun l => (l[i]?).bind fun r => r[j]?) tab
  have hl : L.length = n := by
    have := congrArg List.length cs
    rw [List.length_map, List.length_replicate] at this
    exact this
  have i14 : i < n := by
    have := (List.getElem?_eq_some_iff.mp hi).1
    omega
  have j14 : j < n := by
    have := (List.getElem?_eq_some_iff.mp hj).1
    omega
  simp only [List.getElem?_map, hi, List.getElem?_range i14, Option.map_some, Option.bind_some, hj, List.getElem?_range j14, Option.some.injEq] at e1
  exact e1
theorem any_hitP {K : PySem.W.Frag} {Wout : WX} {D : Ends} {c cls : Value} {d : Option Addr} {o : Option Nat} {ts : Addr → Value → Option Addr → TS} {r : List ClA} {σ : L2.St} {H : Hp} (e : PySem.W.exmOne K cls c = some true) (h : ∀ a, H a = none → runA ts o a cls d D σ H) : wAny K Wout D ((c, o, ts) :: r) cls d σ H :=
  ⟨true, e, fun _ a na => h a na, fun z => (by cases z)⟩
theorem any_missP {K : PySem.W.Frag} {Wout : WX} {D : Ends} {c cls : Value} {d : Option Addr} {o : Option Nat} {ts : Addr → Value → Option Addr → TS} {r : List ClA} {σ : L2.St} {H : Hp} (e : PySem.W.exmOne K cls c = some false) (h : wAny K Wout D r cls d σ H) : wAny K Wout D ((c, o, ts) :: r) cls d σ H :=
  ⟨false, e, fun z => (by cases z), fun _ => h⟩
structure spJCall (K : PySem.W.Frag) (C CB CQ CC CS CSe CT CN COr : Addr) (vs : List V) (H : Hp) (_ : VK) (E : XK) : Prop where
  h : ∃ (kd : Nat) (a b c : V), vs = [.int kd, a, b, c] ∧ ∀ H1, Same H H1 → JCase K C CB CQ CC CS CSe CT CN COr a b c H1 E kd
section
variable {P : Program} {w : World} {K : PySem.W.Frag} {mg : Str → Option Value} {base : Heap}
abbrev nJC : List Str := ["_law_kind", "_law_first", "_law_second", "_law_third"]
theorem scJC : FnScope nJC nJC (defScope s__law_call) := ⟨rfl, rfl, rfl, by decide +kernel, rfl, by decide +kernel, by decide +kernel⟩
theorem ok_jCall {f C CB CQ CC CS CSe CT CN COr f0 f1 f2 f3 f4 f5 f6 f7 f8 f9 f10 f11 f12 f13 : Addr} {fd fd0 fd1 fd2 fd3 fd4 fd5 fd6 fd7 fd8 fd9 fd10 fd11 fd12 fd13 : FuncData} (F : Fun K "_law_call" "_law_call" s__law_call f fd)
    (G0 : FnOk P w K mg base (L2.CX P w) 4 f0 fd0 ["cabinet"] (spC1 K C CB)) (g0 : mg "first_ring" = some (.ref f0)) (k0 : PySem.W.keepIn K (.ref f0) = true) (b0 : Binds K fd0 ["cabinet"] [])
    (G1 : FnOk P w K mg base (L2.CX P w) 4 f1 fd1 ["cabinet"] (spC1 K C CB)) (g1 : mg "longest_row" = some (.ref f1)) (k1 : PySem.W.keepIn K (.ref f1) = true) (b1 : Binds K fd1 ["cabinet"] [])
    (G2 : FnOk P w K mg base (L2.CX P w) 4 f2 fd2 ["cabinet"] (spC1 K C CB)) (g2 : mg "keeping" = some (.ref f2)) (k2 : PySem.W.keepIn K (.ref f2) = true) (b2 : Binds K fd2 ["cabinet"] [])
    (G3 : FnOk P w K mg base (L2.CX P w) 6 f3 fd3 ["cabinet", "pattern"] (spC2 K C CB (spCkSgn K C "os?" CQ))) (g3 : mg "force" = some (.ref f3)) (k3 : PySem.W.keepIn K (.ref f3) = true) (b3 : Binds K fd3 ["cabinet", "pattern"] [])
    (G4 : FnOk P w K mg base (L2.CX P w) 6 f4 fd4 ["cabinet", "pattern"] (spC2 K C CB (spCkSgn K C "os?" CQ))) (g4 : mg "plan" = some (.ref f4)) (k4 : PySem.W.keepIn K (.ref f4) = true) (b4 : Binds K fd4 ["cabinet", "pattern"] [])
    (G5 : FnOk P w K mg base (L2.CX P w) 6 f5 fd5 ["cabinet", "pattern", "value"] (spC3 K C CB (spCkSgn K C "os?" CQ))) (g5 : mg "plan_depth" = some (.ref f5)) (k5 : PySem.W.keepIn K (.ref f5) = true) (b5 : Binds K fd5 ["cabinet", "pattern", "value"] [])
    (G6 : FnOk P w K mg base (L2.CX P w) 7 f6 fd6 ["cabinet", "costs", "pattern"] (spCh K C CB CC CQ)) (g6 : mg "cheapest" = some (.ref f6)) (k6 : PySem.W.keepIn K (.ref f6) = true) (b6 : Binds K fd6 ["cabinet", "costs", "pattern"] [])
    (G7 : FnOk P w K mg base (L2.CX P w) 6 f7 fd7 ["cabinet", "standing"] (spC2 K C CB (spCkSgn K C "os" CS))) (g7 : mg "ring_at" = some (.ref f7)) (k7 : PySem.W.keepIn K (.ref f7) = true) (b7 : Binds K fd7 ["cabinet", "standing"] [])
    (G8 : FnOk P w K mg base (L2.CX P w) 6 f8 fd8 ["cabinet", "seen"] (spC2 K C CB (spCkSe K C CSe))) (g8 : mg "first_fit" = some (.ref f8)) (k8 : PySem.W.keepIn K (.ref f8) = true) (b8 : Binds K fd8 ["cabinet", "seen"] [])
    (G9 : FnOk P w K mg base (L2.CX P w) 6 f9 fd9 ["cabinet", "seen"] (spC2 K C CB (spCkSe K C CSe))) (g9 : mg "fits_many" = some (.ref f9)) (k9 : PySem.W.keepIn K (.ref f9) = true) (b9 : Binds K fd9 ["cabinet", "seen"] [])
    (G10 : FnOk P w K mg base (L2.CX P w) 6 f10 fd10 ["cabinet", "seen"] (spC2 K C CB (spCkSe K C CSe))) (g10 : mg "stands_after" = some (.ref f10)) (k10 : PySem.W.keepIn K (.ref f10) = true) (b10 : Binds K fd10 ["cabinet", "seen"] [])
    (G11 : FnOk P w K mg base (L2.CX P w) 6 f11 fd11 ["cabinet", "seen"] (spC2 K C CB (spCkSe K C CSe))) (g11 : mg "sure_pulls" = some (.ref f11)) (k11 : PySem.W.keepIn K (.ref f11) = true) (b11 : Binds K fd11 ["cabinet", "seen"] [])
    (G12 : FnOk P w K mg base (L2.CX P w) 7 f12 fd12 ["cabinet", "length", "divisor"] (spRs K C CB CT CN)) (g12 : mg "count_rest" = some (.ref f12)) (k12 : PySem.W.keepIn K (.ref f12) = true) (b12 : Binds K fd12 ["cabinet", "length", "divisor"] [])
    (G13 : FnOk P w K mg base (L2.CX P w) 7 f13 fd13 ["cabinet", "order"] (spC2 K C CB (spCkOr K C COr))) (g13 : mg "renamed" = some (.ref f13)) (k13 : PySem.W.keepIn K (.ref f13) = true) (b13 : Binds K fd13 ["cabinet", "order"] []) :
    FnOk P w K mg base (L2.CX P w) 9 f fd nJC (spJCall K C CB CQ CC CS CSe CT CN COr) := by
  refine F.okX scJC (fun vs H Q E h => ?_) (fun cdv A outer s H vs Q E hr h => ?_)
  · obtain ⟨kd, a, b, c, rfl, _⟩ := h.h
    rfl
  · obtain ⟨kd, a, b, c, rfl, hk⟩ := h.h
    have pas := passes_call (X := cxOf (L2.CX P w) P w K mg base nJC "_law_call" (defScope s__law_call) f cdv A outer s H E) (E := E) (takes_of rfl rfl rfl rfl) (fun _ _ _ _ z => z)
    refine ⟨_, pss_one (ps_if (pt_cmpR op_lt (pv 0) pe_int (nomark _)) (pss_one (ps_expr (pe_callE (S := [(f0, spC1 K C CB), (f1, spC1 K C CB)]) (E := fun _ => E) (k := 4) (CX := L2.CX P w) (pe_ix ix_list (pe_lst (pa_cons (pe_glob (v := .ref f0) rfl g0 rfl) (pa_cons (pe_glob (v := .ref f1) rfl g1 rfl) pa_nil))) (pv 0) (fun _ _ => rfl))
          (fun q hq => by
            simp only [List.mem_cons, List.not_mem_nil, or_false] at hq
            rcases hq with rfl | rfl
            · exact ⟨_, _, G0, k0, b0⟩
            · exact ⟨_, _, G1, k1, b1⟩) (hr.mono (by decide)) (fun σ pins H0 => pas pins σ H0) (pa_cons (pv 1) pa_nil)))) (pss_one (ps_if (pt_cmpR op_eq (pv 0) pe_int (nomark _)) (pss_one (ps_expr (pe_call G2 (hr.mono (by decide)) rfl g2 k2 b2 .nil pas (pa_cons (pv 1) pa_nil)))) (pss_one (ps_if (pt_cmpR op_lt (pv 0) pe_int (nomark _)) (pss_one (ps_expr (pe_callE (S := [(f3, spC2 K C CB (spCkSgn K C "os?" CQ)), (f4, spC2 K C CB (spCkSgn K C "os?" CQ))]) (E := fun _ => E) (k := 6) (CX := L2.CX P w) (pe_ix ix_list (pe_lst (pa_cons (pe_glob (v := .ref f3) rfl g3 rfl) (pa_cons (pe_glob (v := .ref f4) rfl g4 rfl) pa_nil))) (pe_op op_sub (pv 0) pe_int) (fun _ _ => rfl))
          (fun q hq => by
            simp only [List.mem_cons, List.not_mem_nil, or_false] at hq
            rcases hq with rfl | rfl
            · exact ⟨_, _, G3, k3, b3⟩
            · exact ⟨_, _, G4, k4, b4⟩) (hr.mono (by decide)) (fun σ pins H0 => pas pins σ H0) (pa_cons (pv 1) (pa_cons (pv 2) pa_nil))))) (pss_one (ps_if (pt_cmpR op_eq (pv 0) pe_int (nomark _)) (pss_one (ps_expr (pe_call G5 (hr.mono (by decide)) rfl g5 k5 b5 .nil pas (pa_cons (pv 1) (pa_cons (pv 2) (pa_cons (pv 3) pa_nil)))))) (pss_one (ps_if (pt_cmpR op_eq (pv 0) pe_int (nomark _)) (pss_one (ps_expr (pe_call G6 (hr.mono (by decide)) rfl g6 k6 b6 .nil pas (pa_cons (pv 1) (pa_cons (pv 2) (pa_cons (pv 3) pa_nil)))))) (pss_one (ps_if (pt_cmpR op_eq (pv 0) pe_int (nomark _)) (pss_one (ps_expr (pe_call G7 (hr.mono (by decide)) rfl g7 k7 b7 .nil pas (pa_cons (pv 1) (pa_cons (pv 2) pa_nil))))) (pss_one (ps_if (pt_cmpR op_lt (pv 0) pe_int (nomark _)) (pss_one (ps_expr (pe_callE (S := [(f8, spC2 K C CB (spCkSe K C CSe)), (f9, spC2 K C CB (spCkSe K C CSe)), (f10, spC2 K C CB (spCkSe K C CSe)), (f11, spC2 K C CB (spCkSe K C CSe))]) (E := fun _ => E) (k := 6) (CX := L2.CX P w) (pe_ix ix_list (pe_lst (pa_cons (pe_glob (v := .ref f8) rfl g8 rfl) (pa_cons (pe_glob (v := .ref f9) rfl g9 rfl) (pa_cons (pe_glob (v := .ref f10) rfl g10 rfl) (pa_cons (pe_glob (v := .ref f11) rfl g11 rfl) pa_nil))))) (pe_op op_sub (pv 0) pe_int) (fun _ _ => rfl))
          (fun q hq => by
            simp only [List.mem_cons, List.not_mem_nil, or_false] at hq
            rcases hq with rfl | rfl | rfl | rfl
            · exact ⟨_, _, G8, k8, b8⟩
            · exact ⟨_, _, G9, k9, b9⟩
            · exact ⟨_, _, G10, k10, b10⟩
            · exact ⟨_, _, G11, k11, b11⟩) (hr.mono (by decide)) (fun σ pins H0 => pas pins σ H0) (pa_cons (pv 1) (pa_cons (pv 2) pa_nil))))) (pss_one (ps_if (pt_cmpR op_eq (pv 0) pe_int (nomark _)) (pss_one (ps_expr (pe_call G12 (hr.mono (by decide)) rfl g12 k12 b12 .nil pas (pa_cons (pv 1) (pa_cons (pv 2) (pa_cons (pv 3) pa_nil)))))) (pss_one (ps_expr (pe_call G13 (hr.mono (by decide)) rfl g13 k13 b13 .nil pas (pa_cons (pv 1) (pa_cons (pv 2) pa_nil)))))))))))))))))))), ?_⟩
    have k14 : kd < 14 := by
      refine Nat.lt_of_not_le fun z => ?_
      obtain ⟨m, rfl⟩ : ∃ m, kd = m + 14 := ⟨kd - 14, by omega⟩
      exact hk H (Same.refl H)
    have : kd = 0 ∨ kd = 1 ∨ kd = 2 ∨ kd = 3 ∨ kd = 4 ∨ kd = 5 ∨ kd = 6 ∨ kd = 7 ∨ kd = 8 ∨ kd = 9 ∨ kd = 10 ∨ kd = 11 ∨ kd = 12 ∨ kd = 13 := by omega
    rcases this with rfl | rfl | rfl | rfl | rfl | rfl | rfl | rfl | rfl | rfl | rfl | rfl | rfl | rfl
    · have hk : ∀ H1, Same H H1 → ∀ Q', (spC1 K C CB) [a] H1 Q' E := hk
      refine ⟨_, rfl, _, _, rfl, rfl, _, rfl, iteT ?_⟩
      refine ⟨(by show 2 ≤ sizeLine; decide), fun fl hfl => ?_⟩
      obtain ⟨s6, f6⟩ := new_at (o := .lst [.ref f0, .ref f1]) hfl
      generalize upd H fl (.lst [.ref f0, .ref f1]) = H6 at s6 f6 ⊢
      exact ⟨_, rfl, fl, _, 0, .ref f0, rfl, rfl, SqL.of f6, rfl, f0, _, List.mem_cons_self, rfl, _, rfl, hk H6 s6 (fun _ _ => True)⟩
    · have hk : ∀ H1, Same H H1 → ∀ Q', (spC1 K C CB) [a] H1 Q' E := hk
      refine ⟨_, rfl, _, _, rfl, rfl, _, rfl, iteT ?_⟩
      refine ⟨(by show 2 ≤ sizeLine; decide), fun fl hfl => ?_⟩
      obtain ⟨s6, f6⟩ := new_at (o := .lst [.ref f0, .ref f1]) hfl
      generalize upd H fl (.lst [.ref f0, .ref f1]) = H6 at s6 f6 ⊢
      exact ⟨_, rfl, fl, _, 1, .ref f1, rfl, rfl, SqL.of f6, rfl, f1, _, (List.mem_cons_of_mem _ List.mem_cons_self), rfl, _, rfl, hk H6 s6 (fun _ _ => True)⟩
    · have hk : ∀ H1, Same H H1 → ∀ Q', (spC1 K C CB) [a] H1 Q' E := hk
      refine ⟨_, rfl, _, _, rfl, rfl, _, rfl, iteF ?_⟩
      refine ⟨_, rfl, rfl, _, rfl, iteT ?_⟩
      exact ⟨_, rfl, hk H (Same.refl H) (fun _ _ => True)⟩
    · have hk : ∀ H1, Same H H1 → ∀ Q', (spC2 K C CB (spCkSgn K C "os?" CQ)) [a, b] H1 Q' E := hk
      refine ⟨_, rfl, _, _, rfl, rfl, _, rfl, iteF ?_⟩
      refine ⟨_, rfl, rfl, _, rfl, iteF ?_⟩
      refine ⟨_, rfl, _, _, rfl, rfl, _, rfl, iteT ?_⟩
      refine ⟨(by show 2 ≤ sizeLine; decide), fun fl hfl => ?_⟩
      obtain ⟨s6, f6⟩ := new_at (o := .lst [.ref f3, .ref f4]) hfl
      generalize upd H fl (.lst [.ref f3, .ref f4]) = H6 at s6 f6 ⊢
      exact ⟨_, rfl, _, _, rfl, rfl, fl, _, 0, .ref f3, rfl, rfl, SqL.of f6, rfl, f3, _, List.mem_cons_self, rfl, _, rfl, _, rfl, hk H6 s6 (fun _ _ => True)⟩
    · have hk : ∀ H1, Same H H1 → ∀ Q', (spC2 K C CB (spCkSgn K C "os?" CQ)) [a, b] H1 Q' E := hk
      refine ⟨_, rfl, _, _, rfl, rfl, _, rfl, iteF ?_⟩
      refine ⟨_, rfl, rfl, _, rfl, iteF ?_⟩
      refine ⟨_, rfl, _, _, rfl, rfl, _, rfl, iteT ?_⟩
      refine ⟨(by show 2 ≤ sizeLine; decide), fun fl hfl => ?_⟩
      obtain ⟨s6, f6⟩ := new_at (o := .lst [.ref f3, .ref f4]) hfl
      generalize upd H fl (.lst [.ref f3, .ref f4]) = H6 at s6 f6 ⊢
      exact ⟨_, rfl, _, _, rfl, rfl, fl, _, 1, .ref f4, rfl, rfl, SqL.of f6, rfl, f4, _, (List.mem_cons_of_mem _ List.mem_cons_self), rfl, _, rfl, _, rfl, hk H6 s6 (fun _ _ => True)⟩
    · have hk : ∀ H1, Same H H1 → ∀ Q', (spC3 K C CB (spCkSgn K C "os?" CQ)) [a, b, c] H1 Q' E := hk
      refine ⟨_, rfl, _, _, rfl, rfl, _, rfl, iteF ?_⟩
      refine ⟨_, rfl, rfl, _, rfl, iteF ?_⟩
      refine ⟨_, rfl, _, _, rfl, rfl, _, rfl, iteF ?_⟩
      refine ⟨_, rfl, rfl, _, rfl, iteT ?_⟩
      exact ⟨_, rfl, _, rfl, _, rfl, hk H (Same.refl H) (fun _ _ => True)⟩
    · have hk : ∀ H1, Same H H1 → ∀ Q', (spCh K C CB CC CQ) [a, b, c] H1 Q' E := hk
      refine ⟨_, rfl, _, _, rfl, rfl, _, rfl, iteF ?_⟩
      refine ⟨_, rfl, rfl, _, rfl, iteF ?_⟩
      refine ⟨_, rfl, _, _, rfl, rfl, _, rfl, iteF ?_⟩
      refine ⟨_, rfl, rfl, _, rfl, iteF ?_⟩
      refine ⟨_, rfl, rfl, _, rfl, iteT ?_⟩
      exact ⟨_, rfl, _, rfl, _, rfl, hk H (Same.refl H) (fun _ _ => True)⟩
    · have hk : ∀ H1, Same H H1 → ∀ Q', (spC2 K C CB (spCkSgn K C "os" CS)) [a, b] H1 Q' E := hk
      refine ⟨_, rfl, _, _, rfl, rfl, _, rfl, iteF ?_⟩
      refine ⟨_, rfl, rfl, _, rfl, iteF ?_⟩
      refine ⟨_, rfl, _, _, rfl, rfl, _, rfl, iteF ?_⟩
      refine ⟨_, rfl, rfl, _, rfl, iteF ?_⟩
      refine ⟨_, rfl, rfl, _, rfl, iteF ?_⟩
      refine ⟨_, rfl, rfl, _, rfl, iteT ?_⟩
      exact ⟨_, rfl, _, rfl, hk H (Same.refl H) (fun _ _ => True)⟩
    · have hk : ∀ H1, Same H H1 → ∀ Q', (spC2 K C CB (spCkSe K C CSe)) [a, b] H1 Q' E := hk
      refine ⟨_, rfl, _, _, rfl, rfl, _, rfl, iteF ?_⟩
      refine ⟨_, rfl, rfl, _, rfl, iteF ?_⟩
      refine ⟨_, rfl, _, _, rfl, rfl, _, rfl, iteF ?_⟩
      refine ⟨_, rfl, rfl, _, rfl, iteF ?_⟩
      refine ⟨_, rfl, rfl, _, rfl, iteF ?_⟩
      refine ⟨_, rfl, rfl, _, rfl, iteF ?_⟩
      refine ⟨_, rfl, _, _, rfl, rfl, _, rfl, iteT ?_⟩
      refine ⟨(by show 4 ≤ sizeLine; decide), fun fl hfl => ?_⟩
      obtain ⟨s6, f6⟩ := new_at (o := .lst [.ref f8, .ref f9, .ref f10, .ref f11]) hfl
      generalize upd H fl (.lst [.ref f8, .ref f9, .ref f10, .ref f11]) = H6 at s6 f6 ⊢
      exact ⟨_, rfl, _, _, rfl, rfl, fl, _, 0, .ref f8, rfl, rfl, SqL.of f6, rfl, f8, _, List.mem_cons_self, rfl, _, rfl, _, rfl, hk H6 s6 (fun _ _ => True)⟩
    · have hk : ∀ H1, Same H H1 → ∀ Q', (spC2 K C CB (spCkSe K C CSe)) [a, b] H1 Q' E := hk
      refine ⟨_, rfl, _, _, rfl, rfl, _, rfl, iteF ?_⟩
      refine ⟨_, rfl, rfl, _, rfl, iteF ?_⟩
      refine ⟨_, rfl, _, _, rfl, rfl, _, rfl, iteF ?_⟩
      refine ⟨_, rfl, rfl, _, rfl, iteF ?_⟩
      refine ⟨_, rfl, rfl, _, rfl, iteF ?_⟩
      refine ⟨_, rfl, rfl, _, rfl, iteF ?_⟩
      refine ⟨_, rfl, _, _, rfl, rfl, _, rfl, iteT ?_⟩
      refine ⟨(by show 4 ≤ sizeLine; decide), fun fl hfl => ?_⟩
      obtain ⟨s6, f6⟩ := new_at (o := .lst [.ref f8, .ref f9, .ref f10, .ref f11]) hfl
      generalize upd H fl (.lst [.ref f8, .ref f9, .ref f10, .ref f11]) = H6 at s6 f6 ⊢
      exact ⟨_, rfl, _, _, rfl, rfl, fl, _, 1, .ref f9, rfl, rfl, SqL.of f6, rfl, f9, _, (List.mem_cons_of_mem _ List.mem_cons_self), rfl, _, rfl, _, rfl, hk H6 s6 (fun _ _ => True)⟩
    · have hk : ∀ H1, Same H H1 → ∀ Q', (spC2 K C CB (spCkSe K C CSe)) [a, b] H1 Q' E := hk
      refine ⟨_, rfl, _, _, rfl, rfl, _, rfl, iteF ?_⟩
      refine ⟨_, rfl, rfl, _, rfl, iteF ?_⟩
      refine ⟨_, rfl, _, _, rfl, rfl, _, rfl, iteF ?_⟩
      refine ⟨_, rfl, rfl, _, rfl, iteF ?_⟩
      refine ⟨_, rfl, rfl, _, rfl, iteF ?_⟩
      refine ⟨_, rfl, rfl, _, rfl, iteF ?_⟩
      refine ⟨_, rfl, _, _, rfl, rfl, _, rfl, iteT ?_⟩
      refine ⟨(by show 4 ≤ sizeLine; decide), fun fl hfl => ?_⟩
      obtain ⟨s6, f6⟩ := new_at (o := .lst [.ref f8, .ref f9, .ref f10, .ref f11]) hfl
      generalize upd H fl (.lst [.ref f8, .ref f9, .ref f10, .ref f11]) = H6 at s6 f6 ⊢
      exact ⟨_, rfl, _, _, rfl, rfl, fl, _, 2, .ref f10, rfl, rfl, SqL.of f6, rfl, f10, _, (List.mem_cons_of_mem _ (List.mem_cons_of_mem _ List.mem_cons_self)), rfl, _, rfl, _, rfl, hk H6 s6 (fun _ _ => True)⟩
    · have hk : ∀ H1, Same H H1 → ∀ Q', (spC2 K C CB (spCkSe K C CSe)) [a, b] H1 Q' E := hk
      refine ⟨_, rfl, _, _, rfl, rfl, _, rfl, iteF ?_⟩
      refine ⟨_, rfl, rfl, _, rfl, iteF ?_⟩
      refine ⟨_, rfl, _, _, rfl, rfl, _, rfl, iteF ?_⟩
      refine ⟨_, rfl, rfl, _, rfl, iteF ?_⟩
      refine ⟨_, rfl, rfl, _, rfl, iteF ?_⟩
      refine ⟨_, rfl, rfl, _, rfl, iteF ?_⟩
      refine ⟨_, rfl, _, _, rfl, rfl, _, rfl, iteT ?_⟩
      refine ⟨(by show 4 ≤ sizeLine; decide), fun fl hfl => ?_⟩
      obtain ⟨s6, f6⟩ := new_at (o := .lst [.ref f8, .ref f9, .ref f10, .ref f11]) hfl
      generalize upd H fl (.lst [.ref f8, .ref f9, .ref f10, .ref f11]) = H6 at s6 f6 ⊢
      exact ⟨_, rfl, _, _, rfl, rfl, fl, _, 3, .ref f11, rfl, rfl, SqL.of f6, rfl, f11, _, (List.mem_cons_of_mem _ (List.mem_cons_of_mem _ (List.mem_cons_of_mem _ List.mem_cons_self))), rfl, _, rfl, _, rfl, hk H6 s6 (fun _ _ => True)⟩
    · have hk : ∀ H1, Same H H1 → ∀ Q', (spRs K C CB CT CN) [a, b, c] H1 Q' E := hk
      refine ⟨_, rfl, _, _, rfl, rfl, _, rfl, iteF ?_⟩
      refine ⟨_, rfl, rfl, _, rfl, iteF ?_⟩
      refine ⟨_, rfl, _, _, rfl, rfl, _, rfl, iteF ?_⟩
      refine ⟨_, rfl, rfl, _, rfl, iteF ?_⟩
      refine ⟨_, rfl, rfl, _, rfl, iteF ?_⟩
      refine ⟨_, rfl, rfl, _, rfl, iteF ?_⟩
      refine ⟨_, rfl, _, _, rfl, rfl, _, rfl, iteF ?_⟩
      refine ⟨_, rfl, rfl, _, rfl, iteT ?_⟩
      exact ⟨_, rfl, _, rfl, _, rfl, hk H (Same.refl H) (fun _ _ => True)⟩
    · have hk : ∀ H1, Same H H1 → ∀ Q', (spC2 K C CB (spCkOr K C COr)) [a, b] H1 Q' E := hk
      refine ⟨_, rfl, _, _, rfl, rfl, _, rfl, iteF ?_⟩
      refine ⟨_, rfl, rfl, _, rfl, iteF ?_⟩
      refine ⟨_, rfl, _, _, rfl, rfl, _, rfl, iteF ?_⟩
      refine ⟨_, rfl, rfl, _, rfl, iteF ?_⟩
      refine ⟨_, rfl, rfl, _, rfl, iteF ?_⟩
      refine ⟨_, rfl, rfl, _, rfl, iteF ?_⟩
      refine ⟨_, rfl, _, _, rfl, rfl, _, rfl, iteF ?_⟩
      refine ⟨_, rfl, rfl, _, rfl, iteF ?_⟩
      exact ⟨_, rfl, _, rfl, hk H (Same.refl H) (fun _ _ => True)⟩
end
end DL

set_option Elab.async false
set_option maxRecDepth 100000
set_option maxHeartbeats 4000000
namespace DL
open PySem PySem.Spec PyProof.Rows L2 HT TL
section
variable {K : PySem.W.Frag} {C CB CQ CC CS CSe CT CN COr CE : Addr} {z : Str} {vs : List V} {H : Hp} {Q : VK} {E E' : XK} (he : ∀ c d H', E c d H' → E' c d H')
include he
theorem exIni_imp {CB : Addr} {fld : Str} {x : V} {H : Hp} (h : exIni CB fld x H E) : exIni CB fld x H E' := fun d H' a b c => he _ _ _ (h d H' a b c)
theorem ckSgn_imp (h : spCkSgn K C z CE vs H Q E) : spCkSgn K C z CE vs H Q E' := by
  obtain ⟨c, v, n, t, e, hc, hv⟩ := h.h
  exact ⟨⟨c, v, n, t, e, hc, hv.imp (fun z => ⟨z.1, fun H' s => he _ _ _ (z.2 H' s)⟩) id⟩⟩
theorem ckCo_imp (h : spCkCo K C CE vs H Q E) : spCkCo K C CE vs H Q E' := by
  obtain ⟨c, v, n, t, e, hc, hv⟩ := h.h
  exact ⟨⟨c, v, n, t, e, hc, hv.imp (fun z => ⟨z.1, fun H' s => he _ _ _ (z.2 H' s)⟩) id⟩⟩
theorem ckOr_imp (h : spCkOr K C CE vs H Q E) : spCkOr K C CE vs H Q E' := by
  obtain ⟨c, v, n, t, e, n0, n7, hc, hv, k⟩ := h.h
  exact ⟨⟨c, v, n, t, e, n0, n7, hc, hv, fun H' s => he _ _ _ (k H' s)⟩⟩
theorem ckSe_imp (h : spCkSe K C CE vs H Q E) : spCkSe K C CE vs H Q E' := by
  obtain ⟨c, v, x, n, t, e, hc, hv, k⟩ := h.h
  exact ⟨⟨c, v, x, n, t, e, hc, hv, fun H' s => exIni_imp he (k H' s)⟩⟩
theorem few_imp (h : spFew9 C CE vs H Q E) : spFew9 C CE vs H Q E' := by
  obtain ⟨c, t, n, m, e, hc, hv⟩ := h.h
  exact ⟨⟨c, t, n, m, e, hc, hv.imp (fun z => ⟨z.1, z.2.1, z.2.2.1, exIni_imp he z.2.2.2⟩) id⟩⟩
theorem ckLen_imp (h : spCkLen K CE vs H Q E) : spCkLen K CE vs H Q E' := by
  obtain ⟨v, lo, m, e, hv⟩ := h.h
  exact ⟨⟨v, lo, m, e, hv.imp (fun z => ⟨z.1, exIni_imp he z.2⟩) id⟩⟩
theorem c1_imp (h : spC1 K C CB vs H Q E) : spC1 K C CB vs H Q E' := by
  obtain ⟨v, e, n, k⟩ := h
  exact ⟨v, e, n, he _ _ _ k⟩
theorem c2_imp {sp2 : Sp} (hs : ∀ {vs H Q}, sp2 vs H Q E → sp2 vs H Q E') (h : spC2 K C CB sp2 vs H Q E) : spC2 K C CB sp2 vs H Q E' := by
  obtain ⟨v, u, e, hv⟩ := h
  refine ⟨v, u, e, hv.imp (fun z => ⟨z.1, he _ _ _ z.2⟩) ?_⟩
  rintro ⟨c, n, t, e, hc, k⟩
  exact ⟨c, n, t, e, hc, fun Q' => hs (k Q')⟩
theorem c3_imp {sp2 : Sp} (hs : ∀ {vs H Q}, sp2 vs H Q E → sp2 vs H Q E') (h : spC3 K C CB sp2 vs H Q E) : spC3 K C CB sp2 vs H Q E' := by
  obtain ⟨v, u, x, e, hv⟩ := h
  refine ⟨v, u, x, e, hv.imp (fun z => ⟨z.1, he _ _ _ z.2⟩) ?_⟩
  rintro ⟨c, n, t, e, hc, k⟩
  exact ⟨c, n, t, e, hc, fun Q' => hs (k Q')⟩
theorem ch_imp (h : spCh K C CB CC CQ vs H Q E) : spCh K C CB CC CQ vs H Q E' := by
  obtain ⟨v, u, x, e, hv⟩ := h
  refine ⟨v, u, x, e, hv.imp (fun z => ⟨z.1, he _ _ _ z.2⟩) ?_⟩
  rintro ⟨c, n, t, e, hc, k⟩
  exact ⟨c, n, t, e, hc, fun Q' => (ckCo_imp he (k Q')).impQ fun _ H1 z => ckSgn_imp he z⟩
theorem rs_imp (h : spRs K C CB CT CN vs H Q E) : spRs K C CB CT CN vs H Q E' := by
  obtain ⟨v, u, x, e, hv⟩ := h
  refine ⟨v, u, x, e, hv.imp (fun z => ⟨z.1, he _ _ _ z.2⟩) ?_⟩
  rintro ⟨c, n, t, e, hc, k⟩
  exact ⟨c, n, t, e, hc, fun Q' => (few_imp he (k Q')).impQ fun _ H1 z => (ckLen_imp he z).impQ fun _ H2 z => ckLen_imp he z⟩
theorem JCase.imp {a b c : V} {H1 : Hp} : ∀ {kd : Nat}, JCase K C CB CQ CC CS CSe CT CN COr a b c H1 E kd → JCase K C CB CQ CC CS CSe CT CN COr a b c H1 E' kd
  | 0, h => fun Q' => c1_imp he (h Q')
  | 1, h => fun Q' => c1_imp he (h Q')
  | 2, h => fun Q' => c1_imp he (h Q')
  | 3, h => fun Q' => c2_imp he (ckSgn_imp he) (h Q')
  | 4, h => fun Q' => c2_imp he (ckSgn_imp he) (h Q')
  | 5, h => fun Q' => c3_imp he (ckSgn_imp he) (h Q')
  | 6, h => fun Q' => ch_imp he (h Q')
  | 7, h => fun Q' => c2_imp he (ckSgn_imp he) (h Q')
  | 8, h => fun Q' => c2_imp he (ckSe_imp he) (h Q')
  | 9, h => fun Q' => c2_imp he (ckSe_imp he) (h Q')
  | 10, h => fun Q' => c2_imp he (ckSe_imp he) (h Q')
  | 11, h => fun Q' => c2_imp he (ckSe_imp he) (h Q')
  | 12, h => fun Q' => rs_imp he (h Q')
  | 13, h => fun Q' => c2_imp he (ckOr_imp he) (h Q')
  | _ + 14, h => h.elim
end
def exJ (CB CQ CC CS CSe CT CN COr : Addr) (Q : VK) : XK := fun cls d H3 => (cls = .ref CB ∧ Q (.str "cabinet") H3) ∨ (cls = .ref CQ ∧ Q (.str "pattern") H3) ∨ (cls = .ref CC ∧ Q (.str "costs") H3) ∨ (cls = .ref CS ∧ Q (.str "standing") H3) ∨ (cls = .ref CSe ∧ ∃ (dd : Addr) (x : V), d = some dd ∧ H3 dd = some (.xd [("index", x)]) ∧ ∀ l, H3 l = none → Q (.ref l) (upd H3 l (.lst [.str "seen", x]))) ∨ (cls = .ref CT ∧ ∃ (dd : Addr) (x : V), d = some dd ∧ H3 dd = some (.xd [("most", x)]) ∧ ∀ l, H3 l = none → Q (.ref l) (upd H3 l (.lst [.str "many", x]))) ∨ (cls = .ref CN ∧ ∃ (dd : Addr) (x : V), d = some dd ∧ H3 dd = some (.xd [("n", x)]) ∧ ∀ l, H3 l = none → Q (.ref l) (upd H3 l (.lst [x]))) ∨ (cls = .ref COr ∧ Q (.str "order") H3)
structure spJRef (K : PySem.W.Frag) (C CB CQ CC CS CSe CT CN COr : Addr) (vs : List V) (H : Hp) (Q : VK) (_ : XK) : Prop where
  h : ∃ (kd : Nat) (a b c : V), vs = [.int kd, a, b, c] ∧ ∀ H1, Same H H1 → JCase K C CB CQ CC CS CSe CT CN COr a b c H1 (exJ CB CQ CC CS CSe CT CN COr Q) kd
section
variable {P : Program} {w : World} {K : PySem.W.Frag} {mg : Str → Option Value} {base : Heap}
abbrev nJR : List Str := ["_law_kind", "_law_first", "_law_second", "_law_third", "_law_found", "e"]
theorem scJR : FnScope nJR ["_law_kind", "_law_first", "_law_second", "_law_third"] (defScope s__law_refused) := ⟨rfl, rfl, rfl, by decide +kernel, rfl, by decide +kernel, by decide +kernel⟩
theorem ok_jRef {f f1 C CB CQ CC CS CSe CT CN COr : Addr} {fd fd1 : FuncData} (F : Fun K "_law_refused" "_law_refused" s__law_refused f fd)
    (G1 : FnOk P w K mg base (L2.CX P w) 9 f1 fd1 nJC (spJCall K C CB CQ CC CS CSe CT CN COr)) (g1 : mg "_law_call" = some (.ref f1)) (k1 : PySem.W.keepIn K (.ref f1) = true) (b1 : Binds K fd1 nJC [])
    (h0 : mg "BadCabinet" = some (.ref CB)) (h1 : mg "BadPattern" = some (.ref CQ)) (h2 : mg "BadCosts" = some (.ref CC)) (h3 : mg "BadStanding" = some (.ref CS)) (h4 : mg "BadSeen" = some (.ref CSe)) (h5 : mg "TooMany" = some (.ref CT)) (h6 : mg "BadNumber" = some (.ref CN)) (h7 : mg "BadOrder" = some (.ref COr))
    (X : ApartN K [CB, CQ, CC, CS, CSe, CT, CN, COr]) (XF4 : XfC K CSe) (AT4 : PySem.W.findIn K (.ref CSe) "index" = some none) (XF5 : XfC K CT) (AT5 : PySem.W.findIn K (.ref CT) "most" = some none) (XF6 : XfC K CN) (AT6 : PySem.W.findIn K (.ref CN) "n" = some none) :
    FnOk P w K mg base CX0 11 f fd nJC (spJRef K C CB CQ CC CS CSe CT CN COr) := by
  refine F.ok scJR (fun vs H Q E h => ?_) (fun cdv A outer s H vs Q E hr h => ?_)
  · obtain ⟨kd, a, b, c, rfl, _⟩ := h.h
    rfl
  · obtain ⟨kd, a, b, c, rfl, hk⟩ := h.h
    refine ⟨_, pss_cons (ps_set (i := 4) scJR.nd rfl (Or.inl rfl) pe_non)
      (pss_cons (ps_try_any (tb := fun W => tDrop (tCallS (spJCall K C CB CQ CC CS CSe CT CN COr) (WE W) (tCons (tVar 0) (tCons (tVar 1) (tCons (tVar 2) (tCons (tVar 3) tNil)))))) (l := [(.ref CB, none, fun _ _ _ => tAsg (tC (.str "cabinet")) (gName 4)), (.ref CQ, none, fun _ _ _ => tAsg (tC (.str "pattern")) (gName 4)), (.ref CC, none, fun _ _ _ => tAsg (tC (.str "costs")) (gName 4)), (.ref CS, none, fun _ _ _ => tAsg (tC (.str "standing")) (gName 4)), (.ref CSe, some 5, fun a cls d => tAsg (tLst (tCons (tC (.str "seen")) (tCons (tXf a cls d CSe "index" (tVar 5)) tNil))) (gName 4)), (.ref CT, some 5, fun a cls d => tAsg (tLst (tCons (tC (.str "many")) (tCons (tXf a cls d CT "most" (tVar 5)) tNil))) (gName 4)), (.ref CN, some 5, fun a cls d => tAsg (tLst (tCons (tXf a cls d CN "n" (tVar 5)) tNil)) (gName 4)), (.ref COr, none, fun _ _ _ => tAsg (tC (.str "order")) (gName 4))]) (Wout := fun _ _ _ _ => False) rfl rfl takes0
        (fun W pn xe tk _ => pss_one (ps_expr (by exact (pe_callS G1 (hr.mono (by decide)) rfl g1 k1 b1 (fun σ => passAt tk σ) (by exact (pa_cons (pv 0) (pa_cons (pv 1) (pa_cons (pv 2) (pa_cons (pv 3) pa_nil)))))))))
        (.plain ⟨rfl, by decide, Or.inl h0⟩ (fun a oe cls d pn _ _ => pss_one (ps_set (i := 4) scJR.nd rfl (Or.inl rfl) pe_str)) (.plain ⟨rfl, by decide, Or.inl h1⟩ (fun a oe cls d pn _ _ => pss_one (ps_set (i := 4) scJR.nd rfl (Or.inl rfl) pe_str)) (.plain ⟨rfl, by decide, Or.inl h2⟩ (fun a oe cls d pn _ _ => pss_one (ps_set (i := 4) scJR.nd rfl (Or.inl rfl) pe_str)) (.plain ⟨rfl, by decide, Or.inl h3⟩ (fun a oe cls d pn _ _ => pss_one (ps_set (i := 4) scJR.nd rfl (Or.inl rfl) pe_str)) (.named scJR.nd rfl rfl ⟨rfl, by decide, Or.inl h4⟩ (fun a oe cls d pn hz hf => pss_one (ps_set (i := 4) scJR.nd rfl (Or.inl rfl) (pe_lst (pa_cons pe_str (pa_cons (pe_xf XF4 AT4 hz hf (by exact (pv 5))) pa_nil))))) (.named scJR.nd rfl rfl ⟨rfl, by decide, Or.inl h5⟩ (fun a oe cls d pn hz hf => pss_one (ps_set (i := 4) scJR.nd rfl (Or.inl rfl) (pe_lst (pa_cons pe_str (pa_cons (pe_xf XF5 AT5 hz hf (by exact (pv 5))) pa_nil))))) (.named scJR.nd rfl rfl ⟨rfl, by decide, Or.inl h6⟩ (fun a oe cls d pn hz hf => pss_one (ps_set (i := 4) scJR.nd rfl (Or.inl rfl) (pe_lst (pa_cons (pe_xf XF6 AT6 hz hf (by exact (pv 5))) pa_nil)))) (.plain ⟨rfl, by decide, Or.inl h7⟩ (fun a oe cls d pn _ _ => pss_one (ps_set (i := 4) scJR.nd rfl (Or.inl rfl) pe_str)) .nil)))))))))
      (pss_one (ps_ret (pv 4)))), ?_⟩
    refine ⟨_, rfl, _, rfl, _, rfl, _, rfl, ⟨⟨kd, a, b, c, rfl, fun H1 s1 => (hk H1 s1).imp fun cls d H3 hx => ?_⟩⟩⟩
    rcases hx with hx | hx | hx | hx | hx | hx | hx | hx
    · obtain ⟨rfl, q⟩ := hx
      exact any_hitP (X.one 0 0 _ _ rfl rfl) fun a na => ⟨_, rfl, q⟩
    · obtain ⟨rfl, q⟩ := hx
      refine any_missP (X.one 1 0 _ _ rfl rfl) ?_
      exact any_hitP (X.one 1 1 _ _ rfl rfl) fun a na => ⟨_, rfl, q⟩
    · obtain ⟨rfl, q⟩ := hx
      refine any_missP (X.one 2 0 _ _ rfl rfl) ?_
      refine any_missP (X.one 2 1 _ _ rfl rfl) ?_
      exact any_hitP (X.one 2 2 _ _ rfl rfl) fun a na => ⟨_, rfl, q⟩
    · obtain ⟨rfl, q⟩ := hx
      refine any_missP (X.one 3 0 _ _ rfl rfl) ?_
      refine any_missP (X.one 3 1 _ _ rfl rfl) ?_
      refine any_missP (X.one 3 2 _ _ rfl rfl) ?_
      exact any_hitP (X.one 3 3 _ _ rfl rfl) fun a na => ⟨_, rfl, q⟩
    · obtain ⟨rfl, dd, x, rfl, hx, q⟩ := hx
      refine any_missP (X.one 4 0 _ _ rfl rfl) ?_
      refine any_missP (X.one 4 1 _ _ rfl rfl) ?_
      refine any_missP (X.one 4 2 _ _ rfl rfl) ?_
      refine any_missP (X.one 4 3 _ _ rfl rfl) ?_
      exact any_hitP (X.one 4 4 _ _ rfl rfl) fun a na => ⟨_, rfl, rfl, rfl, dd, _, x, rfl, hx, by simp [List.lookup], by show 2 ≤ sizeLine; decide, fun l hl => ⟨_, rfl, q l hl⟩⟩
    · obtain ⟨rfl, dd, x, rfl, hx, q⟩ := hx
      refine any_missP (X.one 5 0 _ _ rfl rfl) ?_
      refine any_missP (X.one 5 1 _ _ rfl rfl) ?_
      refine any_missP (X.one 5 2 _ _ rfl rfl) ?_
      refine any_missP (X.one 5 3 _ _ rfl rfl) ?_
      refine any_missP (X.one 5 4 _ _ rfl rfl) ?_
      exact any_hitP (X.one 5 5 _ _ rfl rfl) fun a na => ⟨_, rfl, rfl, rfl, dd, _, x, rfl, hx, by simp [List.lookup], by show 2 ≤ sizeLine; decide, fun l hl => ⟨_, rfl, q l hl⟩⟩
    · obtain ⟨rfl, dd, x, rfl, hx, q⟩ := hx
      refine any_missP (X.one 6 0 _ _ rfl rfl) ?_
      refine any_missP (X.one 6 1 _ _ rfl rfl) ?_
      refine any_missP (X.one 6 2 _ _ rfl rfl) ?_
      refine any_missP (X.one 6 3 _ _ rfl rfl) ?_
      refine any_missP (X.one 6 4 _ _ rfl rfl) ?_
      refine any_missP (X.one 6 5 _ _ rfl rfl) ?_
      exact any_hitP (X.one 6 6 _ _ rfl rfl) fun a na => ⟨_, rfl, rfl, rfl, dd, _, x, rfl, hx, by simp [List.lookup], by show 1 ≤ sizeLine; decide, fun l hl => ⟨_, rfl, q l hl⟩⟩
    · obtain ⟨rfl, q⟩ := hx
      refine any_missP (X.one 7 0 _ _ rfl rfl) ?_
      refine any_missP (X.one 7 1 _ _ rfl rfl) ?_
      refine any_missP (X.one 7 2 _ _ rfl rfl) ?_
      refine any_missP (X.one 7 3 _ _ rfl rfl) ?_
      refine any_missP (X.one 7 4 _ _ rfl rfl) ?_
      refine any_missP (X.one 7 5 _ _ rfl rfl) ?_
      refine any_missP (X.one 7 6 _ _ rfl rfl) ?_
      exact any_hitP (X.one 7 7 _ _ rfl rfl) fun a na => ⟨_, rfl, q⟩
end
end DL

set_option Elab.async false
set_option maxRecDepth 100000
set_option maxHeartbeats 4000000
namespace DL
open PySem PySem.Spec PyProof.Rows L2 HT TL
/-! ### calls that are refused, case by case -/
section
variable {K : PySem.W.Frag} {C CB CQ CC CS CSe CT CN COr : Addr} {a b c : V} {H1 : Hp} {E : XK} {c0 t : Addr} {n : Int}
theorem BadCo.same {H H' : Hp} {v : V} (h : BadCo K H n v) (s : Same H H') : BadCo K H' n v := by
  rcases h with ⟨t, h1, h2⟩ | ⟨a, xs, e, S, r⟩
  · exact .inl ⟨t, fun H2 s2 => h1 H2 (s.trans s2), h2⟩
  · exact .inr ⟨a, xs, e, SqT.same s S, r⟩
theorem GoodCo.same {H H' : Hp} {v : V} (h : GoodCo K H n v) (s : Same H H') : GoodCo K H' n v := by
  obtain ⟨a, xs, e, S, r⟩ := h
  exact ⟨a, xs, e, SqT.same s S, r⟩
theorem BadOr.same {H H' : Hp} {v : V} (h : BadOr K H n v) (s : Same H H') : BadOr K H' n v := by
  rcases h with ⟨t, h1, h2⟩ | ⟨a, xs, e, S, r⟩
  · exact .inl ⟨t, fun H2 s2 => h1 H2 (s.trans s2), h2⟩
  · exact .inr ⟨a, xs, e, SqT.same s S, r⟩
theorem BadSe.same {H H' : Hp} {v x : V} (h : BadSe K H n v x) (s : Same H H') : BadSe K H' n v x := by
  cases h with
  | ty h1 h2 => exact .ty (fun H2 s2 => h1 H2 (s.trans s2)) h2
  | long S l => exact .long (S.same s) l
  | at_ S l nn no =>
    refine .at_ (S.same s) l nn (no.imp id ?_)
    rintro ⟨a, t, e, h1, h2, h3⟩
    exact ⟨a, t, e, fun H2 s2 => h1 H2 (s.trans s2), h2, h3⟩
theorem J_cab : ∀ {kd : Nat}, kd < 14 → NoCab K C H1 a → E (.ref CB) none H1 → JCase K C CB CQ CC CS CSe CT CN COr a b c H1 E kd
  | 0, _, h, k => fun _ => ⟨_, rfl, h, k⟩
  | 1, _, h, k => fun _ => ⟨_, rfl, h, k⟩
  | 2, _, h, k => fun _ => ⟨_, rfl, h, k⟩
  | 3, _, h, k => fun _ => ⟨_, _, rfl, .inl ⟨h, k⟩⟩
  | 4, _, h, k => fun _ => ⟨_, _, rfl, .inl ⟨h, k⟩⟩
  | 5, _, h, k => fun _ => ⟨_, _, _, rfl, .inl ⟨h, k⟩⟩
  | 6, _, h, k => fun _ => ⟨_, _, _, rfl, .inl ⟨h, k⟩⟩
  | 7, _, h, k => fun _ => ⟨_, _, rfl, .inl ⟨h, k⟩⟩
  | 8, _, h, k => fun _ => ⟨_, _, rfl, .inl ⟨h, k⟩⟩
  | 9, _, h, k => fun _ => ⟨_, _, rfl, .inl ⟨h, k⟩⟩
  | 10, _, h, k => fun _ => ⟨_, _, rfl, .inl ⟨h, k⟩⟩
  | 11, _, h, k => fun _ => ⟨_, _, rfl, .inl ⟨h, k⟩⟩
  | 12, _, h, k => fun _ => ⟨_, _, _, rfl, .inl ⟨h, k⟩⟩
  | 13, _, h, k => fun _ => ⟨_, _, rfl, .inl ⟨h, k⟩⟩
  | _ + 14, q, _, _ => absurd q (by omega)
theorem J_pat {kd : Nat} (h3 : 3 ≤ kd) (h5 : kd ≤ 5) (hc : CabAt C H1 c0 n t) (hb : BadSgn K "os?" H1 n b) (k : ∀ H', Same H1 H' → E (.ref CQ) none H') : JCase K C CB CQ CC CS CSe CT CN COr (.ref c0) b c H1 E kd := by
  have : kd = 3 ∨ kd = 4 ∨ kd = 5 := by omega
  rcases this with rfl | rfl | rfl
  · exact fun _ => ⟨_, _, rfl, .inr ⟨c0, n, t, rfl, hc, fun _ => ⟨⟨c0, b, n, t, rfl, hc, .inl ⟨hb, k⟩⟩⟩⟩⟩
  · exact fun _ => ⟨_, _, rfl, .inr ⟨c0, n, t, rfl, hc, fun _ => ⟨⟨c0, b, n, t, rfl, hc, .inl ⟨hb, k⟩⟩⟩⟩⟩
  · exact fun _ => ⟨_, _, _, rfl, .inr ⟨c0, n, t, rfl, hc, fun _ => ⟨⟨c0, b, n, t, rfl, hc, .inl ⟨hb, k⟩⟩⟩⟩⟩
theorem J_cos (hc : CabAt C H1 c0 n t) (hb : BadCo K H1 n b) (k : ∀ H', Same H1 H' → E (.ref CC) none H') : JCase K C CB CQ CC CS CSe CT CN COr (.ref c0) b c H1 E 6 :=
  fun _ => ⟨_, _, _, rfl, .inr ⟨c0, n, t, rfl, hc, fun _ => ⟨⟨c0, b, n, t, rfl, hc, .inl ⟨hb, k⟩⟩⟩⟩⟩
theorem J_cop (hc : CabAt C H1 c0 n t) (hg : GoodCo K H1 n b) (hb : BadSgn K "os?" H1 n c) (k : ∀ H', Same H1 H' → E (.ref CQ) none H') : JCase K C CB CQ CC CS CSe CT CN COr (.ref c0) b c H1 E 6 :=
  fun _ => ⟨_, _, _, rfl, .inr ⟨c0, n, t, rfl, hc, fun _ => ⟨⟨c0, b, n, t, rfl, hc, .inr ⟨hg, fun H' s => ⟨⟨c0, c, n, t, rfl, hc.sameI s, .inl ⟨hb.same s, fun H2 s2 => k H2 (s.trans s2)⟩⟩⟩⟩⟩⟩⟩⟩
theorem J_std (hc : CabAt C H1 c0 n t) (hb : BadSgn K "os" H1 n b) (k : ∀ H', Same H1 H' → E (.ref CS) none H') : JCase K C CB CQ CC CS CSe CT CN COr (.ref c0) b c H1 E 7 :=
  fun _ => ⟨_, _, rfl, .inr ⟨c0, n, t, rfl, hc, fun _ => ⟨⟨c0, b, n, t, rfl, hc, .inl ⟨hb, k⟩⟩⟩⟩⟩
theorem J_seen {kd : Nat} {x : V} (h8 : 8 ≤ kd) (h11 : kd ≤ 11) (hc : CabAt C H1 c0 n t) (hb : BadSe K H1 n b x) (k : ∀ H', Same H1 H' → exIni CSe "index" x H' E) : JCase K C CB CQ CC CS CSe CT CN COr (.ref c0) b c H1 E kd := by
  have : kd = 8 ∨ kd = 9 ∨ kd = 10 ∨ kd = 11 := by omega
  rcases this with rfl | rfl | rfl | rfl <;> exact fun _ => ⟨_, _, rfl, .inr ⟨c0, n, t, rfl, hc, fun _ => ⟨⟨c0, b, x, n, t, rfl, hc, hb, k⟩⟩⟩⟩
theorem J_many (hc : CabAt C H1 c0 n t) (h4 : 4 < n) (k : exIni CT "most" (.int 4) H1 E) : JCase K C CB CQ CC CS CSe CT CN COr (.ref c0) b c H1 E 12 :=
  fun _ => ⟨_, _, _, rfl, .inr ⟨c0, n, t, rfl, hc, fun _ => ⟨⟨c0, t, n, 4, rfl, hc, .inl ⟨h4, by decide, by decide, k⟩⟩⟩⟩⟩
theorem J_len (hc : CabAt C H1 c0 n t) (h4 : n ≤ 4) (hb : BadLenL K H1 0 1000000000000000000000000000000 b) (k : exIni CN "n" b H1 E) : JCase K C CB CQ CC CS CSe CT CN COr (.ref c0) b c H1 E 12 :=
  fun _ => ⟨_, _, _, rfl, .inr ⟨c0, n, t, rfl, hc, fun _ => ⟨⟨c0, t, n, 4, rfl, hc, .inr ⟨h4, ⟨⟨b, 0, _, rfl, .inl ⟨hb, k⟩⟩⟩⟩⟩⟩⟩⟩
theorem J_div {i : Int} (hc : CabAt C H1 c0 n t) (h4 : n ≤ 4) (i0 : 0 ≤ i) (i1 : i ≤ 1000000000000000000000000000000) (hb : BadLenL K H1 1 1000000000 c) (k : exIni CN "n" c H1 E) : JCase K C CB CQ CC CS CSe CT CN COr (.ref c0) (.int i) c H1 E 12 :=
  fun _ => ⟨_, _, _, rfl, .inr ⟨c0, n, t, rfl, hc, fun _ => ⟨⟨c0, t, n, 4, rfl, hc, .inr ⟨h4, ⟨⟨.int i, 0, _, rfl, .inr ⟨i, rfl, i0, i1, ⟨⟨c, 1, _, rfl, .inl ⟨hb, k⟩⟩⟩⟩⟩⟩⟩⟩⟩⟩⟩
theorem J_ord (hc : CabAt C H1 c0 n t) (n0 : 0 ≤ n) (n7 : n ≤ 7) (hb : BadOr K H1 n b) (k : ∀ H', Same H1 H' → E (.ref COr) none H') : JCase K C CB CQ CC CS CSe CT CN COr (.ref c0) b c H1 E 13 :=
  fun _ => ⟨_, _, rfl, .inr ⟨c0, n, t, rfl, hc, fun _ => ⟨⟨c0, b, n, t, rfl, n0, n7, hc, hb, k⟩⟩⟩⟩
/-- odd numbers -/
def oddN (v : V) : Prop := scV v = true ∧ ∀ i, v ≠ .int i
theorem bad_odd {lo m : Int} {v : V} {H : Hp} (h : oddN v) : BadLenL K H lo m v := by
  obtain ⟨h1, h2⟩ := h
  cases v with
  | int i => exact absurd rfl (h2 i)
  | non => exact .inl ⟨.type "NoneType", false, false, .base .non, kit_ty (by decide +kernel), kit_ty (by decide +kernel), rfl⟩
  | bl b => exact .inl ⟨.type "bool", true, true, .base (.bl b), kit_ty (by decide +kernel), kit_ty (by decide +kernel), rfl⟩
  | str z => exact .inl ⟨.type "str", false, false, .base (.str z), kit_ty (by decide +kernel), kit_ty (by decide +kernel), rfl⟩
  | _ => cases h1
end
end DL

set_option Elab.async false
set_option maxRecDepth 100000
namespace DL
open PySem L2 HT TL RZ
/-! ### the first row that parts two cabinets -/
def InR (n : Nat) (r : List Int) : Prop := ∀ d ∈ r, 0 ≤ d ∧ d < n
section
variable {b1 b2 : List Bar} {s0 : List Bool} {es : List Ent}
theorem InR.init {n : Nat} {r : List Int} {d : Int} (h : InR n (r ++ [d])) : InR n r ∧ 0 ≤ d ∧ d < n := ⟨fun x hx => h x (List.mem_append_left _ hx), h d (List.mem_append_right _ (List.mem_singleton.mpr rfl))⟩
theorem InR.low {n : Nat} {r : List Int} (h : InR n r) (h7 : n ≤ 7) : Low7 r := fun d hd => by
  have := h d hd
  omega
end
end DL

set_option Elab.async false
set_option maxRecDepth 100000

set_option Elab.async false
set_option maxRecDepth 100000
namespace DL
open PySem L2 HT TL RZ
/-! ### == of bars as data -/
/-! ### the bars against each pull that does not go -/
def needE (ks : List (Addr × Bar)) (n : Nat) (st : List Bool) : List (List (Addr × Bar)) := ((drs n).map fun d => ks.filter fun k => hind k.2 st d).filter fun l => !l.isEmpty
structure NeedsAt (H : Hp) (x : Addr) (ks : List (Addr × Bar)) (gs : List (Addr × List (Addr × Bar))) : Prop where
  el : ∀ g ∈ gs, H g.1 = some (.lst (g.2.map fun k => V.ref k.1)) ∧ g.1 ≠ x ∧ ∀ k ∈ g.2, k ∈ ks
theorem NeedsAt.same {H H' : Hp} {x : Addr} {ks : List (Addr × Bar)} {gs : List (Addr × List (Addr × Bar))} (N : NeedsAt H x ks gs) (s : Same H H') : NeedsAt H' x ks gs := ⟨fun g hg => ⟨s _ _ (N.el g hg).1, (N.el g hg).2⟩⟩
end DL

set_option Elab.async false
set_option maxRecDepth 100000
namespace DL
open PySem L2 HT TL RZ
def single (ks : List (Addr × Bar)) (n : Nat) (es : List Ent) (b : Bar) : Bool := (es.flatMap fun e => needE ks n e.1).any fun l => decide (l.map (·.2) = [b])
end DL

set_option Elab.async false
set_option maxRecDepth 100000

set_option Elab.async false
set_option maxRecDepth 100000
set_option maxHeartbeats 8000000
namespace DL
open PySem PySem.Spec PyProof.Rows L2 HT TL
theorem all_rep {x : V} {f : V → Bool} : ∀ {k : Nat}, 1 ≤ k → (List.replicate k x).all f = f x
  | 0, h => absurd h (by decide)
  | 1, _ => by simp
  | k + 2, _ => by
    rw [List.replicate_succ, List.all_cons, all_rep (k := k + 1) (by omega), Bool.and_self]
theorem mem_rep {x y : V} {k : Nat} (h : y ∈ List.replicate k x) : y = x := List.eq_of_mem_replicate h
theorem ne_same {K : PySem.W.Frag} {H : Hp} {x y : V} {d : PyData} {Q : VK} (h1 : Dp K H x d) (h2 : Dp K H y d) (hd : dok 2 d) (k : Q (.bl false) H) : rNeD K x y H Q :=
  ⟨d, d, h1, h2, dok_shaped hd (by decide), dok_shaped hd (by decide), by rw [eqv_self hd]; exact k⟩
/-- the data of a single value -/
def sD : V → PyData
  | .bl b => .bool b
  | .int i => .int i
  | .str z => .str z
  | _ => .none
structure OkS (x : V) : Prop where
  sc : scV x = true
  d : dok 1 (sD x)
theorem OkS.dp {K : PySem.W.Frag} {H : Hp} {x : V} (h : OkS x) : Dp K H x (sD x) := by
  have := h.sc
  cases x with
  | non => exact .non
  | bl b => exact .bl b
  | int i => exact .int i
  | str z => exact .str z
  | _ => cases this
theorem okS_non : OkS .non := ⟨rfl, by simp [sD, PyData.canLay0], by simp [sD, PyData.depth]⟩
theorem okS_bl (b : Bool) : OkS (.bl b) := ⟨rfl, by simp [sD, PyData.canLay0], by simp [sD, PyData.depth]⟩
theorem okS_int (i : Int) : OkS (.int i) := ⟨rfl, dok_int i⟩
theorem okS_str {z : Str} (h : PyData.strOk z = true) : OkS (.str z) := ⟨rfl, dok_str h⟩
theorem dok_two {x y : V} (hx : OkS x) (hy : OkS y) : dok 2 (.list [sD x, sD y]) := dok_list fun d hd => by
  rcases List.mem_cons.mp hd with rfl | hd
  · exact hx.d
  · rw [List.mem_singleton.mp hd]; exact hy.d
theorem dok_one {x : V} (hx : OkS x) : dok 2 (.list [sD x]) := dok_list fun d hd => by rw [List.mem_singleton.mp hd]; exact hx.d
theorem dp_two {K : PySem.W.Frag} {H : Hp} {l : Addr} {x y : V} (hx : OkS x) (hy : OkS y) (h : H l = some (.lst [x, y])) : Dp K H (.ref l) (.list [sD x, sD y]) := .lst (SqL.of h) (.cons hx.dp (.cons hy.dp .nil))
theorem dp_one {K : PySem.W.Frag} {H : Hp} {l : Addr} {x : V} (hx : OkS x) (h : H l = some (.lst [x])) : Dp K H (.ref l) (.list [sD x]) := .lst (SqL.of h) (.cons hx.dp .nil)
theorem kit_bad {K : PySem.W.Frag} {T : String} (h1 : PySem.W.kitOne K (.type T) (.type "list") = some false) (h2 : PySem.W.kitOne K (.type T) (.type "tuple") = some false) : PySem.W.kitAny K (.type T) [.type "list", .type "tuple"] = some false := by
  simp [PySem.W.kitAny, h1, h2]
theorem ints_ne {H : Hp} {r a x : Addr} {l : List Int} (R : RowOk H r a) (h : H x = some (.lst (l.map V.int))) : x ≠ r := fun e => by
  obtain ⟨i, m, c, hr, _⟩ := R.h
  rw [e, hr] at h
  injection h with h
  injection h with h
  cases l with
  | nil => cases h
  | cons w ws => cases h
theorem rg_ints (a b : Int) : rgV a b = ((List.range (b - a).toNat).map fun i => a + ((i : Nat) : Int)).map V.int := by
  unfold rgV
  rw [List.map_map]
  rfl
theorem rg_sc {a b : Int} {x : V} (h : x ∈ rgV a b) : scV x = true := by
  rw [rg_ints] at h
  obtain ⟨i, _, rfl⟩ := List.mem_map.mp h
  rfl
structure St31 (C r a c t : Addr) (n : Int) (H0 H : Hp) : Prop where
  R : RowOk H r a
  B : But r H0 H
  Cb : CabAt C H c n t
theorem St31.same {C r a c t : Addr} {n : Int} {H0 H H' : Hp} (S : St31 C r a c t n H0 H) (s : Same H H') : St31 C r a c t n H0 H' := ⟨S.R.same s, S.B.trans (sbut s), S.Cb.sameI s⟩
theorem CabAt.butR {C r a c t : Addr} {n : Int} {H H' : Hp} (h : CabAt C H c n t) (R : RowOk H r a) (b : But r H H') : CabAt C H' c n t := by
  obtain ⟨dx, hc⟩ := h
  obtain ⟨i, m, e, hr, _⟩ := R.h
  exact ⟨dx, b _ _ (ne_of hc hr (by intro z; cases z)) hc⟩
theorem St31.but {C r a c t : Addr} {n : Int} {H0 H H' : Hp} (S : St31 C r a c t n H0 H) (R : RowOk H' r a) (b : But r H H') : St31 C r a c t n H0 H' := ⟨R, S.B.trans b, S.Cb.butR S.R b⟩
def spLaw31 (K : PySem.W.Frag) : Sp := fun vs H Q _ => ∃ (a : Addr) (ns : List Int), vs = [.ref a] ∧ SqL K H a (ns.map V.int) ∧ ns.length ≤ 63 ∧ ∀ H', Q (.bl true) H'
section
variable {P : Program} {w : World} {K : PySem.W.Frag} {mg : Str → Option Value} {base : Heap}
abbrev nLaw31 : List Str := ["_law_script", "_law_row", "_law_turn", "_law_d", "_law_cabinet", "_law_many", "_law_costs", "_law_kind", "_law_at", "_law_none", "_law_bad", "_law_wide", "_law_far", "_law_divisor", "_law_order"]
theorem scLaw31 : FnScope nLaw31 ["_law_script"] (defScope s_law) := ⟨rfl, rfl, rfl, by decide +kernel, rfl, by decide +kernel, by decide +kernel⟩
theorem ok_law {f fT fP fM fR fO fS fI C CB CQ CC CS CSe CT CN COr : Addr} {fd dT dP dM dR dO dS dI : FuncData} (F : Fun K "law" "law" s_law f fd) (T : Bt mg) (zL : mg "list" = none) (gC : mg "Cabinet" = some (.ref C)) (MC : Mk K C fI) (GI : FnOk P w K mg base CX0 5 fI dI ["self", "drawers", "bars"] (spInit C)) (bI : Binds K dI ["self", "drawers", "bars"] [])
    (GT : FnOk P w K mg base CX0 1 fT dT ["_law_row", "_law_many"] (spTaken K)) (gT : mg "_law_taken" = some (.ref fT)) (kT : PySem.W.keepIn K (.ref fT) = true) (bT : Binds K dT ["_law_row", "_law_many"] [])
    (GP : FnOk P w K mg base CX0 2 fP dP ["_law_row", "_law_most"] (spParts K)) (gP : mg "_law_parts" = some (.ref fP)) (kP : PySem.W.keepIn K (.ref fP) = true) (bP : Binds K dP ["_law_row", "_law_most"] [])
    (GM : FnOk P w K mg base CX0 7 fM dM ["_law_d"] (spMade C)) (gM : mg "_law_made" = some (.ref fM)) (kM : PySem.W.keepIn K (.ref fM) = true) (bM : Binds K dM ["_law_d"] [])
    (GR : FnOk P w K mg base CX0 11 fR dR nJC (spJRef K C CB CQ CC CS CSe CT CN COr)) (gR : mg "_law_refused" = some (.ref fR)) (kR : PySem.W.keepIn K (.ref fR) = true) (bR : Binds K dR nJC [])
    (GO : FnOk P w K mg base CX0 2 fO dO ["_law_row"] (spOddC K C)) (gO : mg "_law_odd" = some (.ref fO)) (kO : PySem.W.keepIn K (.ref fO) = true) (bO : Binds K dO ["_law_row"] [])
    (GS : FnOk P w K mg base CX0 2 fS dS ["_law_row", "_law_many", "_law_signs"] (spOddS K)) (gS : mg "_law_odd_standing" = some (.ref fS)) (kS : PySem.W.keepIn K (.ref fS) = true) (bS : Binds K dS ["_law_row", "_law_many", "_law_signs"] []) :
    FnOk P w K mg base CX0 12 f fd ["_law_script"] (spLaw31 K) := by
  refine F.ok scLaw31 (fun vs H Q E h => ?_) (fun cdv A outer s H vs Q E hr h => ?_)
  · obtain ⟨a, ns, rfl, _⟩ := h
    rfl
  · obtain ⟨a, ns, rfl, hS, hlen, k⟩ := h
    have hu : _ + 64 < cLine := hr.units
    refine ⟨_, pss_cons (ps_set (i := 1) scLaw31.nd rfl (Or.inl rfl) (pe_lst (pa_cons (pv 0) (pa_cons pe_int (pa_cons pe_int (pa_cons pe_int pa_nil))))))
      (pss_cons (ps_for PassesOwn.never rfl (pi_range1 rfl T.range (pa_cons pe_int pa_nil)) (pg_name (i := 2) scLaw31.nd rfl (Or.inl rfl))
        (pss_cons (ps_set (i := 3) scLaw31.nd rfl (Or.inl rfl) (pe_call GP (hr.mono (by decide)) rfl gP kP bP .nil pass0 (pa_cons (pv 1) (pa_cons pe_int pa_nil))))
        (C8.pss_cut (ps_par (i := 4) (j := 5) (by rfl) scLaw31.nd rfl rfl (by decide) rfl rfl (pa_cons (pe_call GM (hr.mono (by decide)) rfl gM kM bM .nil pass0 (pa_cons (pv 3) pa_nil)) (pa_cons (pe_ix ix_list (pv 3) pe_int (fun _ _ => rfl)) pa_nil)) (by rfl))
        (C8.pss_cut (ps_if (pt_cmpR op_ne (pe_call GR (hr.mono (by decide)) rfl gR kR bR .nil pass0 (pa_cons (pe_call GT (hr.mono (by decide)) rfl gT kT bT .nil pass0 (pa_cons (pv 1) (pa_cons pe_int pa_nil))) (pa_cons (pe_call GO (hr.mono (by decide)) rfl gO kO bO .nil pass0 (pa_cons (pv 1) pa_nil)) (pa_cons pe_non (pa_cons pe_non pa_nil))))) pe_str (nomark _)) (pss_one (ps_ret pe_bl)) pss_nil)
        (C8.pss_cut (ps_if (pt_cmpR op_ne (pe_call GR (hr.mono (by decide)) rfl gR kR bR .nil pass0 (pa_cons (pe_op op_add pe_int (pe_call GT (hr.mono (by decide)) rfl gT kT bT .nil pass0 (pa_cons (pv 1) (pa_cons pe_int pa_nil)))) (pa_cons (pv 4) (pa_cons (pe_call GS (hr.mono (by decide)) rfl gS kS bS .nil pass0 (pa_cons (pv 1) (pa_cons (pv 5) (pa_cons pe_str pa_nil)))) (pa_cons pe_non pa_nil))))) pe_str (nomark _)) (pss_one (ps_ret pe_bl)) pss_nil)
        (C8.pss_cut (ps_set (i := 6) scLaw31.nd rfl (Or.inl rfl) (pe_lst (pa_cons pe_non (pa_cons (pe_tup pa_nil) (pa_cons (pe_op op_repX (pe_tup (pa_cons pe_int pa_nil)) (pe_op op_add (pv 5) pe_int)) (pa_cons (pe_op op_rep (pe_lst (pa_cons pe_int pa_nil)) (pv 5)) (pa_cons (pe_op op_repX (pe_tup (pa_cons (pe_un un_neg pe_int) pa_nil)) (pv 5)) (pa_cons (pe_op op_repX (pe_tup (pa_cons pe_bl pa_nil)) (pv 5)) (pa_cons (pe_op op_repX (pe_tup (pa_cons (pe_op op_add (pe_op op_pow pe_int pe_int) pe_int) pa_nil)) (pv 5)) (pa_cons pe_int pa_nil))))))))))
        (C8.pss_cut (ps_if (pt_cmpR op_ne (pe_call GR (hr.mono (by decide)) rfl gR kR bR .nil pass0 (pa_cons pe_int (pa_cons (pv 4) (pa_cons (pe_ix ix_list (pv 6) (pe_call GT (hr.mono (by decide)) rfl gT kT bT .nil pass0 (pa_cons (pv 1) (pa_cons pe_int pa_nil))) (fun _ _ => rfl)) (pa_cons pe_non pa_nil))))) pe_str (nomark _)) (pss_one (ps_ret pe_bl)) pss_nil)
        (C8.pss_cut (ps_if (pt_cmpR op_ne (pe_call GR (hr.mono (by decide)) rfl gR kR bR .nil pass0 (pa_cons pe_int (pa_cons (pv 4) (pa_cons (pe_op op_repX (pe_tup (pa_cons (pe_op op_pow pe_int pe_int) pa_nil)) (pv 5)) (pa_cons (pe_call GS (hr.mono (by decide)) rfl gS kS bS .nil pass0 (pa_cons (pv 1) (pa_cons (pv 5) (pa_cons pe_str pa_nil)))) pa_nil))))) pe_str (nomark _)) (pss_one (ps_ret pe_bl)) pss_nil)
        (C8.pss_cut (ps_if (pt_cmpR op_ne (pe_call GR (hr.mono (by decide)) rfl gR kR bR .nil pass0 (pa_cons pe_int (pa_cons (pv 4) (pa_cons (pe_call GS (hr.mono (by decide)) rfl gS kS bS .nil pass0 (pa_cons (pv 1) (pa_cons (pv 5) (pa_cons pe_str pa_nil)))) (pa_cons pe_non pa_nil))))) pe_str (nomark _)) (pss_one (ps_ret pe_bl)) pss_nil)
        (C8.pss_cut (ps_par (i := 7) (j := 8) (by rfl) scLaw31.nd rfl rfl (by decide) rfl rfl (pa_cons (pe_op op_add pe_int (pe_call GT (hr.mono (by decide)) rfl gT kT bT .nil pass0 (pa_cons (pv 1) (pa_cons pe_int pa_nil)))) (pa_cons (pe_call GT (hr.mono (by decide)) rfl gT kT bT .nil pass0 (pa_cons (pv 1) (pa_cons pe_int pa_nil))) pa_nil)) (by rfl))
        (C8.pss_cut (ps_set (i := 9) scLaw31.nd rfl (Or.inl rfl) (pe_ix ix_list (pe_lst (pa_cons pe_non (pa_cons pe_int (pa_cons pe_str (pa_cons pe_dnewT (pa_cons (pe_op op_repX (pe_tup (pa_cons pe_non pa_nil)) pe_int) (pa_cons (pe_op op_rep (pe_lst (pa_cons pe_non pa_nil)) pe_int) pa_nil))))))) (pe_call GT (hr.mono (by decide)) rfl gT kT bT .nil pass0 (pa_cons (pv 1) (pa_cons pe_int pa_nil))) (fun _ _ => rfl)))
        (C8.pss_cut (ps_if (pt_cmpR (op_neD hu) (pe_call GR (hr.mono (by decide)) rfl gR kR bR .nil pass0 (pa_cons (pv 7) (pa_cons (pv 4) (pa_cons (pv 9) (pa_cons pe_non pa_nil))))) (pe_lst (pa_cons pe_str (pa_cons pe_non pa_nil))) (nomark _)) (pss_one (ps_ret pe_bl)) pss_nil)
        (C8.pss_cut (ps_set (i := 10) scLaw31.nd rfl (Or.inl rfl) (pe_op op_cat (pe_op op_rep (pe_lst (pa_cons pe_non pa_nil)) (pv 8)) (pe_lst (pa_cons (pe_ix ix_list (pe_lst (pa_cons (pe_un un_neg pe_int) (pa_cons (pv 5) (pa_cons pe_bl (pa_cons pe_str (pa_cons (pe_tup (pa_cons pe_int pa_nil)) pa_nil)))))) (pe_call GT (hr.mono (by decide)) rfl gT kT bT .nil pass0 (pa_cons (pv 1) (pa_cons pe_int pa_nil))) (fun _ _ => rfl)) (pa_cons pe_str pa_nil)))))
        (C8.pss_cut (ps_if (pt_cmpR (op_neD hu) (pe_call GR (hr.mono (by decide)) rfl gR kR bR .nil pass0 (pa_cons (pv 7) (pa_cons (pv 4) (pa_cons (pe_ix ix_list (pe_lst (pa_cons (pv 10) (pa_cons (pe_tupleOf (by rfl) T.tuple (pv 10)) pa_nil))) (pe_call GT (hr.mono (by decide)) rfl gT kT bT .nil pass0 (pa_cons (pv 1) (pa_cons pe_int pa_nil))) (fun _ _ => rfl)) (pa_cons pe_non pa_nil))))) (pe_lst (pa_cons pe_str (pa_cons (pv 8) pa_nil))) (nomark _)) (pss_one (ps_ret pe_bl)) pss_nil)
        (C8.pss_cut (ps_par (i := 11) (j := 12) (by rfl) scLaw31.nd rfl rfl (by decide) rfl rfl (pa_cons (pe_make MC GI (hr.mono (by decide)) rfl gC bI .nil pass0 (pa_cons (pe_op op_add pe_int (pe_call GT (hr.mono (by decide)) rfl gT kT bT .nil pass0 (pa_cons (pv 1) (pa_cons pe_int pa_nil)))) (pa_cons (pe_tup pa_nil) pa_nil)))
            (pa_cons (pe_ix ix_list (pe_lst (pa_cons pe_non (pa_cons (pe_un un_neg pe_int) (pa_cons (pe_op op_add (pe_op op_pow pe_int pe_int) pe_int) (pa_cons pe_bl (pa_cons pe_str pa_nil)))))) (pe_call GT (hr.mono (by decide)) rfl gT kT bT .nil pass0 (pa_cons (pv 1) (pa_cons pe_int pa_nil))) (fun _ _ => rfl)) pa_nil)) (by rfl))
        (C8.pss_cut (ps_if (PW.pt (pw_or (pt_cmpR (op_neD hu) (pe_call GR (hr.mono (by decide)) rfl gR kR bR .nil pass0 (pa_cons pe_int (pa_cons (pv 11) (pa_cons (pv 12) (pa_cons pe_non pa_nil))))) (pe_lst (pa_cons pe_str (pa_cons pe_int pa_nil))) (nomark _))
            (pw_or1 (pt_cmpR (op_neD hu) (pe_call GR (hr.mono (by decide)) rfl gR kR bR .nil pass0 (pa_cons pe_int (pa_cons (pv 4) (pa_cons (pv 12) (pa_cons pe_non pa_nil))))) (pe_lst (pa_cons (pv 12) pa_nil)) (nomark _))))) (pss_one (ps_ret pe_bl)) pss_nil)
        (C8.pss_cut (ps_set (i := 13) scLaw31.nd rfl (Or.inl rfl) (pe_ix ix_list (pe_lst (pa_cons pe_non (pa_cons pe_int (pa_cons (pe_op op_add (pe_op op_pow pe_int pe_int) pe_int) (pa_cons pe_bl (pa_cons pe_str pa_nil)))))) (pe_call GT (hr.mono (by decide)) rfl gT kT bT .nil pass0 (pa_cons (pv 1) (pa_cons pe_int pa_nil))) (fun _ _ => rfl)))
        (C8.pss_cut (ps_if (pt_cmpR (op_neD hu) (pe_call GR (hr.mono (by decide)) rfl gR kR bR .nil pass0 (pa_cons pe_int (pa_cons (pv 4) (pa_cons (pe_op op_pow pe_int pe_int) (pa_cons (pv 13) pa_nil))))) (pe_lst (pa_cons (pv 13) pa_nil)) (nomark _)) (pss_one (ps_ret pe_bl)) pss_nil)
        (C8.pss_cut (ps_set (i := 14) scLaw31.nd rfl (Or.inl rfl) (pe_lst (pa_cons pe_non (pa_cons (pe_tup pa_nil) (pa_cons (pe_tupRg rfl (by rfl) T.tuple (prg_1 (by rfl) T.range (pe_op op_add (pv 5) pe_int))) (pa_cons (pe_listRg rfl (by rfl) zL (prg_1 (by rfl) T.range (pv 5))) (pa_cons (pe_op op_catA (pe_op op_repX (pe_tup (pa_cons pe_int pa_nil)) (pv 5)) (pe_tup (pa_cons pe_int pa_nil))) (pa_cons (pe_op op_repX (pe_tup (pa_cons pe_bl pa_nil)) (pv 5)) (pa_cons (pe_op op_repX (pe_tup (pa_cons (pv 5) pa_nil)) (pv 5)) pa_nil)))))))))
        (C8.pss_cut (ps_expr (pe_bm PySem.F.plainAttrs_list PySem.F.slot_list_append PySem.F.type_list_append mt_append (pv 14) (pa_cons (pe_op op_catA (pe_tup (pa_cons pe_int (pa_cons pe_bl pa_nil))) (pe_tupRg rfl (by rfl) T.tuple (prg_2 (by rfl) T.range pe_int (pv 5)))) pa_nil)))
        (C8.pss_cut (ps_if (PW.pt (pw_and (pt_cmpR op_gt (pv 5) pe_int (nomark _)) (pw_and1 (pt_cmpR op_ne (pe_call GR (hr.mono (by decide)) rfl gR kR bR .nil pass0 (pa_cons pe_int (pa_cons (pv 4) (pa_cons (pe_ix ix_list (pv 14) pe_int (fun _ _ => rfl)) (pa_cons pe_non pa_nil))))) pe_str (nomark _))))) (pss_one (ps_ret pe_bl)) pss_nil)
        (pss_one (ps_if (pt_cmpR op_ne (pe_call GR (hr.mono (by decide)) rfl gR kR bR .nil pass0 (pa_cons pe_int (pa_cons (pv 4) (pa_cons (pe_ix ix_list (pv 14) (pe_call GT (hr.mono (by decide)) rfl gT kT bT .nil pass0 (pa_cons (pv 1) (pa_cons pe_int pa_nil))) (fun _ _ => rfl)) (pa_cons pe_non pa_nil))))) pe_str (nomark _)) (pss_one (ps_ret pe_bl)) pss_nil)))))))))))))))))))))))
      (pss_one (ps_ret pe_bl))), ?_⟩
    refine ⟨_, rfl, (by show 4 ≤ sizeLine; decide), fun r hr0 => ?_⟩
    have R0 : RowOk (upd H r (.lst [.ref a, .int 0, .int 931, .int 0])) r a := ⟨⟨0, 931, 0, upd_same, by decide, by decide, by decide, by decide⟩⟩
    have S0 : SqL K (upd H r (.lst [.ref a, .int 0, .int 931, .int 0])) a (ns.map V.int) := (same_upd hr0).seq hS
    generalize (upd H r (.lst [.ref a, .int 0, .int 931, .int 0])) = H0 at R0 S0 ⊢
    refine ⟨4, rfl, by decide, by decide, ?_⟩
    refine for_range (lo := 0) (n := 4) (fun i σ H' => ∃ v2 v3 v4 v5 v6 v7 v8 v9 v10 v11 v12 v13 v14 : Option V, σ = [some (.ref a), some (.ref r), v2, v3, v4, v5, v6, v7, v8, v9, v10, v11, v12, v13, v14] ∧ RowOk H' r a ∧ But r H0 H')
      ⟨_, _, _, _, _, _, _, _, _, _, _, _, _, rfl, R0, But.refl _ _⟩ ?_ (fun σ H' ⟨_, _, _, _, _, _, _, _, _, _, _, _, _, e, _, _⟩ => by rw [e]; exact k _)
    rintro i σ H1 hi ⟨v2, v3, v4, v5, v6, v7, v8, v9, v10, v11, v12, v13, v14, rfl, R1, B1⟩
    refine ⟨_, rfl, ⟨⟨r, a, ns, 4, rfl, R1, B1.seqR R0 S0, by decide, by decide, fun p t n ks H2 hp0 ht0 n1 n4 hp hB O h13 R2 B2 => ?_⟩⟩⟩
    have B2 := B1.trans B2
    have Sq : ∀ {H'}, But r H0 H' → SqL K H' a (ns.map V.int) := fun {H'} b => b.seqR R0 S0
    refine ⟨fun σ' H' => ∃ c, σ' = [some (.ref a), some (.ref r), some (.int (0 + (i : Nat))), some (.ref p), some (.ref c), some (.int n), v6, v7, v8, v9, v10, v11, v12, v13, v14] ∧ St31 C r a c t n H0 H', ?_, ?_⟩
    · refine ⟨_, rfl, ⟨⟨p, t, n, ks, [], rfl, hp, n1, (by omega), hB, O, fun c H3 hc0 hcab s3 => ?_⟩⟩⟩
      refine ⟨_, rfl, p, _, 0, .int n, rfl, rfl, SqL.of (s3 _ _ hp), atI_nat (j := 0) rfl, ?_⟩
      exact ⟨_, _, rfl, c, rfl, ⟨R2.same s3, B2.trans (sbut s3), hcab⟩⟩
    clear hp0 ht0 hp hB O h13 R2 B2 R1 B1
    rintro σ H2 ⟨c, rfl, S2⟩
    have n0 : 0 ≤ n := by omega
    -- no cabinet
    refine ⟨fun σ' H' => σ' = [some (.ref a), some (.ref r), some (.int (0 + (i : Nat))), some (.ref p), some (.ref c), some (.int n), v6, v7, v8, v9, v10, v11, v12, v13, v14] ∧ St31 C r a c t n H0 H', ?_, ?_⟩
    · refine ⟨_, rfl, ⟨⟨r, a, ns, 14, rfl, S2.R, Sq S2.B, by decide, by decide, fun v H3 v0 v1 R3 B3 => ?_⟩⟩⟩
      have S3 := S2.but R3 B3
      obtain ⟨kd, rfl⟩ : ∃ kd : Nat, v = kd := ⟨v.toNat, by omega⟩
      refine ⟨_, rfl, ⟨⟨r, a, ns, rfl, R3, fun H' b => Sq (S3.B.trans b), fun x H4 R4 B4 nc => ?_⟩⟩⟩
      have S4 := S3.but R4 B4
      refine ⟨⟨kd, x, .non, .non, rfl, fun H5 s5 => J_cab (by omega) (nc H5 s5) (.inl ⟨rfl, ?_⟩)⟩⟩
      exact ⟨rfl, _, rfl, iteNS rfl ⟨rfl, S4.same s5⟩⟩
    clear S2 H2
    rintro σ H2 ⟨rfl, S2⟩
    -- no pattern
    refine ⟨fun σ' H' => σ' = [some (.ref a), some (.ref r), some (.int (0 + (i : Nat))), some (.ref p), some (.ref c), some (.int n), v6, v7, v8, v9, v10, v11, v12, v13, v14] ∧ St31 C r a c t n H0 H', ?_, ?_⟩
    · refine ⟨_, rfl, ⟨⟨r, a, ns, 3, rfl, S2.R, Sq S2.B, by decide, by decide, fun v H3 v0 v1 R3 B3 => ?_⟩⟩⟩
      have S3 := S2.but R3 B3
      obtain ⟨kd, rfl⟩ : ∃ kd : Nat, v = kd := ⟨v.toNat, by omega⟩
      refine ⟨_, _, rfl, rfl, _, rfl, _, rfl, _, rfl, ⟨⟨r, a, ns, n, "os?", rfl, R3, Sq S3.B, fun H' b => Sq (S3.B.trans b), n1, (by omega), .inr rfl, fun x H4 R4 B4 bad => ?_⟩⟩⟩
      have S4 := S3.but R4 B4
      refine ⟨⟨3 + kd, .ref c, x, .non, congrArg (fun z => [V.int z, .ref c, x, .non]) (show (3 : Int) + (kd : Int) = ((3 + kd : Nat) : Int) by omega), fun H5 s5 => J_pat (by omega) (by omega) (S4.Cb.sameI s5) (bad H5 (sbut s5)) fun H6 s6 => .inr (.inl ⟨rfl, ?_⟩)⟩⟩
      exact ⟨rfl, _, rfl, iteNS rfl ⟨rfl, (S4.same s5).same s6⟩⟩
    clear S2 H2
    rintro σ H2 ⟨rfl, S2⟩
    -- costs
    refine ⟨fun σ' H' => ∃ L u p3 l4 p5 p6 p7 : Addr, σ' = [some (.ref a), some (.ref r), some (.int (0 + (i : Nat))), some (.ref p), some (.ref c), some (.int n), some (.ref L), v7, v8, v9, v10, v11, v12, v13, v14] ∧ St31 C r a c t n H0 H' ∧ H' L = some (.lst [.non, .ref u, .ref p3, .ref l4, .ref p5, .ref p6, .ref p7, .int 0]) ∧ SqT K H' u [] ∧ SqT K H' p3 (List.replicate (n + 1).toNat (.int 1)) ∧ H' l4 = some (.lst (List.replicate n.toNat (.int 1))) ∧ SqT K H' p5 (List.replicate n.toNat (.int (-1))) ∧ SqT K H' p6 (List.replicate n.toNat (.bl true)) ∧ SqT K H' p7 (List.replicate n.toNat (.int (10 ^ (30 : Int).toNat + 1))), ?_, ?_⟩
    · refine ⟨by show 0 ≤ sizeLine; decide, fun u nu => ?_⟩
      obtain ⟨s3, f3⟩ := new_at (o := .tup []) nu
      have S3 := S2.same s3
      have f3 := SqT.of' (K := K) f3
      generalize upd H2 u (.tup []) = H3 at s3 f3 S3 ⊢
      refine ⟨by show 1 ≤ sizeLine; decide, fun q nq => ⟨_, rfl, _, _, rfl, rfl, q, n + 1, .int 1, rfl, rfl, SqT.of' upd_same, by omega, by omega, fun p3 H4 s4 f4 => ?_⟩⟩
      have s4 := (same_upd nq).trans s4
      have S4 := S3.same s4
      have f3 := SqT.same s4 f3
      refine ⟨by show 1 ≤ sizeLine; decide, fun q2 nq2 => ?_⟩
      have s5 := same_upd (o := .lst [.int 1]) nq2
      have e5 : (upd H4 q2 (.lst [.int 1])) q2 = some (.lst [.int 1]) := upd_same
      generalize upd H4 q2 (.lst [.int 1]) = H5 at s5 e5 ⊢
      refine ⟨_, rfl, q2, n, _, rfl, rfl, e5, by omega, by omega, (by show 1 * n.toNat ≤ sizeLine; exact Nat.le_of_lt (small1000 (n := 1 * n.toNat) (by omega))), fun l4 nl4 => ?_⟩
      rw [rep_flat]
      obtain ⟨s6, f6⟩ := new_at (o := .lst (List.replicate n.toNat (V.int 1))) nl4
      have s56 := s5.trans s6
      have S6 := S4.same s56
      have f3 := SqT.same s56 f3
      have f4 := SqT.same s56 f4
      generalize upd H5 l4 (.lst (List.replicate n.toNat (V.int 1))) = H6 at s6 f6 S6 f3 f4 s56 ⊢
      refine ⟨_, rfl, by show 1 ≤ sizeLine; decide, fun q3 nq3 => ⟨_, rfl, q3, n, .int (-1), rfl, rfl, SqT.of' upd_same, by omega, by omega, fun p5 H7 s7 f7 => ?_⟩⟩
      have s7 := (same_upd nq3).trans s7
      have S7 := S6.same s7
      have f3 := SqT.same s7 f3
      have f4 := SqT.same s7 f4
      have f6 := s7 _ _ f6
      refine ⟨by show 1 ≤ sizeLine; decide, fun q4 nq4 => ⟨_, rfl, q4, n, .bl true, rfl, rfl, SqT.of' upd_same, by omega, by omega, fun p6 H8 s8 f8 => ?_⟩⟩
      have s8 := (same_upd nq4).trans s8
      have S8 := S7.same s8
      have f3 := SqT.same s8 f3
      have f4 := SqT.same s8 f4
      have f6 := s8 _ _ f6
      have f7 := SqT.same s8 f7
      refine ⟨_, _, rfl, rfl, ⟨by decide, by decide, by decide⟩, _, _, rfl, rfl, by show 1 ≤ sizeLine; decide, fun q5 nq5 => ⟨_, rfl, q5, n, .int (10 ^ (30 : Int).toNat + 1), rfl, rfl, SqT.of' upd_same, by omega, by omega, fun p7 H9 s9 f9 => ?_⟩⟩
      have s9 := (same_upd nq5).trans s9
      have S9 := S8.same s9
      have f3 := SqT.same s9 f3
      have f4 := SqT.same s9 f4
      have f6 := s9 _ _ f6
      have f7 := SqT.same s9 f7
      have f8 := SqT.same s9 f8
      refine ⟨by show 8 ≤ sizeLine; decide, fun L nL => ?_⟩
      have sL := same_upd (o := .lst [.non, .ref u, .ref p3, .ref l4, .ref p5, .ref p6, .ref p7, .int 0]) nL
      exact ⟨L, u, p3, l4, p5, p6, p7, rfl, S9.same sL, upd_same, SqT.same sL f3, SqT.same sL f4, sL _ _ f6, SqT.same sL f7, SqT.same sL f8, SqT.same sL f9⟩
    clear S2 H2
    rintro σ H2 ⟨L, u, p3, l4, p5, p6, p7, rfl, S2, fL, f3, f4, f6, f7, f8, f9⟩
    refine ⟨fun σ' H' => ∃ v6, σ' = [some (.ref a), some (.ref r), some (.int (0 + (i : Nat))), some (.ref p), some (.ref c), some (.int n), v6, v7, v8, v9, v10, v11, v12, v13, v14] ∧ St31 C r a c t n H0 H', ?_, ?_⟩
    · obtain ⟨_, _, _, hR, _⟩ := id S2.R.h
      have nL : L ≠ r := ne_of fL hR (by
        intro z
        injection z with z
        cases z)
      have nl4 : l4 ≠ r := ne_of f6 hR (by
        intro z
        injection z with z
        have z0 := congrArg (·[0]?) z
        have : (List.replicate n.toNat (V.int 1))[0]? = some (V.int 1) := by rw [List.getElem?_replicate, if_pos (by omega)]
        rw [this] at z0
        cases z0)
      refine ⟨_, rfl, _, rfl, _, rfl, ⟨⟨r, a, ns, 8, rfl, S2.R, Sq S2.B, by decide, by decide, fun v H3 v0 v8 R3 B3 => ?_⟩⟩⟩
      have S3 := S2.but R3 B3
      have fL3 := B3 _ _ nL fL
      have f6' := B3 _ _ nl4 f6
      have tp : ∀ {q xs}, SqT K H2 q xs → SqT K H3 q xs := fun h => sqT_but hR B3 h
      have cse : ∃ x, atI [V.non, .ref u, .ref p3, .ref l4, .ref p5, .ref p6, .ref p7, .int 0] v = some x ∧ BadCo K H3 n x := by
        have : v = 0 ∨ v = 1 ∨ v = 2 ∨ v = 3 ∨ v = 4 ∨ v = 5 ∨ v = 6 ∨ v = 7 := by omega
        have rl : ∀ {m : Nat} {x y : V}, scV x = true → y ∈ List.replicate m x → scV y = true := fun hx h => by rw [mem_rep h]; exact hx
        rcases this with rfl | rfl | rfl | rfl | rfl | rfl | rfl | rfl
        · exact ⟨_, rfl, .inl ⟨_, fun _ _ => .base .non, kit_ty (by decide +kernel)⟩⟩
        · exact ⟨_, rfl, .inr ⟨u, [], rfl, tp f3, by decide, (fun x hx => by cases hx), by rw [decide_eq_false (by show ¬ (0 : Int) = n; omega)]; rfl⟩⟩
        · exact ⟨_, rfl, .inr ⟨p3, _, rfl, tp f4, by rw [List.length_replicate]; omega, (fun x hx => rl rfl hx), by rw [decide_eq_false (by rw [List.length_replicate]; omega)]; rfl⟩⟩
        · exact ⟨_, rfl, .inl ⟨_, fun H' s => .base (.lst (s _ _ f6')), kit_ty (by decide +kernel)⟩⟩
        · exact ⟨_, rfl, .inr ⟨p5, _, rfl, tp f7, by rw [List.length_replicate]; omega, (fun x hx => rl rfl hx), by rw [all_rep (by omega)]; exact Bool.and_false _⟩⟩
        · exact ⟨_, rfl, .inr ⟨p6, _, rfl, tp f8, by rw [List.length_replicate]; omega, (fun x hx => rl rfl hx), by rw [all_rep (by omega)]; exact Bool.and_false _⟩⟩
        · exact ⟨_, rfl, .inr ⟨p7, _, rfl, tp f9, by rw [List.length_replicate]; omega, (fun x hx => rl rfl hx), by rw [all_rep (by omega), show costB (.int (10 ^ (30 : Int).toNat + 1)) = false by decide +kernel]; exact Bool.and_false _⟩⟩
        · exact ⟨_, rfl, .inl ⟨_, fun _ _ => .base (.int _), kit_ty (by decide +kernel)⟩⟩
      obtain ⟨x, ax, bad⟩ := cse
      refine ⟨L, _, v, x, rfl, rfl, SqL.of fL3, ax, ⟨⟨6, .ref c, x, .non, rfl, fun H5 s5 => J_cos (S3.Cb.sameI s5) (bad.same s5) fun H6 s6 => .inr (.inr (.inl ⟨rfl, ?_⟩))⟩⟩⟩
      exact ⟨rfl, _, rfl, iteNS rfl ⟨_, rfl, (S3.same s5).same s6⟩⟩
    clear S2 fL f3 f4 f6 f7 f8 f9 H2
    rintro σ H2 ⟨v6, rfl, S2⟩
    -- good costs, no pattern
    refine ⟨fun σ' H' => σ' = [some (.ref a), some (.ref r), some (.int (0 + (i : Nat))), some (.ref p), some (.ref c), some (.int n), v6, v7, v8, v9, v10, v11, v12, v13, v14] ∧ St31 C r a c t n H0 H', ?_, ?_⟩
    · refine ⟨_, rfl, _, _, rfl, rfl, ⟨by decide, by decide, by decide⟩, by show 1 ≤ sizeLine; decide, fun q nq => ⟨_, rfl, q, n, .int (10 ^ (30 : Int).toNat), rfl, rfl, SqT.of' upd_same, by omega, by omega, fun pc H3 s3 f3 => ?_⟩⟩
      have s3 := (same_upd nq).trans s3
      have S3 := S2.same s3
      refine ⟨_, rfl, _, rfl, ⟨⟨r, a, ns, n, "os?", rfl, S3.R, Sq S3.B, fun H' b => Sq (S3.B.trans b), n1, (by omega), .inr rfl, fun x H4 R4 B4 bad => ?_⟩⟩⟩
      have S4 := S3.but R4 B4
      obtain ⟨_, _, _, hR, _⟩ := id S3.R.h
      have f4 := sqT_but hR B4 f3
      have good : GoodCo K H4 n (.ref pc) := ⟨pc, _, rfl, f4, by rw [List.length_replicate]; omega, fun x hx => by rw [mem_rep hx]; rfl, by rw [all_rep (by omega), decide_eq_true (by rw [List.length_replicate]; omega), show costB (.int (10 ^ (30 : Int).toNat)) = true by decide +kernel]; rfl⟩
      refine ⟨⟨6, .ref c, .ref pc, x, rfl, fun H5 s5 => J_cop (S4.Cb.sameI s5) (good.same s5) (bad H5 (sbut s5)) fun H6 s6 => .inr (.inl ⟨rfl, ?_⟩)⟩⟩
      exact ⟨rfl, _, rfl, iteNS rfl ⟨rfl, (S4.same s5).same s6⟩⟩
    clear S2 H2
    rintro σ H2 ⟨rfl, S2⟩
    -- no standing
    refine ⟨fun σ' H' => σ' = [some (.ref a), some (.ref r), some (.int (0 + (i : Nat))), some (.ref p), some (.ref c), some (.int n), v6, v7, v8, v9, v10, v11, v12, v13, v14] ∧ St31 C r a c t n H0 H', ?_, ?_⟩
    · refine ⟨_, rfl, _, rfl, _, rfl, ⟨⟨r, a, ns, n, "os", rfl, S2.R, Sq S2.B, fun H' b => Sq (S2.B.trans b), n1, (by omega), .inl rfl, fun x H4 R4 B4 bad => ?_⟩⟩⟩
      have S4 := S2.but R4 B4
      refine ⟨⟨7, .ref c, x, .non, rfl, fun H5 s5 => J_std (S4.Cb.sameI s5) (bad H5 (sbut s5)) fun H6 s6 => .inr (.inr (.inr (.inl ⟨rfl, ?_⟩)))⟩⟩
      exact ⟨rfl, _, rfl, iteNS rfl ⟨rfl, (S4.same s5).same s6⟩⟩
    clear S2 H2
    rintro σ H2 ⟨rfl, S2⟩
    -- seen things: which call, how many good ones
    refine ⟨fun σ' H' => ∃ kd at_ : Nat, σ' = [some (.ref a), some (.ref r), some (.int (0 + (i : Nat))), some (.ref p), some (.ref c), some (.int n), v6, some (.int (8 + (kd : Nat))), some (.int (at_ : Nat)), v9, v10, v11, v12, v13, v14] ∧ St31 C r a c t n H0 H' ∧ kd < 4 ∧ at_ < 4, ?_, ?_⟩
    · refine ⟨_, rfl, ⟨⟨r, a, ns, 4, rfl, S2.R, Sq S2.B, by decide, by decide, fun v H3 v0 v1 R3 B3 => ?_⟩⟩⟩
      have S3 := S2.but R3 B3
      obtain ⟨kd, rfl⟩ : ∃ kd : Nat, v = kd := ⟨v.toNat, by omega⟩
      refine ⟨_, _, rfl, rfl, ?_⟩
      refine ⟨_, rfl, ⟨⟨r, a, ns, 4, rfl, S3.R, Sq S3.B, by decide, by decide, fun v' H4 w0 w1 R4 B4 => ?_⟩⟩⟩
      obtain ⟨at_, rfl⟩ : ∃ at_ : Nat, v' = at_ := ⟨v'.toNat, by omega⟩
      exact ⟨_, _, rfl, kd, at_, rfl, S3.but R4 B4, by omega, by omega⟩
    clear S2 H2
    rintro σ H2 ⟨kd, at_, rfl, S2, kd4, at4⟩
    refine ⟨fun σ' H' => ∃ x9, σ' = [some (.ref a), some (.ref r), some (.int (0 + (i : Nat))), some (.ref p), some (.ref c), some (.int n), v6, some (.int (8 + (kd : Nat))), some (.int (at_ : Nat)), some x9, v10, v11, v12, v13, v14] ∧ St31 C r a c t n H0 H' ∧ BadSe K H' n x9 .non, ?_, ?_⟩
    · refine fun d nd => ?_
      have s3 := same_upd (o := .dT []) nd
      have f3 : (upd H2 d (.dT [])) d = some (.dT []) := upd_same
      generalize upd H2 d (.dT []) = H3 at s3 f3 ⊢
      refine ⟨by show 1 ≤ sizeLine; decide, fun q nq => ⟨q, 61, .non, rfl, rfl, SqT.of' upd_same, by decide, by decide, fun pt H4 s4 f4 => ?_⟩⟩
      have s4 := (same_upd nq).trans s4
      refine ⟨by show 1 ≤ sizeLine; decide, fun q2 nq2 => ⟨q2, 61, _, rfl, rfl, upd_same, by decide, by decide, by show 1 * 61 ≤ sizeLine; decide, fun pl npl => ?_⟩⟩
      rw [rep_flat]
      have s5 := (same_upd nq2).trans (same_upd (o := .lst (List.replicate (61 : Int).toNat V.non)) npl)
      have f5 : (upd (upd H4 q2 (.lst [.non])) pl (.lst (List.replicate (61 : Int).toNat V.non))) pl = some (.lst (List.replicate (61 : Int).toNat V.non)) := upd_same
      generalize upd (upd H4 q2 (.lst [.non])) pl (.lst (List.replicate (61 : Int).toNat V.non)) = H5 at s5 f5 ⊢
      refine ⟨by show 6 ≤ sizeLine; decide, fun L nL => ?_⟩
      have s6 := same_upd (o := .lst [.non, .int 0, .str "0", .ref d, .ref pt, .ref pl]) nL
      have f6 : (upd H5 L (.lst [.non, .int 0, .str "0", .ref d, .ref pt, .ref pl])) L = some (.lst [.non, .int 0, .str "0", .ref d, .ref pt, .ref pl]) := upd_same
      generalize upd H5 L (.lst [.non, .int 0, .str "0", .ref d, .ref pt, .ref pl]) = H6 at s6 f6 ⊢
      have S6 := (((S2.same s3).same s4).same s5).same s6
      have f3 := s6 _ _ (s5 _ _ (s4 _ _ f3))
      have f4 := SqT.same (s5.trans s6) f4
      have f5 := s6 _ _ f5
      obtain ⟨_, _, _, hR, _⟩ := id S6.R.h
      have nL : L ≠ r := ne_of f6 hR (by
        intro z
        injection z with z
        cases z)
      have npl : pl ≠ r := ne_of f5 hR (by
        intro z
        injection z with z
        have z0 := congrArg (·[0]?) z
        cases z0)
      have nd : d ≠ r := ne_of f3 hR (by intro z; cases z)
      refine ⟨_, rfl, ⟨⟨r, a, ns, 6, rfl, S6.R, Sq S6.B, by decide, by decide, fun v H7 v0 v1 R7 B7 => ?_⟩⟩⟩
      have f3 := B7 _ _ nd f3
      have f4 := sqT_but hR B7 f4
      have f5 := B7 _ _ npl f5
      have cse : ∃ x, atI [V.non, .int 0, .str "0", .ref d, .ref pt, .ref pl] v = some x ∧ BadSe K H7 n x .non := by
        have : v = 0 ∨ v = 1 ∨ v = 2 ∨ v = 3 ∨ v = 4 ∨ v = 5 := by omega
        rcases this with rfl | rfl | rfl | rfl | rfl | rfl
        · exact ⟨_, rfl, .ty (fun _ _ => .base .non) (kit_bad (kit_ty (by decide +kernel)) (kit_ty (by decide +kernel)))⟩
        · exact ⟨_, rfl, .ty (fun _ _ => .base (.int _)) (kit_bad (kit_ty (by decide +kernel)) (kit_ty (by decide +kernel)))⟩
        · exact ⟨_, rfl, .ty (fun _ _ => .base (.str _)) (kit_bad (kit_ty (by decide +kernel)) (kit_ty (by decide +kernel)))⟩
        · exact ⟨_, rfl, .ty (fun H' s => .base (.dT (s _ _ f3))) (kit_bad (kit_ty (by decide +kernel)) (kit_ty (by decide +kernel)))⟩
        · exact ⟨_, rfl, .long (.inr f4) (by decide)⟩
        · exact ⟨_, rfl, .long (.inl f5) (by decide)⟩
      obtain ⟨x, ax, bad⟩ := cse
      exact ⟨L, _, v, x, rfl, rfl, SqL.of (B7 _ _ nL f6), ax, x, rfl, S6.but R7 B7, bad⟩
    clear S2 H2
    rintro σ H2 ⟨x9, rfl, S2, bad⟩
    have oks : OkS (.str ("seen" : Str)) := okS_str (by decide +kernel)
    refine ⟨fun σ' H' => σ' = [some (.ref a), some (.ref r), some (.int (0 + (i : Nat))), some (.ref p), some (.ref c), some (.int n), v6, some (.int (8 + (kd : Nat))), some (.int (at_ : Nat)), some x9, v10, v11, v12, v13, v14] ∧ St31 C r a c t n H0 H', ?_, ?_⟩
    · refine ⟨_, rfl, _, rfl, _, rfl, ⟨⟨8 + kd, .ref c, x9, .non, congrArg (fun z => [V.int z, .ref c, x9, .non]) (show (8 : Int) + (kd : Int) = ((8 + kd : Nat) : Int) by omega), fun H5 s5 => J_seen (by omega) (by omega) (S2.Cb.sameI s5) (bad.same s5) fun H6 s6 d H7 hd s7 hx => .inr (.inr (.inr (.inr (.inl ⟨rfl, d, _, rfl, hx, fun l nl => ?_⟩))))⟩⟩⟩
      have sl := same_upd (o := .lst [.str "seen", .non]) nl
      refine ⟨by show 2 ≤ sizeLine; decide, fun u nu => ?_⟩
      have su := same_upd (o := .lst [.str "seen", .non]) nu
      refine ne_same (dp_two oks okS_non (su _ _ upd_same)) (dp_two oks okS_non upd_same) (dok_two oks okS_non) ⟨_, rfl, iteF ⟨rfl, ?_⟩⟩
      exact ((((S2.same s5).same s6).same s7).same sl).same su
    clear S2 bad H2
    rintro σ H2 ⟨rfl, S2⟩
    refine ⟨fun σ' H' => ∃ B x, σ' = [some (.ref a), some (.ref r), some (.int (0 + (i : Nat))), some (.ref p), some (.ref c), some (.int n), v6, some (.int (8 + (kd : Nat))), some (.int (at_ : Nat)), some x9, some (.ref B), v11, v12, v13, v14] ∧ St31 C r a c t n H0 H' ∧ H' B = some (.lst (List.replicate at_ .non ++ [x, .str "x"])) ∧ x ≠ .non ∧ (scV x = true ∧ isD n x = false ∨ ∃ y, x = .ref y ∧ SqT K H' y [.int 0]), ?_, ?_⟩
    · refine ⟨by show 1 ≤ sizeLine; decide, fun q nq => ⟨_, rfl, q, (at_ : Nat), _, rfl, rfl, upd_same, by omega, by omega, (by show 1 * ((at_ : Nat) : Int).toNat ≤ sizeLine; exact Nat.le_of_lt (small1000 (n := 1 * ((at_ : Nat) : Int).toNat) (by omega))), fun pl npl => ?_⟩⟩
      rw [rep_flat, Int.toNat_natCast]
      have s3 := (same_upd nq).trans (same_upd (o := .lst (List.replicate at_ V.non)) npl)
      have f3 : (upd (upd H2 q (.lst [.non])) pl (.lst (List.replicate at_ V.non))) pl = some (.lst (List.replicate at_ V.non)) := upd_same
      generalize upd (upd H2 q (.lst [.non])) pl (.lst (List.replicate at_ V.non)) = H3 at s3 f3 ⊢
      refine ⟨_, rfl, _, rfl, by show 1 ≤ sizeLine; decide, fun y ny => ?_⟩
      have s4 := same_upd (o := .tup [.int 0]) ny
      have f4 : (upd H3 y (.tup [.int 0])) y = some (.tup [.int 0]) := upd_same
      generalize upd H3 y (.tup [.int 0]) = H4 at s4 f4 ⊢
      refine ⟨by show 5 ≤ sizeLine; decide, fun L nL => ?_⟩
      have s5 := same_upd (o := .lst [.int (-1), .int n, .bl true, .str "0", .ref y]) nL
      have f5 : (upd H4 L (.lst [.int (-1), .int n, .bl true, .str "0", .ref y])) L = some (.lst [.int (-1), .int n, .bl true, .str "0", .ref y]) := upd_same
      have e1 : -(1 : Int) = -1 := rfl
      try rw [e1]
      generalize upd H4 L (.lst [.int (-1), .int n, .bl true, .str "0", .ref y]) = H5 at s5 f5 ⊢
      have S5 := ((S2.same s3).same s4).same s5
      obtain ⟨_, _, _, hR, _⟩ := id S5.R.h
      have nL : L ≠ r := ne_of f5 hR (by
        intro z
        injection z with z
        cases z)
      have f3 := s5 _ _ (s4 _ _ f3)
      have npl : pl ≠ r := ne_of f3 hR (by
        intro z
        injection z with z
        cases at_ with
        | zero => cases z
        | succ m => rw [List.replicate_succ] at z; cases z)
      refine ⟨_, rfl, ⟨⟨r, a, ns, 5, rfl, S5.R, Sq S5.B, by decide, by decide, fun v H6 v0 v1 R6 B6 => ?_⟩⟩⟩
      have f4 : SqT K H6 y [.int 0] := sqT_but hR B6 (SqT.of' (s5 _ _ f4))
      have f3 := B6 _ _ npl f3
      have cse : ∃ x, atI [V.int (-1), .int n, .bl true, .str "0", .ref y] v = some x ∧ x ≠ .non ∧ (scV x = true ∧ isD n x = false ∨ ∃ y, x = .ref y ∧ SqT K H6 y [.int 0]) := by
        have : v = 0 ∨ v = 1 ∨ v = 2 ∨ v = 3 ∨ v = 4 := by omega
        rcases this with rfl | rfl | rfl | rfl | rfl
        · exact ⟨_, rfl, (by intro z; cases z), .inl ⟨rfl, rfl⟩⟩
        · refine ⟨_, rfl, (by intro z; cases z), .inl ⟨rfl, ?_⟩⟩
          show (decide (0 ≤ n) && decide (n < n)) = false
          rw [decide_eq_false (show ¬ n < n by omega), Bool.and_false]
        · exact ⟨_, rfl, (by intro z; cases z), .inl ⟨rfl, rfl⟩⟩
        · exact ⟨_, rfl, (by intro z; cases z), .inl ⟨rfl, rfl⟩⟩
        · exact ⟨_, rfl, (by intro z; cases z), .inr ⟨y, rfl, f4⟩⟩
      obtain ⟨x, ax, xn, hx⟩ := cse
      refine ⟨L, _, v, x, rfl, rfl, SqL.of (B6 _ _ nL f5), ax, by show 2 ≤ sizeLine; decide, fun l2 nl2 => ?_⟩
      have s7 := same_upd (o := .lst [x, .str "x"]) nl2
      refine ⟨pl, l2, _, _, rfl, rfl, s7 _ _ f3, upd_same, (by rw [List.length_replicate]; exact Nat.le_of_lt (small1000 (n := at_ + 2) (by omega))), fun B nB => ?_⟩
      have s8 := s7.trans (same_upd (o := .lst (List.replicate at_ .non ++ [x, .str "x"])) nB)
      refine ⟨B, x, rfl, (S5.but R6 B6).same s8, upd_same, xn, hx.imp id ?_⟩
      rintro ⟨y, e, h⟩
      exact ⟨y, e, SqT.same s8 h⟩
    clear S2 H2
    rintro σ H2 ⟨B, x, rfl, S2, fB, xn, hx⟩
    refine ⟨fun σ' H' => σ' = [some (.ref a), some (.ref r), some (.int (0 + (i : Nat))), some (.ref p), some (.ref c), some (.int n), v6, some (.int (8 + (kd : Nat))), some (.int (at_ : Nat)), some x9, some (.ref B), v11, v12, v13, v14] ∧ St31 C r a c t n H0 H', ?_, ?_⟩
    · refine ⟨_, rfl, _, rfl, _, rfl, _, rfl, .inl ⟨B, _, rfl, SqL.of fB, fun q nq => ?_⟩⟩
      have s3 := same_upd (o := .tup (List.replicate at_ .non ++ [x, .str "x"])) nq
      have f3 : (upd H2 q (.tup (List.replicate at_ .non ++ [x, .str "x"]))) q = some (.tup (List.replicate at_ .non ++ [x, .str "x"])) := upd_same
      generalize upd H2 q (.tup (List.replicate at_ .non ++ [x, .str "x"])) = H3 at s3 f3 ⊢
      refine ⟨by show 2 ≤ sizeLine; decide, fun L nL => ?_⟩
      have s4 := same_upd (o := .lst [.ref B, .ref q]) nL
      have f4 : (upd H3 L (.lst [.ref B, .ref q])) L = some (.lst [.ref B, .ref q]) := upd_same
      generalize upd H3 L (.lst [.ref B, .ref q]) = H4 at s4 f4 ⊢
      have S4 := (S2.same s3).same s4
      obtain ⟨_, _, _, hR, _⟩ := id S4.R.h
      have nL : L ≠ r := ne_of f4 hR (by
        intro z
        injection z with z
        cases z)
      have fB4 := s4 _ _ (s3 _ _ fB)
      have nB : B ≠ r := ne_of fB4 hR (by
        intro z
        injection z with z
        have z0 := congrArg (·[0]?) z
        have z1 := congrArg List.length z
        cases at_ with
        | zero =>
          rw [List.length_append] at z1
          cases z1
        | succ m => rw [List.replicate_succ] at z0; cases z0)
      refine ⟨_, rfl, ⟨⟨r, a, ns, 2, rfl, S4.R, Sq S4.B, by decide, by decide, fun v H5 v0 v1 R5 B5 => ?_⟩⟩⟩
      have S5 := S4.but R5 B5
      have fB5 := B5 _ _ nB fB4
      have f5 : SqT K H5 q (List.replicate at_ .non ++ [x, .str "x"]) := sqT_but hR B5 (SqT.of' (s4 _ _ f3))
      have hx5 : scV x = true ∧ isD n x = false ∨ ∃ (y : Addr) (t : Value), x = .ref y ∧ (∀ H', Same H5 H' → TyX K H' x t) ∧ PySem.W.kitOne K t (.type "int") = some false ∧ PySem.W.kitOne K t (.type "bool") = some false := hx.imp id (by
        rintro ⟨y, rfl, h⟩
        have h5 : SqT K H5 y [.int 0] := sqT_but hR B5 (SqT.same (s3.trans s4) h)
        exact ⟨y, .type "tuple", rfl, fun H' s => tyT (SqT.same s h5), kit_ty (by decide +kernel), kit_ty (by decide +kernel)⟩)
      have cse : ∃ y, atI [V.ref B, .ref q] v = some y ∧ BadSe K H5 n y (.int at_) := by
        have : v = 0 ∨ v = 1 := by omega
        rcases this with rfl | rfl
        · exact ⟨_, rfl, .at_ (.inl fB5) (by show at_ + 1 + 1 ≤ 60; omega) xn hx5⟩
        · exact ⟨_, rfl, .at_ (.inr f5) (by show at_ + 1 + 1 ≤ 60; omega) xn hx5⟩
      obtain ⟨y, ay, bad⟩ := cse
      refine ⟨L, _, v, y, rfl, rfl, SqL.of (B5 _ _ nL f4), ay, ⟨⟨8 + kd, .ref c, y, .non, congrArg (fun z => [V.int z, .ref c, y, .non]) (show (8 : Int) + (kd : Int) = ((8 + kd : Nat) : Int) by omega), fun H6 s6 => J_seen (by omega) (by omega) (S5.Cb.sameI s6) (bad.same s6) fun H7 s7 d H8 hd s8 hx => .inr (.inr (.inr (.inr (.inl ⟨rfl, d, _, rfl, hx, fun l nl => ?_⟩))))⟩⟩⟩
      have sl := same_upd (o := .lst [.str "seen", .int at_]) nl
      refine ⟨_, rfl, by show 2 ≤ sizeLine; decide, fun u nu => ?_⟩
      have su := same_upd (o := .lst [.str "seen", .int at_]) nu
      refine ne_same (dp_two oks (okS_int _) (su _ _ upd_same)) (dp_two oks (okS_int _) upd_same) (dok_two oks (okS_int _)) ⟨_, rfl, iteF ⟨rfl, ?_⟩⟩
      exact ((((S5.same s6).same s7).same s8).same sl).same su
    clear S2 fB xn hx H2
    rintro σ H2 ⟨rfl, S2⟩
    -- numbers
    refine ⟨fun σ' H' => ∃ (wd t2 : Addr) (n2 : Int) (far : V), σ' = [some (.ref a), some (.ref r), some (.int (0 + (i : Nat))), some (.ref p), some (.ref c), some (.int n), v6, some (.int (8 + (kd : Nat))), some (.int (at_ : Nat)), some x9, some (.ref B), some (.ref wd), some far, v13, v14] ∧ St31 C r a c t n H0 H' ∧ CabAt C H' wd n2 t2 ∧ 5 ≤ n2 ∧ OkS far ∧ (oddN far ∨ ∃ j : Int, far = .int j ∧ ¬ (0 ≤ j ∧ j ≤ 1000000000000000000000000000000)), ?_, ?_⟩
    · refine ⟨_, rfl, ⟨⟨r, a, ns, 3, rfl, S2.R, Sq S2.B, by decide, by decide, fun v H3 v0 v1 R3 B3 => ?_⟩⟩⟩
      have S3 := S2.but R3 B3
      refine ⟨_, _, rfl, rfl, by show 0 ≤ sizeLine; decide, fun t2 nt2 => ?_⟩
      have s4 := same_upd (o := .tup []) nt2
      have f4 : (upd H3 t2 (.tup [])) t2 = some (.tup []) := upd_same
      generalize upd H3 t2 (.tup []) = H4 at s4 f4 ⊢
      intro wd dx nc ndx nex
      have s5 : Same H4 (upd (upd H4 dx (.own wd)) wd (.ins C dx [])) := fun b o e => by
        rw [upd_ne (ne_of_none e nc), upd_ne (ne_of_none e ndx)]
        exact e
      have hBr : BarsAt H4 t2 [] := ⟨f4, fun k hk => by cases hk⟩
      refine ⟨⟨wd, dx, 5 + v, t2, [], rfl, upd_same, by omega, by omega, hBr.same s5, ⟨fun _ h => (by cases h), List.Pairwise.nil⟩, fun H5 hx kp => ⟨rfl, ?_⟩⟩⟩
      have s45 : Same H4 H5 := fun b o e => kp b o (ne_of_none e nc) (s5 b o e)
      have S5 := (S3.same s4).same s45
      have hw : CabAt C H5 wd (5 + v) t2 := ⟨dx, hx⟩
      refine ⟨_, rfl, _, _, rfl, rfl, ⟨by decide, by decide, by decide⟩, _, _, rfl, rfl, by show 5 ≤ sizeLine; decide, fun L nL => ?_⟩
      have s6 := same_upd (o := .lst [.non, .int (-1), .int (10 ^ (30 : Int).toNat + 1), .bl true, .str "1"]) nL
      have f6 : (upd H5 L (.lst [.non, .int (-1), .int (10 ^ (30 : Int).toNat + 1), .bl true, .str "1"])) L = some (.lst [.non, .int (-1), .int (10 ^ (30 : Int).toNat + 1), .bl true, .str "1"]) := upd_same
      generalize upd H5 L (.lst [.non, .int (-1), .int (10 ^ (30 : Int).toNat + 1), .bl true, .str "1"]) = H6 at s6 f6 ⊢
      have S6 := S5.same s6
      have hw := hw.sameI s6
      obtain ⟨_, _, _, hR, _⟩ := id S6.R.h
      have nL : L ≠ r := ne_of f6 hR (by
        intro z
        injection z with z
        cases z)
      refine ⟨_, rfl, ⟨⟨r, a, ns, 5, rfl, S6.R, Sq S6.B, by decide, by decide, fun v' H7 w0 w1 R7 B7 => ?_⟩⟩⟩
      have cse : ∃ x, atI [V.non, .int (-1), .int (10 ^ (30 : Int).toNat + 1), .bl true, .str "1"] v' = some x ∧ OkS x ∧ (oddN x ∨ ∃ j : Int, x = .int j ∧ ¬ (0 ≤ j ∧ j ≤ 1000000000000000000000000000000)) := by
        have : v' = 0 ∨ v' = 1 ∨ v' = 2 ∨ v' = 3 ∨ v' = 4 := by omega
        rcases this with rfl | rfl | rfl | rfl | rfl
        · exact ⟨_, rfl, okS_non, .inl ⟨rfl, fun i z => by cases z⟩⟩
        · exact ⟨_, rfl, okS_int _, .inr ⟨-1, rfl, by decide⟩⟩
        · exact ⟨_, rfl, okS_int _, .inr ⟨_, rfl, by decide +kernel⟩⟩
        · exact ⟨_, rfl, okS_bl _, .inl ⟨rfl, fun i z => by cases z⟩⟩
        · exact ⟨_, rfl, okS_str (by decide +kernel), .inl ⟨rfl, fun i z => by cases z⟩⟩
      obtain ⟨far, ax, ok1, ok2⟩ := cse
      refine ⟨L, _, v', far, rfl, rfl, SqL.of (B7 _ _ nL f6), ax, ?_⟩
      exact ⟨_, _, rfl, wd, t2, 5 + v, far, rfl, S6.but R7 B7, hw.butR S6.R B7, by omega, ok1, ok2⟩
    clear S2 H2
    rintro σ H2 ⟨wd, t2, n2, far, rfl, S2, hw, n5, okf, bf⟩
    have okm : OkS (.str ("many" : Str)) := okS_str (by decide +kernel)
    refine ⟨fun σ' H' => σ' = [some (.ref a), some (.ref r), some (.int (0 + (i : Nat))), some (.ref p), some (.ref c), some (.int n), v6, some (.int (8 + (kd : Nat))), some (.int (at_ : Nat)), some x9, some (.ref B), some (.ref wd), some far, v13, v14] ∧ St31 C r a c t n H0 H', ?_, ?_⟩
    · refine ⟨_, rfl, _, rfl, ⟨⟨12, .ref wd, far, .non, rfl, fun H5 s5 => J_many (hw.sameI s5) (by omega) fun d H6 hd s6 hx => .inr (.inr (.inr (.inr (.inr ((.inl ⟨rfl, d, _, rfl, hx, fun l nl => ?_⟩))))))⟩⟩⟩
      have sl := same_upd (o := .lst [.str "many", .int 4]) nl
      refine ⟨by show 2 ≤ sizeLine; decide, fun u nu => ?_⟩
      have su := same_upd (o := .lst [.str "many", .int 4]) nu
      refine ne_same (dp_two okm (okS_int _) (su _ _ upd_same)) (dp_two okm (okS_int _) upd_same) (dok_two okm (okS_int _)) ⟨_, rfl, iteF ?_⟩
      have S6 := (((S2.same s5).same s6).same sl).same su
      have bl : ∀ H', BadLenL K H' 0 1000000000000000000000000000000 far := fun H' => bf.elim bad_odd fun z => .inr z
      refine ⟨_, rfl, _, rfl, ⟨⟨12, .ref c, far, .non, rfl, fun H7 s7 => J_len (S6.Cb.sameI s7) (by omega) (bl H7) fun d H8 hd s8 hx => .inr (.inr (.inr (.inr (.inr (.inr ((.inl ⟨rfl, d, _, rfl, hx, fun l nl => ?_⟩)))))))⟩⟩⟩
      have sl := same_upd (o := .lst [far]) nl
      refine ⟨_, rfl, by show 1 ≤ sizeLine; decide, fun u nu => ?_⟩
      have su := same_upd (o := .lst [far]) nu
      refine ne_same (dp_one okf (su _ _ upd_same)) (dp_one okf upd_same) (dok_one okf) ⟨_, rfl, iteF ⟨rfl, ?_⟩⟩
      exact (((S6.same s7).same s8).same sl).same su
    clear S2 hw H2
    rintro σ H2 ⟨rfl, S2⟩
    refine ⟨fun σ' H' => ∃ div : V, σ' = [some (.ref a), some (.ref r), some (.int (0 + (i : Nat))), some (.ref p), some (.ref c), some (.int n), v6, some (.int (8 + (kd : Nat))), some (.int (at_ : Nat)), some x9, some (.ref B), some (.ref wd), some far, some div, v14] ∧ St31 C r a c t n H0 H' ∧ OkS div ∧ (oddN div ∨ ∃ j : Int, div = .int j ∧ ¬ (1 ≤ j ∧ j ≤ 1000000000)), ?_, ?_⟩
    · refine ⟨_, _, rfl, rfl, ⟨by decide, by decide, by decide⟩, _, _, rfl, rfl, by show 5 ≤ sizeLine; decide, fun L nL => ?_⟩
      have s6 := same_upd (o := .lst [.non, .int 0, .int (10 ^ (9 : Int).toNat + 1), .bl true, .str "1"]) nL
      have f6 : (upd H2 L (.lst [.non, .int 0, .int (10 ^ (9 : Int).toNat + 1), .bl true, .str "1"])) L = some (.lst [.non, .int 0, .int (10 ^ (9 : Int).toNat + 1), .bl true, .str "1"]) := upd_same
      generalize upd H2 L (.lst [.non, .int 0, .int (10 ^ (9 : Int).toNat + 1), .bl true, .str "1"]) = H6 at s6 f6 ⊢
      have S6 := S2.same s6
      obtain ⟨_, _, _, hR, _⟩ := id S6.R.h
      have nL : L ≠ r := ne_of f6 hR (by
        intro z
        injection z with z
        cases z)
      refine ⟨_, rfl, ⟨⟨r, a, ns, 5, rfl, S6.R, Sq S6.B, by decide, by decide, fun v' H7 w0 w1 R7 B7 => ?_⟩⟩⟩
      have cse : ∃ x, atI [V.non, .int 0, .int (10 ^ (9 : Int).toNat + 1), .bl true, .str "1"] v' = some x ∧ OkS x ∧ (oddN x ∨ ∃ j : Int, x = .int j ∧ ¬ (1 ≤ j ∧ j ≤ 1000000000)) := by
        have : v' = 0 ∨ v' = 1 ∨ v' = 2 ∨ v' = 3 ∨ v' = 4 := by omega
        rcases this with rfl | rfl | rfl | rfl | rfl
        · exact ⟨_, rfl, okS_non, .inl ⟨rfl, fun i z => by cases z⟩⟩
        · exact ⟨_, rfl, okS_int _, .inr ⟨0, rfl, by decide⟩⟩
        · exact ⟨_, rfl, okS_int _, .inr ⟨_, rfl, by decide +kernel⟩⟩
        · exact ⟨_, rfl, okS_bl _, .inl ⟨rfl, fun i z => by cases z⟩⟩
        · exact ⟨_, rfl, okS_str (by decide +kernel), .inl ⟨rfl, fun i z => by cases z⟩⟩
      obtain ⟨div, ax, ok1, ok2⟩ := cse
      exact ⟨L, _, v', div, rfl, rfl, SqL.of (B7 _ _ nL f6), ax, div, rfl, S6.but R7 B7, ok1, ok2⟩
    clear S2 H2
    rintro σ H2 ⟨div, rfl, S2, okd, bd⟩
    refine ⟨fun σ' H' => σ' = [some (.ref a), some (.ref r), some (.int (0 + (i : Nat))), some (.ref p), some (.ref c), some (.int n), v6, some (.int (8 + (kd : Nat))), some (.int (at_ : Nat)), some x9, some (.ref B), some (.ref wd), some far, some div, v14] ∧ St31 C r a c t n H0 H', ?_, ?_⟩
    · have bl : ∀ H', BadLenL K H' 1 1000000000 div := fun H' => bd.elim bad_odd fun z => .inr z
      refine ⟨_, rfl, _, _, rfl, rfl, ⟨by decide, by decide, by decide⟩, _, rfl, ⟨⟨12, .ref c, .int (10 ^ (30 : Int).toNat), div, rfl, fun H7 s7 => J_div (S2.Cb.sameI s7) (by omega) (by decide +kernel) (by decide +kernel) (bl H7) fun d H8 hd s8 hx => .inr (.inr (.inr (.inr (.inr (.inr ((.inl ⟨rfl, d, _, rfl, hx, fun l nl => ?_⟩)))))))⟩⟩⟩
      have sl := same_upd (o := .lst [div]) nl
      refine ⟨_, rfl, by show 1 ≤ sizeLine; decide, fun u nu => ?_⟩
      have su := same_upd (o := .lst [div]) nu
      refine ne_same (dp_one okd (su _ _ upd_same)) (dp_one okd upd_same) (dok_one okd) ⟨_, rfl, iteF ⟨rfl, ?_⟩⟩
      exact (((S2.same s7).same s8).same sl).same su
    clear S2 H2
    rintro σ H2 ⟨rfl, S2⟩
    -- orders
    refine ⟨fun σ' H' => ∃ L u p2 l3 p4 p5 p6 : Addr, σ' = [some (.ref a), some (.ref r), some (.int (0 + (i : Nat))), some (.ref p), some (.ref c), some (.int n), v6, some (.int (8 + (kd : Nat))), some (.int (at_ : Nat)), some x9, some (.ref B), some (.ref wd), some far, some div, some (.ref L)] ∧ St31 C r a c t n H0 H' ∧ H0 L = none ∧ H' L = some (.lst [.non, .ref u, .ref p2, .ref l3, .ref p4, .ref p5, .ref p6]) ∧ SqT K H' u [] ∧ SqT K H' p2 (rgV 0 (n + 1)) ∧ (H' l3 = some (.lst (rgV 0 n)) ∧ l3 ≠ L) ∧ SqT K H' p4 (List.replicate n.toNat (.int 0) ++ [.int 0]) ∧ SqT K H' p5 (List.replicate n.toNat (.bl true)) ∧ SqT K H' p6 (List.replicate n.toNat (.int n)), ?_, ?_⟩
    · refine ⟨by show 0 ≤ sizeLine; decide, fun u nu => ?_⟩
      have s3 := same_upd (o := .tup []) nu
      have f3 : SqT K (upd H2 u (.tup [])) u [] := SqT.of' upd_same
      generalize upd H2 u (.tup []) = H3 at s3 f3 ⊢
      refine ⟨_, rfl, _, _, rfl, rfl, _, rfl, .of_le (by decide) (by omega) (by decide) (by omega), fun p2 np2 => ?_⟩
      have s4 := same_upd (o := .tup (rgV 0 (n + 1))) np2
      have f4 : SqT K (upd H3 p2 (.tup (rgV 0 (n + 1)))) p2 (rgV 0 (n + 1)) := SqT.of' upd_same
      have f3 := SqT.same s4 f3
      generalize upd H3 p2 (.tup (rgV 0 (n + 1))) = H4 at s4 f4 f3 ⊢
      refine ⟨_, rfl, _, rfl, .of_le (by decide) (by omega) (by decide) (by omega), fun l3 nl3 => ?_⟩
      have s5 := same_upd (o := .lst (rgV 0 n)) nl3
      have f5 : (upd H4 l3 (.lst (rgV 0 n))) l3 = some (.lst (rgV 0 n)) := upd_same
      have f3 := SqT.same s5 f3
      have f4 := SqT.same s5 f4
      generalize upd H4 l3 (.lst (rgV 0 n)) = H5 at s5 f5 f4 f3 ⊢
      refine ⟨by show 1 ≤ sizeLine; decide, fun q nq => ⟨_, rfl, q, n, .int 0, rfl, rfl, SqT.of' upd_same, by omega, by omega, fun pa H6 s6 f6 => ?_⟩⟩
      have s6 := (same_upd nq).trans s6
      refine ⟨by show 1 ≤ sizeLine; decide, fun q2 nq2 => ?_⟩
      have s7 := same_upd (o := .tup [.int 0]) nq2
      have rl : (List.replicate n.toNat (V.int 0)).length = n.toNat := List.length_replicate
      refine ⟨pa, q2, _, [.int 0], rfl, rfl, SqT.same s7 f6, SqT.of' upd_same, (by rw [rl]; exact Nat.le_of_lt (small1000 (n := n.toNat + 1) (by omega))), (fun e => by rw [e] at rl; simp at rl; omega), (fun _ e => by cases e), fun _ _ p4 np4 => ?_⟩
      have s8 := s7.trans (same_upd (o := .tup (List.replicate n.toNat (V.int 0) ++ [.int 0])) np4)
      have f8 : SqT K (upd (upd H6 q2 (.tup [.int 0])) p4 (.tup (List.replicate n.toNat (V.int 0) ++ [.int 0]))) p4 (List.replicate n.toNat (V.int 0) ++ [.int 0]) := SqT.of' upd_same
      generalize upd (upd H6 q2 (.tup [.int 0])) p4 (.tup (List.replicate n.toNat (V.int 0) ++ [.int 0])) = H8 at s8 f8 ⊢
      refine ⟨by show 1 ≤ sizeLine; decide, fun q3 nq3 => ⟨_, rfl, q3, n, .bl true, rfl, rfl, SqT.of' upd_same, by omega, by omega, fun p5 H9 s9 f9 => ?_⟩⟩
      have s9 := (same_upd nq3).trans s9
      refine ⟨_, rfl, by show 1 ≤ sizeLine; decide, fun q4 nq4 => ⟨_, rfl, q4, n, .int n, rfl, rfl, SqT.of' upd_same, by omega, by omega, fun p6 H10 s10 f10 => ?_⟩⟩
      have s10 := (same_upd nq4).trans s10
      refine ⟨by show 7 ≤ sizeLine; decide, fun L nL => ?_⟩
      have s11 := same_upd (o := .lst [.non, .ref u, .ref p2, .ref l3, .ref p4, .ref p5, .ref p6]) nL
      have s610 := ((s6.trans s8).trans s9).trans s10
      have S10 := (((S2.same s3).same s4).same s5).same s610
      have nL0 : H0 L = none := by
        cases q : H0 L with
        | none => rfl
        | some o =>
          obtain ⟨_, _, _, hR, _⟩ := id S10.R.h
          have := S10.B L o (ne_of_none hR nL).symm q
          rw [this] at nL
          cases nL
      exact ⟨L, u, p2, l3, p4, p5, p6, rfl, S10.same s11, nL0, upd_same, SqT.same (s610.trans s11) f3, SqT.same (s610.trans s11) f4, ⟨(s610.trans s11) _ _ f5, ne_of_none (s610 _ _ f5) nL⟩, SqT.same ((s9.trans s10).trans s11) f8, SqT.same (s10.trans s11) f9, SqT.same s11 f10⟩
    clear S2 H2
    rintro σ H2 ⟨L, u, p2, l3, p4, p5, p6, rfl, S2, nL0, fL, f3, f4, ⟨f5, nl3⟩, f6, f7, f8⟩
    refine ⟨fun σ' H' => ∃ z, σ' = [some (.ref a), some (.ref r), some (.int (0 + (i : Nat))), some (.ref p), some (.ref c), some (.int n), v6, some (.int (8 + (kd : Nat))), some (.int (at_ : Nat)), some x9, some (.ref B), some (.ref wd), some far, some div, some (.ref L)] ∧ St31 C r a c t n H0 H' ∧ H' L = some (.lst ([.non, .ref u, .ref p2, .ref l3, .ref p4, .ref p5, .ref p6] ++ [.ref z])) ∧ SqT K H' z ([.int 0, .bl true] ++ rgV 2 n) ∧ SqT K H' u [] ∧ SqT K H' p2 (rgV 0 (n + 1)) ∧ (H' l3 = some (.lst (rgV 0 n)) ∧ l3 ≠ L) ∧ SqT K H' p4 (List.replicate n.toNat (.int 0) ++ [.int 0]) ∧ SqT K H' p5 (List.replicate n.toNat (.bl true)) ∧ SqT K H' p6 (List.replicate n.toNat (.int n)), ?_, ?_⟩
    · have fin : ∀ (z0 : Addr) (H3 : Hp), Same H2 H3 → SqT K H3 z0 ([.int 0, .bl true] ++ rgV 2 n) → ∃ z, St31 C r a c t n H0 (upd H3 L (.lst ([.non, .ref u, .ref p2, .ref l3, .ref p4, .ref p5, .ref p6] ++ [.ref z0]))) ∧ (upd H3 L (.lst ([.non, .ref u, .ref p2, .ref l3, .ref p4, .ref p5, .ref p6] ++ [.ref z0]))) L = some (.lst ([.non, .ref u, .ref p2, .ref l3, .ref p4, .ref p5, .ref p6] ++ [.ref z])) ∧ SqT K (upd H3 L (.lst ([.non, .ref u, .ref p2, .ref l3, .ref p4, .ref p5, .ref p6] ++ [.ref z0]))) z ([.int 0, .bl true] ++ rgV 2 n) ∧ SqT K (upd H3 L (.lst ([.non, .ref u, .ref p2, .ref l3, .ref p4, .ref p5, .ref p6] ++ [.ref z0]))) u [] ∧ SqT K (upd H3 L (.lst ([.non, .ref u, .ref p2, .ref l3, .ref p4, .ref p5, .ref p6] ++ [.ref z0]))) p2 (rgV 0 (n + 1)) ∧ ((upd H3 L (.lst ([.non, .ref u, .ref p2, .ref l3, .ref p4, .ref p5, .ref p6] ++ [.ref z0]))) l3 = some (.lst (rgV 0 n)) ∧ l3 ≠ L) ∧ SqT K (upd H3 L (.lst ([.non, .ref u, .ref p2, .ref l3, .ref p4, .ref p5, .ref p6] ++ [.ref z0]))) p4 (List.replicate n.toNat (.int 0) ++ [.int 0]) ∧ SqT K (upd H3 L (.lst ([.non, .ref u, .ref p2, .ref l3, .ref p4, .ref p5, .ref p6] ++ [.ref z0]))) p5 (List.replicate n.toNat (.bl true)) ∧ SqT K (upd H3 L (.lst ([.non, .ref u, .ref p2, .ref l3, .ref p4, .ref p5, .ref p6] ++ [.ref z0]))) p6 (List.replicate n.toNat (.int n)) := fun z0 H3 s hz => by
        obtain ⟨NL, eNL⟩ : ∃ NL : List V, [.non, .ref u, .ref p2, .ref l3, .ref p4, .ref p5, .ref p6] ++ [.ref z0] = NL := ⟨_, rfl⟩
        rw [eNL]
        have fL3 := s _ _ fL
        have bt : But L H3 (upd H3 L (.lst NL)) := fun b o nb e => by rw [upd_ne nb]; exact e
        have S3 := S2.same s
        obtain ⟨dx, hc⟩ := id S3.Cb
        obtain ⟨_, _, _, hR, _⟩ := id S3.R.h
        have nrL : L ≠ r := ne_of fL3 hR (by
          intro z
          injection z with z
          cases z)
        have R4 : RowOk (upd H3 L (.lst NL)) r a := by
          obtain ⟨x1, x2, x3, hR2, rest⟩ := id S3.R.h
          exact ⟨⟨x1, x2, x3, by rw [upd_ne nrL.symm]; exact hR2, rest⟩⟩
        refine ⟨z0, ⟨R4, fun b o nb e => ?_, dx, ?_⟩, by rw [upd_same, eNL], sqT_but fL3 bt hz, sqT_but fL3 bt (SqT.same s f3), sqT_but fL3 bt (SqT.same s f4), ⟨by rw [upd_ne nl3]; exact s _ _ f5, nl3⟩, sqT_but fL3 bt (SqT.same s f6), sqT_but fL3 bt (SqT.same s f7), sqT_but fL3 bt (SqT.same s f8)⟩
        · rw [upd_ne (ne_of_none e nL0)]
          exact S3.B b o nb e
        · rw [upd_ne (ne_of hc fL3 (by intro z; cases z))]
          exact hc
      refine ⟨_, rfl, .inl ⟨rfl, _, .inl (.inl fL)⟩, by show 2 ≤ sizeLine; decide, fun q nq => ?_⟩
      have s3 := same_upd (o := .tup [.int 0, .bl true]) nq
      have g3 : SqT K (upd H2 q (.tup [.int 0, .bl true])) q [.int 0, .bl true] := SqT.of' upd_same
      generalize upd H2 q (.tup [.int 0, .bl true]) = H3 at s3 g3 ⊢
      refine ⟨_, rfl, 2, n, rfl, rfl, .of_le (by decide) (by omega) (by decide) (by omega), fun q2 nq2 => ?_⟩
      have s4 := same_upd (o := .tup (rgV 2 n)) nq2
      have g4 : SqT K (upd H3 q2 (.tup (rgV 2 n))) q2 (rgV 2 n) := SqT.of' upd_same
      have g3 := SqT.same s4 g3
      generalize upd H3 q2 (.tup (rgV 2 n)) = H4 at s4 g4 g3 ⊢
      have s24 := s3.trans s4
      have rl : (rgV 2 n).length = (n - 2).toNat := rgV_length 2 n
      exact ⟨q, q2, _, _, rfl, rfl, g3, g4, (by rw [rl]; exact Nat.le_of_lt (small1000 (n := 2 + (n - 2).toNat) (by omega))), (fun e => by cases e),
        (fun _ e => ⟨L, _, _, rfl, rfl, s24 _ _ fL, (by show 7 < sizeLine; decide), (fin q H4 s24 (by rw [e, List.append_nil]; exact g3)).imp fun z h => ⟨rfl, h⟩⟩),
        fun _ _ z nz => ⟨L, _, _, rfl, rfl, s24.trans (same_upd nz) _ _ fL, (by show 7 < sizeLine; decide), (fin z _ (s24.trans (same_upd nz)) (SqT.of' upd_same)).imp fun z h => ⟨rfl, h⟩⟩⟩
    clear S2 fL f3 f4 f5 f6 f7 f8 H2
    rintro σ H2 ⟨z, rfl, S2, fL, fz, f3, f4, ⟨f5, _⟩, f6, f7, f8⟩
    have rlen : ∀ b : Int, b ≤ 10 → (rgV 2 b).length ≤ 10 ∧ (rgV 0 b).length = b.toNat := fun b hb => ⟨by rw [rgV_length]; omega, by rw [rgV_length, Int.sub_zero]⟩
    have z2 := (rlen n (by omega)).1
    have badz : BadOr K H2 n (.ref z) := .inr ⟨z, _, rfl, fz, by rw [List.length_append]; show 2 + (rgV 2 n).length ≤ 1000; omega, fun x hx => by
      rcases List.mem_append.mp hx with h | h
      · rcases List.mem_cons.mp h with rfl | h
        · rfl
        · rw [List.mem_singleton.mp h]; rfl
      · exact rg_sc h, .inl (by
      show (isD n (.int 0) && (false && (rgV 2 n).all (isD n))) = false
      rw [Bool.false_and, Bool.and_false])⟩
    refine ⟨fun σ' H' => σ' = [some (.ref a), some (.ref r), some (.int (0 + (i : Nat))), some (.ref p), some (.ref c), some (.int n), v6, some (.int (8 + (kd : Nat))), some (.int (at_ : Nat)), some x9, some (.ref B), some (.ref wd), some far, some div, some (.ref L)] ∧ St31 C r a c t n H0 H' ∧ Same H2 H', ?_, ?_⟩
    · refine ⟨_, rfl, _, _, rfl, rfl, _, rfl, ?_⟩
      by_cases h1 : 1 < n
      · rw [decide_eq_true h1]
        refine iteT ?_
        refine ⟨_, rfl, _, rfl, L, _, 7, .ref z, rfl, rfl, SqL.of fL, rfl, ⟨⟨13, .ref c, .ref z, .non, rfl, fun H5 s5 => J_ord (S2.Cb.sameI s5) n0 (by omega) (badz.same s5) fun H6 s6 => .inr (.inr (.inr (.inr (.inr (.inr (.inr (⟨rfl, ?_⟩)))))))⟩⟩⟩
        exact ⟨rfl, _, rfl, iteNS rfl ⟨rfl, (S2.same s5).same s6, s5.trans s6⟩⟩
      · rw [decide_eq_false h1]
        exact iteF (iteF ⟨rfl, S2, Same.refl _⟩)
    rintro σ H3 ⟨rfl, S3, s3⟩
    obtain ⟨_, _, _, hR, _⟩ := id S3.R.h
    have fL3 := s3 _ _ fL
    have f53 := s3 _ _ f5
    have nL : L ≠ r := ne_of fL3 hR (by
      intro z
      injection z with z
      cases z)
    have nl : l3 ≠ r := by
      rw [rg_ints] at f53
      exact ints_ne S3.R f53
    refine ⟨_, rfl, _, rfl, _, rfl, ⟨⟨r, a, ns, 7, rfl, S3.R, Sq S3.B, by decide, by decide, fun v H4 v0 v1 R4 B4 => ?_⟩⟩⟩
    have S4 := S3.but R4 B4
    have tp : ∀ {q xs}, SqT K H2 q xs → SqT K H4 q xs := fun h => sqT_but hR B4 (SqT.same s3 h)
    have f54 := B4 _ _ nl f53
    have cse : ∃ x, atI ([V.non, .ref u, .ref p2, .ref l3, .ref p4, .ref p5, .ref p6] ++ [.ref z]) v = some x ∧ BadOr K H4 n x := by
      have : v = 0 ∨ v = 1 ∨ v = 2 ∨ v = 3 ∨ v = 4 ∨ v = 5 ∨ v = 6 := by omega
      have rl : ∀ {m : Nat} {x y : V}, scV x = true → y ∈ List.replicate m x → scV y = true := fun hx h => by rw [mem_rep h]; exact hx
      rcases this with rfl | rfl | rfl | rfl | rfl | rfl | rfl
      · exact ⟨_, rfl, .inl ⟨_, fun _ _ => .base .non, kit_ty (by decide +kernel)⟩⟩
      · exact ⟨_, rfl, .inr ⟨u, [], rfl, tp f3, by decide, (fun x hx => by cases hx), .inr ⟨by show ¬ (0 : Int) = n; omega, [], rfl⟩⟩⟩
      · refine ⟨_, rfl, .inr ⟨p2, _, rfl, tp f4, by rw [(rlen (n + 1) (by omega)).2]; omega, (fun x hx => rg_sc hx), .inr ⟨by rw [(rlen (n + 1) (by omega)).2]; omega, _, rg_ints _ _⟩⟩⟩
      · exact ⟨_, rfl, .inl ⟨_, fun H' s => .base (.lst (s _ _ f54)), kit_ty (by decide +kernel)⟩⟩
      · refine ⟨_, rfl, .inr ⟨p4, _, rfl, tp f6, by rw [List.length_append, List.length_replicate]; show n.toNat + 1 ≤ 1000; omega, (fun x hx => ?_), .inr ⟨by rw [List.length_append, List.length_replicate]; show ((n.toNat + 1 : Nat) : Int) ≠ n; omega, List.replicate n.toNat 0 ++ [0], by rw [List.map_append, List.map_replicate]; rfl⟩⟩⟩
        rcases List.mem_append.mp hx with h | h
        · exact rl rfl h
        · rw [List.mem_singleton.mp h]; rfl
      · exact ⟨_, rfl, .inr ⟨p5, _, rfl, tp f7, by rw [List.length_replicate]; omega, (fun x hx => rl rfl hx), .inl (by rw [all_rep (by omega)]; rfl)⟩⟩
      · refine ⟨_, rfl, .inr ⟨p6, _, rfl, tp f8, by rw [List.length_replicate]; omega, (fun x hx => rl rfl hx), .inl ?_⟩⟩
        rw [all_rep (by omega)]
        show (decide (0 ≤ n) && decide (n < n)) = false
        rw [decide_eq_false (show ¬ n < n by omega), Bool.and_false]
    obtain ⟨x, ax, bad⟩ := cse
    refine ⟨L, _, v, x, rfl, rfl, SqL.of (B4 _ _ nL fL3), ax, ⟨⟨13, .ref c, x, .non, rfl, fun H5 s5 => J_ord (S4.Cb.sameI s5) n0 (by omega) (bad.same s5) fun H6 s6 => .inr (.inr (.inr (.inr (.inr (.inr (.inr (⟨rfl, ?_⟩)))))))⟩⟩⟩
    refine ⟨rfl, _, rfl, iteNS rfl ?_⟩
    exact ⟨_, _, _, _, _, _, _, _, _, _, _, _, _, rfl, ((S4.same s5).same s6).R, ((S4.same s5).same s6).B⟩
end
end DL

set_option Elab.async false
set_option maxRecDepth 100000
set_option maxHeartbeats 8000000
namespace DL
open PySem L2 HT TL
/-! ### what the top has written -/
theorem all_mk {l : PySem.W.OpenLaw} {w : World} {K : PySem.W.Frag} {h : Heap} {mg : Str → Option Value} {fa : Addr} (X : K.In h) (G : h.Ns mainGlobals mg) (hfa : mg "law" = some (.ref fa))
    {f_is_integer : Addr} {od_is_integer an_is_integer : Option Addr} {sl_is_integer : Array (Option Value)} {oc_is_integer kV_is_integer dc_is_integer pm_is_integer cd_is_integer ct_is_integer : Value}
    {f_is_drawer_count : Addr} {od_is_drawer_count an_is_drawer_count : Option Addr} {sl_is_drawer_count : Array (Option Value)} {oc_is_drawer_count kV_is_drawer_count dc_is_drawer_count pm_is_drawer_count cd_is_drawer_count ct_is_drawer_count : Value}
    {f_is_drawer : Addr} {od_is_drawer an_is_drawer : Option Addr} {sl_is_drawer : Array (Option Value)} {oc_is_drawer kV_is_drawer dc_is_drawer pm_is_drawer cd_is_drawer ct_is_drawer : Value}
    {f_is_bar : Addr} {od_is_bar an_is_bar : Option Addr} {sl_is_bar : Array (Option Value)} {oc_is_bar kV_is_bar dc_is_bar pm_is_bar cd_is_bar ct_is_bar : Value}
    {f_check_drawers : Addr} {od_check_drawers an_check_drawers : Option Addr} {sl_check_drawers : Array (Option Value)} {oc_check_drawers kV_check_drawers dc_check_drawers pm_check_drawers cd_check_drawers ct_check_drawers : Value}
    {f_check_bars : Addr} {od_check_bars an_check_bars : Option Addr} {sl_check_bars : Array (Option Value)} {oc_check_bars kV_check_bars dc_check_bars pm_check_bars cd_check_bars ct_check_bars : Value}
    {f__law_taken : Addr} {od__law_taken an__law_taken : Option Addr} {sl__law_taken : Array (Option Value)} {oc__law_taken kV__law_taken dc__law_taken pm__law_taken cd__law_taken ct__law_taken : Value}
    {f__law_parts : Addr} {od__law_parts an__law_parts : Option Addr} {sl__law_parts : Array (Option Value)} {oc__law_parts kV__law_parts dc__law_parts pm__law_parts cd__law_parts ct__law_parts : Value}
    {f__law_made : Addr} {od__law_made an__law_made : Option Addr} {sl__law_made : Array (Option Value)} {oc__law_made kV__law_made dc__law_made pm__law_made cd__law_made ct__law_made : Value}
    {f_has_signs : Addr} {od_has_signs an_has_signs : Option Addr} {sl_has_signs : Array (Option Value)} {oc_has_signs kV_has_signs dc_has_signs pm_has_signs cd_has_signs ct_has_signs : Value}
    {f_is_standing : Addr} {od_is_standing an_is_standing : Option Addr} {sl_is_standing : Array (Option Value)} {oc_is_standing kV_is_standing dc_is_standing pm_is_standing cd_is_standing ct_is_standing : Value}
    {f_is_pattern : Addr} {od_is_pattern an_is_pattern : Option Addr} {sl_is_pattern : Array (Option Value)} {oc_is_pattern kV_is_pattern dc_is_pattern pm_is_pattern cd_is_pattern ct_is_pattern : Value}
    {f_check_cabinet : Addr} {od_check_cabinet an_check_cabinet : Option Addr} {sl_check_cabinet : Array (Option Value)} {oc_check_cabinet kV_check_cabinet dc_check_cabinet pm_check_cabinet cd_check_cabinet ct_check_cabinet : Value}
    {f_check_standing : Addr} {od_check_standing an_check_standing : Option Addr} {sl_check_standing : Array (Option Value)} {oc_check_standing kV_check_standing dc_check_standing pm_check_standing cd_check_standing ct_check_standing : Value}
    {f_check_pattern : Addr} {od_check_pattern an_check_pattern : Option Addr} {sl_check_pattern : Array (Option Value)} {oc_check_pattern kV_check_pattern dc_check_pattern pm_check_pattern cd_check_pattern ct_check_pattern : Value}
    {f_check_number : Addr} {od_check_number an_check_number : Option Addr} {sl_check_number : Array (Option Value)} {oc_check_number kV_check_number dc_check_number pm_check_number cd_check_number ct_check_number : Value}
    {f_check_few_drawers : Addr} {od_check_few_drawers an_check_few_drawers : Option Addr} {sl_check_few_drawers : Array (Option Value)} {oc_check_few_drawers kV_check_few_drawers dc_check_few_drawers pm_check_few_drawers cd_check_few_drawers ct_check_few_drawers : Value}
    {f_is_costs : Addr} {od_is_costs an_is_costs : Option Addr} {sl_is_costs : Array (Option Value)} {oc_is_costs kV_is_costs dc_is_costs pm_is_costs cd_is_costs ct_is_costs : Value}
    {f_check_costs : Addr} {od_check_costs an_check_costs : Option Addr} {sl_check_costs : Array (Option Value)} {oc_check_costs kV_check_costs dc_check_costs pm_check_costs cd_check_costs ct_check_costs : Value}
    {f_is_order : Addr} {od_is_order an_is_order : Option Addr} {sl_is_order : Array (Option Value)} {oc_is_order kV_is_order dc_is_order pm_is_order cd_is_order ct_is_order : Value}
    {f_check_order : Addr} {od_check_order an_check_order : Option Addr} {sl_check_order : Array (Option Value)} {oc_check_order kV_check_order dc_check_order pm_check_order cd_check_order ct_check_order : Value}
    {f_check_seen : Addr} {od_check_seen an_check_seen : Option Addr} {sl_check_seen : Array (Option Value)} {oc_check_seen kV_check_seen dc_check_seen pm_check_seen cd_check_seen ct_check_seen : Value}
    {f_first_ring : Addr} {od_first_ring an_first_ring : Option Addr} {sl_first_ring : Array (Option Value)} {oc_first_ring kV_first_ring dc_first_ring pm_first_ring cd_first_ring ct_first_ring : Value}
    {f_longest_row : Addr} {od_longest_row an_longest_row : Option Addr} {sl_longest_row : Array (Option Value)} {oc_longest_row kV_longest_row dc_longest_row pm_longest_row cd_longest_row ct_longest_row : Value}
    {f_keeping : Addr} {od_keeping an_keeping : Option Addr} {sl_keeping : Array (Option Value)} {oc_keeping kV_keeping dc_keeping pm_keeping cd_keeping ct_keeping : Value}
    {f_force : Addr} {od_force an_force : Option Addr} {sl_force : Array (Option Value)} {oc_force kV_force dc_force pm_force cd_force ct_force : Value}
    {f_plan : Addr} {od_plan an_plan : Option Addr} {sl_plan : Array (Option Value)} {oc_plan kV_plan dc_plan pm_plan cd_plan ct_plan : Value}
    {f_plan_depth : Addr} {od_plan_depth an_plan_depth : Option Addr} {sl_plan_depth : Array (Option Value)} {oc_plan_depth kV_plan_depth dc_plan_depth pm_plan_depth cd_plan_depth ct_plan_depth : Value}
    {f_cheapest : Addr} {od_cheapest an_cheapest : Option Addr} {sl_cheapest : Array (Option Value)} {oc_cheapest kV_cheapest dc_cheapest pm_cheapest cd_cheapest ct_cheapest : Value}
    {f_ring_at : Addr} {od_ring_at an_ring_at : Option Addr} {sl_ring_at : Array (Option Value)} {oc_ring_at kV_ring_at dc_ring_at pm_ring_at cd_ring_at ct_ring_at : Value}
    {f_first_fit : Addr} {od_first_fit an_first_fit : Option Addr} {sl_first_fit : Array (Option Value)} {oc_first_fit kV_first_fit dc_first_fit pm_first_fit cd_first_fit ct_first_fit : Value}
    {f_fits_many : Addr} {od_fits_many an_fits_many : Option Addr} {sl_fits_many : Array (Option Value)} {oc_fits_many kV_fits_many dc_fits_many pm_fits_many cd_fits_many ct_fits_many : Value}
    {f_stands_after : Addr} {od_stands_after an_stands_after : Option Addr} {sl_stands_after : Array (Option Value)} {oc_stands_after kV_stands_after dc_stands_after pm_stands_after cd_stands_after ct_stands_after : Value}
    {f_sure_pulls : Addr} {od_sure_pulls an_sure_pulls : Option Addr} {sl_sure_pulls : Array (Option Value)} {oc_sure_pulls kV_sure_pulls dc_sure_pulls pm_sure_pulls cd_sure_pulls ct_sure_pulls : Value}
    {f_count_rest : Addr} {od_count_rest an_count_rest : Option Addr} {sl_count_rest : Array (Option Value)} {oc_count_rest kV_count_rest dc_count_rest pm_count_rest cd_count_rest ct_count_rest : Value}
    {f_renamed : Addr} {od_renamed an_renamed : Option Addr} {sl_renamed : Array (Option Value)} {oc_renamed kV_renamed dc_renamed pm_renamed cd_renamed ct_renamed : Value}
    {f__law_odd : Addr} {od__law_odd an__law_odd : Option Addr} {sl__law_odd : Array (Option Value)} {oc__law_odd kV__law_odd dc__law_odd pm__law_odd cd__law_odd ct__law_odd : Value}
    {f__law_odd_standing : Addr} {od__law_odd_standing an__law_odd_standing : Option Addr} {sl__law_odd_standing : Array (Option Value)} {oc__law_odd_standing kV__law_odd_standing dc__law_odd_standing pm__law_odd_standing cd__law_odd_standing ct__law_odd_standing : Value}
    {f__law_call : Addr} {od__law_call an__law_call : Option Addr} {sl__law_call : Array (Option Value)} {oc__law_call kV__law_call dc__law_call pm__law_call cd__law_call ct__law_call : Value}
    {f__law_refused : Addr} {od__law_refused an__law_refused : Option Addr} {sl__law_refused : Array (Option Value)} {oc__law_refused kV__law_refused dc__law_refused pm__law_refused cd__law_refused ct__law_refused : Value}
    {f_law : Addr} {od_law an_law : Option Addr} {sl_law : Array (Option Value)} {oc_law kV_law dc_law pm_law cd_law ct_law : Value}
    {C : Addr}
    {f_Cabinet___init__ : Addr} {od_Cabinet___init__ an_Cabinet___init__ : Option Addr} {sl_Cabinet___init__ : Array (Option Value)} {oc_Cabinet___init__ kV_Cabinet___init__ dc_Cabinet___init__ pm_Cabinet___init__ cd_Cabinet___init__ ct_Cabinet___init__ : Value}
    {p_drawers : Addr} {rest_drawers : List Value}
    {f_Cabinet_drawers : Addr} {od_Cabinet_drawers an_Cabinet_drawers : Option Addr} {sl_Cabinet_drawers : Array (Option Value)} {oc_Cabinet_drawers kV_Cabinet_drawers dc_Cabinet_drawers pm_Cabinet_drawers cd_Cabinet_drawers ct_Cabinet_drawers : Value}
    {p_bars : Addr} {rest_bars : List Value}
    {f_Cabinet_bars : Addr} {od_Cabinet_bars an_Cabinet_bars : Option Addr} {sl_Cabinet_bars : Array (Option Value)} {oc_Cabinet_bars kV_Cabinet_bars dc_Cabinet_bars pm_Cabinet_bars cd_Cabinet_bars ct_Cabinet_bars : Value}
    {tM : Tok}
    {fW : Addr}
    {ddW : Option Addr} {tW1 tW2 : Tok} {nW : Nat} {slW : Array (Option Value)}
    {tST : Tok}
    {tSS : Tok}
    {CSd : Addr}
    {CPt : Addr}
    {CCb : Addr}
    {CCo : Addr}
    {COr : Addr}
    {CBN NBN fBN ccBN cdaBN DEBN : Addr}
    {nmBN qBN : Str} {bsBN : List Value} {snBN : List Str} {sbBN : List Value} {abBN : Bool} {colBN : Option Bool} {ddBN : Option Addr} {k0BN k1BN k2BN k3BN k5BN : Option Value}
    {ocfBN kVfBN docfBN pmfBN ctfBN : Value} {odfBN anfBN : Option Addr} {oslfBN : Array (Option Value)}
    {cclfBN : Value} {cddfBN : Option Addr} {vsfBN : Array Value} {ccsfBN : Array (Option Value)}
    {fileBN : Str} {tfBN : Tok}
    {clcBN : Value} {cldcBN : Option Addr} {cslcBN : Array (Option Value)}
    {CTM NTM fTM ccTM cdaTM DETM : Addr}
    {nmTM qTM : Str} {bsTM : List Value} {snTM : List Str} {sbTM : List Value} {abTM : Bool} {colTM : Option Bool} {ddTM : Option Addr} {k0TM k1TM k2TM k3TM k5TM : Option Value}
    {ocfTM kVfTM docfTM pmfTM ctfTM : Value} {odfTM anfTM : Option Addr} {oslfTM : Array (Option Value)}
    {cclfTM : Value} {cddfTM : Option Addr} {vsfTM : Array Value} {ccsfTM : Array (Option Value)}
    {fileTM : Str} {tfTM : Tok}
    {clcTM : Value} {cldcTM : Option Addr} {cslcTM : Array (Option Value)}
    {CSe NSe fSe ccSe cdaSe DESe : Addr}
    {nmSe qSe : Str} {bsSe : List Value} {snSe : List Str} {sbSe : List Value} {abSe : Bool} {colSe : Option Bool} {ddSe : Option Addr} {k0Se k1Se k2Se k3Se k5Se : Option Value}
    {ocfSe kVfSe docfSe pmfSe ctfSe : Value} {odfSe anfSe : Option Addr} {oslfSe : Array (Option Value)}
    {cclfSe : Value} {cddfSe : Option Addr} {vsfSe : Array Value} {ccsfSe : Array (Option Value)}
    {fileSe : Str} {tfSe : Tok}
    {clcSe : Value} {cldcSe : Option Addr} {cslcSe : Array (Option Value)}
    {taMC : Tok}
    {taMS : Tok}
    {taQC : Tok}
    {taQL : Tok}
    {taQD : Tok}
    (a_is_integer : PySem.W.nsIn K mainGlobals "is_integer" = some (some (.ref f_is_integer)))
    (l_is_integer : K.lookup f_is_integer = some ⟨oc_is_integer, od_is_integer, .func (PySem.W.fnOf "is_integer" "is_integer" (defArgs sIsInt) (defBody sIsInt) (defScope sIsInt) .none kV_is_integer dc_is_integer pm_is_integer an_is_integer cd_is_integer ct_is_integer), sl_is_integer⟩)
    (c_is_integer : PySem.W.codeIn K cd_is_integer "is_integer" = true)
    (k_is_integer : PySem.W.keepIn K (.ref f_is_integer) = true)
    (a_is_drawer_count : PySem.W.nsIn K mainGlobals "is_drawer_count" = some (some (.ref f_is_drawer_count)))
    (l_is_drawer_count : K.lookup f_is_drawer_count = some ⟨oc_is_drawer_count, od_is_drawer_count, .func (PySem.W.fnOf "is_drawer_count" "is_drawer_count" (defArgs sIsCount) (defBody sIsCount) (defScope sIsCount) .none kV_is_drawer_count dc_is_drawer_count pm_is_drawer_count an_is_drawer_count cd_is_drawer_count ct_is_drawer_count), sl_is_drawer_count⟩)
    (c_is_drawer_count : PySem.W.codeIn K cd_is_drawer_count "is_drawer_count" = true)
    (k_is_drawer_count : PySem.W.keepIn K (.ref f_is_drawer_count) = true)
    (a_is_drawer : PySem.W.nsIn K mainGlobals "is_drawer" = some (some (.ref f_is_drawer)))
    (l_is_drawer : K.lookup f_is_drawer = some ⟨oc_is_drawer, od_is_drawer, .func (PySem.W.fnOf "is_drawer" "is_drawer" (defArgs sIsDrawer) (defBody sIsDrawer) (defScope sIsDrawer) .none kV_is_drawer dc_is_drawer pm_is_drawer an_is_drawer cd_is_drawer ct_is_drawer), sl_is_drawer⟩)
    (c_is_drawer : PySem.W.codeIn K cd_is_drawer "is_drawer" = true)
    (k_is_drawer : PySem.W.keepIn K (.ref f_is_drawer) = true)
    (a_is_bar : PySem.W.nsIn K mainGlobals "is_bar" = some (some (.ref f_is_bar)))
    (l_is_bar : K.lookup f_is_bar = some ⟨oc_is_bar, od_is_bar, .func (PySem.W.fnOf "is_bar" "is_bar" (defArgs sIsBar) (defBody sIsBar) (defScope sIsBar) .none kV_is_bar dc_is_bar pm_is_bar an_is_bar cd_is_bar ct_is_bar), sl_is_bar⟩)
    (c_is_bar : PySem.W.codeIn K cd_is_bar "is_bar" = true)
    (k_is_bar : PySem.W.keepIn K (.ref f_is_bar) = true)
    (a_check_drawers : PySem.W.nsIn K mainGlobals "check_drawers" = some (some (.ref f_check_drawers)))
    (l_check_drawers : K.lookup f_check_drawers = some ⟨oc_check_drawers, od_check_drawers, .func (PySem.W.fnOf "check_drawers" "check_drawers" (defArgs sCheckDrawers) (defBody sCheckDrawers) (defScope sCheckDrawers) .none kV_check_drawers dc_check_drawers pm_check_drawers an_check_drawers cd_check_drawers ct_check_drawers), sl_check_drawers⟩)
    (c_check_drawers : PySem.W.codeIn K cd_check_drawers "check_drawers" = true)
    (k_check_drawers : PySem.W.keepIn K (.ref f_check_drawers) = true)
    (a_check_bars : PySem.W.nsIn K mainGlobals "check_bars" = some (some (.ref f_check_bars)))
    (l_check_bars : K.lookup f_check_bars = some ⟨oc_check_bars, od_check_bars, .func (PySem.W.fnOf "check_bars" "check_bars" (defArgs sCheckBars) (defBody sCheckBars) (defScope sCheckBars) .none kV_check_bars dc_check_bars pm_check_bars an_check_bars cd_check_bars ct_check_bars), sl_check_bars⟩)
    (c_check_bars : PySem.W.codeIn K cd_check_bars "check_bars" = true)
    (k_check_bars : PySem.W.keepIn K (.ref f_check_bars) = true)
    (a__law_taken : PySem.W.nsIn K mainGlobals "_law_taken" = some (some (.ref f__law_taken)))
    (l__law_taken : K.lookup f__law_taken = some ⟨oc__law_taken, od__law_taken, .func (PySem.W.fnOf "_law_taken" "_law_taken" (defArgs sTaken) (defBody sTaken) (defScope sTaken) .none kV__law_taken dc__law_taken pm__law_taken an__law_taken cd__law_taken ct__law_taken), sl__law_taken⟩)
    (c__law_taken : PySem.W.codeIn K cd__law_taken "_law_taken" = true)
    (k__law_taken : PySem.W.keepIn K (.ref f__law_taken) = true)
    (a__law_parts : PySem.W.nsIn K mainGlobals "_law_parts" = some (some (.ref f__law_parts)))
    (l__law_parts : K.lookup f__law_parts = some ⟨oc__law_parts, od__law_parts, .func (PySem.W.fnOf "_law_parts" "_law_parts" (defArgs sParts) (defBody sParts) (defScope sParts) .none kV__law_parts dc__law_parts pm__law_parts an__law_parts cd__law_parts ct__law_parts), sl__law_parts⟩)
    (c__law_parts : PySem.W.codeIn K cd__law_parts "_law_parts" = true)
    (k__law_parts : PySem.W.keepIn K (.ref f__law_parts) = true)
    (a__law_made : PySem.W.nsIn K mainGlobals "_law_made" = some (some (.ref f__law_made)))
    (l__law_made : K.lookup f__law_made = some ⟨oc__law_made, od__law_made, .func (PySem.W.fnOf "_law_made" "_law_made" (defArgs sMade) (defBody sMade) (defScope sMade) .none kV__law_made dc__law_made pm__law_made an__law_made cd__law_made ct__law_made), sl__law_made⟩)
    (c__law_made : PySem.W.codeIn K cd__law_made "_law_made" = true)
    (k__law_made : PySem.W.keepIn K (.ref f__law_made) = true)
    (a_has_signs : PySem.W.nsIn K mainGlobals "has_signs" = some (some (.ref f_has_signs)))
    (l_has_signs : K.lookup f_has_signs = some ⟨oc_has_signs, od_has_signs, .func (PySem.W.fnOf "has_signs" "has_signs" (defArgs s_has_signs) (defBody s_has_signs) (defScope s_has_signs) .none kV_has_signs dc_has_signs pm_has_signs an_has_signs cd_has_signs ct_has_signs), sl_has_signs⟩)
    (c_has_signs : PySem.W.codeIn K cd_has_signs "has_signs" = true)
    (k_has_signs : PySem.W.keepIn K (.ref f_has_signs) = true)
    (a_is_standing : PySem.W.nsIn K mainGlobals "is_standing" = some (some (.ref f_is_standing)))
    (l_is_standing : K.lookup f_is_standing = some ⟨oc_is_standing, od_is_standing, .func (PySem.W.fnOf "is_standing" "is_standing" (defArgs s_is_standing) (defBody s_is_standing) (defScope s_is_standing) .none kV_is_standing dc_is_standing pm_is_standing an_is_standing cd_is_standing ct_is_standing), sl_is_standing⟩)
    (c_is_standing : PySem.W.codeIn K cd_is_standing "is_standing" = true)
    (k_is_standing : PySem.W.keepIn K (.ref f_is_standing) = true)
    (a_is_pattern : PySem.W.nsIn K mainGlobals "is_pattern" = some (some (.ref f_is_pattern)))
    (l_is_pattern : K.lookup f_is_pattern = some ⟨oc_is_pattern, od_is_pattern, .func (PySem.W.fnOf "is_pattern" "is_pattern" (defArgs s_is_pattern) (defBody s_is_pattern) (defScope s_is_pattern) .none kV_is_pattern dc_is_pattern pm_is_pattern an_is_pattern cd_is_pattern ct_is_pattern), sl_is_pattern⟩)
    (c_is_pattern : PySem.W.codeIn K cd_is_pattern "is_pattern" = true)
    (k_is_pattern : PySem.W.keepIn K (.ref f_is_pattern) = true)
    (a_check_cabinet : PySem.W.nsIn K mainGlobals "check_cabinet" = some (some (.ref f_check_cabinet)))
    (l_check_cabinet : K.lookup f_check_cabinet = some ⟨oc_check_cabinet, od_check_cabinet, .func (PySem.W.fnOf "check_cabinet" "check_cabinet" (defArgs s_check_cabinet) (defBody s_check_cabinet) (defScope s_check_cabinet) .none kV_check_cabinet dc_check_cabinet pm_check_cabinet an_check_cabinet cd_check_cabinet ct_check_cabinet), sl_check_cabinet⟩)
    (c_check_cabinet : PySem.W.codeIn K cd_check_cabinet "check_cabinet" = true)
    (k_check_cabinet : PySem.W.keepIn K (.ref f_check_cabinet) = true)
    (a_check_standing : PySem.W.nsIn K mainGlobals "check_standing" = some (some (.ref f_check_standing)))
    (l_check_standing : K.lookup f_check_standing = some ⟨oc_check_standing, od_check_standing, .func (PySem.W.fnOf "check_standing" "check_standing" (defArgs s_check_standing) (defBody s_check_standing) (defScope s_check_standing) .none kV_check_standing dc_check_standing pm_check_standing an_check_standing cd_check_standing ct_check_standing), sl_check_standing⟩)
    (c_check_standing : PySem.W.codeIn K cd_check_standing "check_standing" = true)
    (k_check_standing : PySem.W.keepIn K (.ref f_check_standing) = true)
    (a_check_pattern : PySem.W.nsIn K mainGlobals "check_pattern" = some (some (.ref f_check_pattern)))
    (l_check_pattern : K.lookup f_check_pattern = some ⟨oc_check_pattern, od_check_pattern, .func (PySem.W.fnOf "check_pattern" "check_pattern" (defArgs s_check_pattern) (defBody s_check_pattern) (defScope s_check_pattern) .none kV_check_pattern dc_check_pattern pm_check_pattern an_check_pattern cd_check_pattern ct_check_pattern), sl_check_pattern⟩)
    (c_check_pattern : PySem.W.codeIn K cd_check_pattern "check_pattern" = true)
    (k_check_pattern : PySem.W.keepIn K (.ref f_check_pattern) = true)
    (a_check_number : PySem.W.nsIn K mainGlobals "check_number" = some (some (.ref f_check_number)))
    (l_check_number : K.lookup f_check_number = some ⟨oc_check_number, od_check_number, .func (PySem.W.fnOf "check_number" "check_number" (defArgs s_check_number) (defBody s_check_number) (defScope s_check_number) .none kV_check_number dc_check_number pm_check_number an_check_number cd_check_number ct_check_number), sl_check_number⟩)
    (c_check_number : PySem.W.codeIn K cd_check_number "check_number" = true)
    (k_check_number : PySem.W.keepIn K (.ref f_check_number) = true)
    (a_check_few_drawers : PySem.W.nsIn K mainGlobals "check_few_drawers" = some (some (.ref f_check_few_drawers)))
    (l_check_few_drawers : K.lookup f_check_few_drawers = some ⟨oc_check_few_drawers, od_check_few_drawers, .func (PySem.W.fnOf "check_few_drawers" "check_few_drawers" (defArgs s_check_few_drawers) (defBody s_check_few_drawers) (defScope s_check_few_drawers) .none kV_check_few_drawers dc_check_few_drawers pm_check_few_drawers an_check_few_drawers cd_check_few_drawers ct_check_few_drawers), sl_check_few_drawers⟩)
    (c_check_few_drawers : PySem.W.codeIn K cd_check_few_drawers "check_few_drawers" = true)
    (k_check_few_drawers : PySem.W.keepIn K (.ref f_check_few_drawers) = true)
    (a_is_costs : PySem.W.nsIn K mainGlobals "is_costs" = some (some (.ref f_is_costs)))
    (l_is_costs : K.lookup f_is_costs = some ⟨oc_is_costs, od_is_costs, .func (PySem.W.fnOf "is_costs" "is_costs" (defArgs s_is_costs) (defBody s_is_costs) (defScope s_is_costs) .none kV_is_costs dc_is_costs pm_is_costs an_is_costs cd_is_costs ct_is_costs), sl_is_costs⟩)
    (c_is_costs : PySem.W.codeIn K cd_is_costs "is_costs" = true)
    (k_is_costs : PySem.W.keepIn K (.ref f_is_costs) = true)
    (a_check_costs : PySem.W.nsIn K mainGlobals "check_costs" = some (some (.ref f_check_costs)))
    (l_check_costs : K.lookup f_check_costs = some ⟨oc_check_costs, od_check_costs, .func (PySem.W.fnOf "check_costs" "check_costs" (defArgs s_check_costs) (defBody s_check_costs) (defScope s_check_costs) .none kV_check_costs dc_check_costs pm_check_costs an_check_costs cd_check_costs ct_check_costs), sl_check_costs⟩)
    (c_check_costs : PySem.W.codeIn K cd_check_costs "check_costs" = true)
    (k_check_costs : PySem.W.keepIn K (.ref f_check_costs) = true)
    (a_is_order : PySem.W.nsIn K mainGlobals "is_order" = some (some (.ref f_is_order)))
    (l_is_order : K.lookup f_is_order = some ⟨oc_is_order, od_is_order, .func (PySem.W.fnOf "is_order" "is_order" (defArgs s_is_order) (defBody s_is_order) (defScope s_is_order) .none kV_is_order dc_is_order pm_is_order an_is_order cd_is_order ct_is_order), sl_is_order⟩)
    (c_is_order : PySem.W.codeIn K cd_is_order "is_order" = true)
    (k_is_order : PySem.W.keepIn K (.ref f_is_order) = true)
    (a_check_order : PySem.W.nsIn K mainGlobals "check_order" = some (some (.ref f_check_order)))
    (l_check_order : K.lookup f_check_order = some ⟨oc_check_order, od_check_order, .func (PySem.W.fnOf "check_order" "check_order" (defArgs s_check_order) (defBody s_check_order) (defScope s_check_order) .none kV_check_order dc_check_order pm_check_order an_check_order cd_check_order ct_check_order), sl_check_order⟩)
    (c_check_order : PySem.W.codeIn K cd_check_order "check_order" = true)
    (k_check_order : PySem.W.keepIn K (.ref f_check_order) = true)
    (a_check_seen : PySem.W.nsIn K mainGlobals "check_seen" = some (some (.ref f_check_seen)))
    (l_check_seen : K.lookup f_check_seen = some ⟨oc_check_seen, od_check_seen, .func (PySem.W.fnOf "check_seen" "check_seen" (defArgs s_check_seen) (defBody s_check_seen) (defScope s_check_seen) .none kV_check_seen dc_check_seen pm_check_seen an_check_seen cd_check_seen ct_check_seen), sl_check_seen⟩)
    (c_check_seen : PySem.W.codeIn K cd_check_seen "check_seen" = true)
    (k_check_seen : PySem.W.keepIn K (.ref f_check_seen) = true)
    (a_first_ring : PySem.W.nsIn K mainGlobals "first_ring" = some (some (.ref f_first_ring)))
    (l_first_ring : K.lookup f_first_ring = some ⟨oc_first_ring, od_first_ring, .func (PySem.W.fnOf "first_ring" "first_ring" (defArgs s_first_ring) (defBody s_first_ring) (defScope s_first_ring) .none kV_first_ring dc_first_ring pm_first_ring an_first_ring cd_first_ring ct_first_ring), sl_first_ring⟩)
    (c_first_ring : PySem.W.codeIn K cd_first_ring "first_ring" = true)
    (k_first_ring : PySem.W.keepIn K (.ref f_first_ring) = true)
    (a_longest_row : PySem.W.nsIn K mainGlobals "longest_row" = some (some (.ref f_longest_row)))
    (l_longest_row : K.lookup f_longest_row = some ⟨oc_longest_row, od_longest_row, .func (PySem.W.fnOf "longest_row" "longest_row" (defArgs s_longest_row) (defBody s_longest_row) (defScope s_longest_row) .none kV_longest_row dc_longest_row pm_longest_row an_longest_row cd_longest_row ct_longest_row), sl_longest_row⟩)
    (c_longest_row : PySem.W.codeIn K cd_longest_row "longest_row" = true)
    (k_longest_row : PySem.W.keepIn K (.ref f_longest_row) = true)
    (a_keeping : PySem.W.nsIn K mainGlobals "keeping" = some (some (.ref f_keeping)))
    (l_keeping : K.lookup f_keeping = some ⟨oc_keeping, od_keeping, .func (PySem.W.fnOf "keeping" "keeping" (defArgs s_keeping) (defBody s_keeping) (defScope s_keeping) .none kV_keeping dc_keeping pm_keeping an_keeping cd_keeping ct_keeping), sl_keeping⟩)
    (c_keeping : PySem.W.codeIn K cd_keeping "keeping" = true)
    (k_keeping : PySem.W.keepIn K (.ref f_keeping) = true)
    (a_force : PySem.W.nsIn K mainGlobals "force" = some (some (.ref f_force)))
    (l_force : K.lookup f_force = some ⟨oc_force, od_force, .func (PySem.W.fnOf "force" "force" (defArgs s_force) (defBody s_force) (defScope s_force) .none kV_force dc_force pm_force an_force cd_force ct_force), sl_force⟩)
    (c_force : PySem.W.codeIn K cd_force "force" = true)
    (k_force : PySem.W.keepIn K (.ref f_force) = true)
    (a_plan : PySem.W.nsIn K mainGlobals "plan" = some (some (.ref f_plan)))
    (l_plan : K.lookup f_plan = some ⟨oc_plan, od_plan, .func (PySem.W.fnOf "plan" "plan" (defArgs s_plan) (defBody s_plan) (defScope s_plan) .none kV_plan dc_plan pm_plan an_plan cd_plan ct_plan), sl_plan⟩)
    (c_plan : PySem.W.codeIn K cd_plan "plan" = true)
    (k_plan : PySem.W.keepIn K (.ref f_plan) = true)
    (a_plan_depth : PySem.W.nsIn K mainGlobals "plan_depth" = some (some (.ref f_plan_depth)))
    (l_plan_depth : K.lookup f_plan_depth = some ⟨oc_plan_depth, od_plan_depth, .func (PySem.W.fnOf "plan_depth" "plan_depth" (defArgs s_plan_depth) (defBody s_plan_depth) (defScope s_plan_depth) .none kV_plan_depth dc_plan_depth pm_plan_depth an_plan_depth cd_plan_depth ct_plan_depth), sl_plan_depth⟩)
    (c_plan_depth : PySem.W.codeIn K cd_plan_depth "plan_depth" = true)
    (k_plan_depth : PySem.W.keepIn K (.ref f_plan_depth) = true)
    (a_cheapest : PySem.W.nsIn K mainGlobals "cheapest" = some (some (.ref f_cheapest)))
    (l_cheapest : K.lookup f_cheapest = some ⟨oc_cheapest, od_cheapest, .func (PySem.W.fnOf "cheapest" "cheapest" (defArgs s_cheapest) (defBody s_cheapest) (defScope s_cheapest) .none kV_cheapest dc_cheapest pm_cheapest an_cheapest cd_cheapest ct_cheapest), sl_cheapest⟩)
    (c_cheapest : PySem.W.codeIn K cd_cheapest "cheapest" = true)
    (k_cheapest : PySem.W.keepIn K (.ref f_cheapest) = true)
    (a_ring_at : PySem.W.nsIn K mainGlobals "ring_at" = some (some (.ref f_ring_at)))
    (l_ring_at : K.lookup f_ring_at = some ⟨oc_ring_at, od_ring_at, .func (PySem.W.fnOf "ring_at" "ring_at" (defArgs s_ring_at) (defBody s_ring_at) (defScope s_ring_at) .none kV_ring_at dc_ring_at pm_ring_at an_ring_at cd_ring_at ct_ring_at), sl_ring_at⟩)
    (c_ring_at : PySem.W.codeIn K cd_ring_at "ring_at" = true)
    (k_ring_at : PySem.W.keepIn K (.ref f_ring_at) = true)
    (a_first_fit : PySem.W.nsIn K mainGlobals "first_fit" = some (some (.ref f_first_fit)))
    (l_first_fit : K.lookup f_first_fit = some ⟨oc_first_fit, od_first_fit, .func (PySem.W.fnOf "first_fit" "first_fit" (defArgs s_first_fit) (defBody s_first_fit) (defScope s_first_fit) .none kV_first_fit dc_first_fit pm_first_fit an_first_fit cd_first_fit ct_first_fit), sl_first_fit⟩)
    (c_first_fit : PySem.W.codeIn K cd_first_fit "first_fit" = true)
    (k_first_fit : PySem.W.keepIn K (.ref f_first_fit) = true)
    (a_fits_many : PySem.W.nsIn K mainGlobals "fits_many" = some (some (.ref f_fits_many)))
    (l_fits_many : K.lookup f_fits_many = some ⟨oc_fits_many, od_fits_many, .func (PySem.W.fnOf "fits_many" "fits_many" (defArgs s_fits_many) (defBody s_fits_many) (defScope s_fits_many) .none kV_fits_many dc_fits_many pm_fits_many an_fits_many cd_fits_many ct_fits_many), sl_fits_many⟩)
    (c_fits_many : PySem.W.codeIn K cd_fits_many "fits_many" = true)
    (k_fits_many : PySem.W.keepIn K (.ref f_fits_many) = true)
    (a_stands_after : PySem.W.nsIn K mainGlobals "stands_after" = some (some (.ref f_stands_after)))
    (l_stands_after : K.lookup f_stands_after = some ⟨oc_stands_after, od_stands_after, .func (PySem.W.fnOf "stands_after" "stands_after" (defArgs s_stands_after) (defBody s_stands_after) (defScope s_stands_after) .none kV_stands_after dc_stands_after pm_stands_after an_stands_after cd_stands_after ct_stands_after), sl_stands_after⟩)
    (c_stands_after : PySem.W.codeIn K cd_stands_after "stands_after" = true)
    (k_stands_after : PySem.W.keepIn K (.ref f_stands_after) = true)
    (a_sure_pulls : PySem.W.nsIn K mainGlobals "sure_pulls" = some (some (.ref f_sure_pulls)))
    (l_sure_pulls : K.lookup f_sure_pulls = some ⟨oc_sure_pulls, od_sure_pulls, .func (PySem.W.fnOf "sure_pulls" "sure_pulls" (defArgs s_sure_pulls) (defBody s_sure_pulls) (defScope s_sure_pulls) .none kV_sure_pulls dc_sure_pulls pm_sure_pulls an_sure_pulls cd_sure_pulls ct_sure_pulls), sl_sure_pulls⟩)
    (c_sure_pulls : PySem.W.codeIn K cd_sure_pulls "sure_pulls" = true)
    (k_sure_pulls : PySem.W.keepIn K (.ref f_sure_pulls) = true)
    (a_count_rest : PySem.W.nsIn K mainGlobals "count_rest" = some (some (.ref f_count_rest)))
    (l_count_rest : K.lookup f_count_rest = some ⟨oc_count_rest, od_count_rest, .func (PySem.W.fnOf "count_rest" "count_rest" (defArgs s_count_rest) (defBody s_count_rest) (defScope s_count_rest) .none kV_count_rest dc_count_rest pm_count_rest an_count_rest cd_count_rest ct_count_rest), sl_count_rest⟩)
    (c_count_rest : PySem.W.codeIn K cd_count_rest "count_rest" = true)
    (k_count_rest : PySem.W.keepIn K (.ref f_count_rest) = true)
    (a_renamed : PySem.W.nsIn K mainGlobals "renamed" = some (some (.ref f_renamed)))
    (l_renamed : K.lookup f_renamed = some ⟨oc_renamed, od_renamed, .func (PySem.W.fnOf "renamed" "renamed" (defArgs s_renamed) (defBody s_renamed) (defScope s_renamed) .none kV_renamed dc_renamed pm_renamed an_renamed cd_renamed ct_renamed), sl_renamed⟩)
    (c_renamed : PySem.W.codeIn K cd_renamed "renamed" = true)
    (k_renamed : PySem.W.keepIn K (.ref f_renamed) = true)
    (a__law_odd : PySem.W.nsIn K mainGlobals "_law_odd" = some (some (.ref f__law_odd)))
    (l__law_odd : K.lookup f__law_odd = some ⟨oc__law_odd, od__law_odd, .func (PySem.W.fnOf "_law_odd" "_law_odd" (defArgs s__law_odd) (defBody s__law_odd) (defScope s__law_odd) .none kV__law_odd dc__law_odd pm__law_odd an__law_odd cd__law_odd ct__law_odd), sl__law_odd⟩)
    (c__law_odd : PySem.W.codeIn K cd__law_odd "_law_odd" = true)
    (k__law_odd : PySem.W.keepIn K (.ref f__law_odd) = true)
    (a__law_odd_standing : PySem.W.nsIn K mainGlobals "_law_odd_standing" = some (some (.ref f__law_odd_standing)))
    (l__law_odd_standing : K.lookup f__law_odd_standing = some ⟨oc__law_odd_standing, od__law_odd_standing, .func (PySem.W.fnOf "_law_odd_standing" "_law_odd_standing" (defArgs s__law_odd_standing) (defBody s__law_odd_standing) (defScope s__law_odd_standing) .none kV__law_odd_standing dc__law_odd_standing pm__law_odd_standing an__law_odd_standing cd__law_odd_standing ct__law_odd_standing), sl__law_odd_standing⟩)
    (c__law_odd_standing : PySem.W.codeIn K cd__law_odd_standing "_law_odd_standing" = true)
    (k__law_odd_standing : PySem.W.keepIn K (.ref f__law_odd_standing) = true)
    (a__law_call : PySem.W.nsIn K mainGlobals "_law_call" = some (some (.ref f__law_call)))
    (l__law_call : K.lookup f__law_call = some ⟨oc__law_call, od__law_call, .func (PySem.W.fnOf "_law_call" "_law_call" (defArgs s__law_call) (defBody s__law_call) (defScope s__law_call) .none kV__law_call dc__law_call pm__law_call an__law_call cd__law_call ct__law_call), sl__law_call⟩)
    (c__law_call : PySem.W.codeIn K cd__law_call "_law_call" = true)
    (k__law_call : PySem.W.keepIn K (.ref f__law_call) = true)
    (a__law_refused : PySem.W.nsIn K mainGlobals "_law_refused" = some (some (.ref f__law_refused)))
    (l__law_refused : K.lookup f__law_refused = some ⟨oc__law_refused, od__law_refused, .func (PySem.W.fnOf "_law_refused" "_law_refused" (defArgs s__law_refused) (defBody s__law_refused) (defScope s__law_refused) .none kV__law_refused dc__law_refused pm__law_refused an__law_refused cd__law_refused ct__law_refused), sl__law_refused⟩)
    (c__law_refused : PySem.W.codeIn K cd__law_refused "_law_refused" = true)
    (k__law_refused : PySem.W.keepIn K (.ref f__law_refused) = true)
    (a_law : PySem.W.nsIn K mainGlobals "law" = some (some (.ref f_law)))
    (l_law : K.lookup f_law = some ⟨oc_law, od_law, .func (PySem.W.fnOf "law" "law" (defArgs s_law) (defBody s_law) (defScope s_law) .none kV_law dc_law pm_law an_law cd_law ct_law), sl_law⟩)
    (c_law : PySem.W.codeIn K cd_law "law" = true)
    (k_law : PySem.W.keepIn K (.ref f_law) = true)
    (aC : PySem.W.nsIn K mainGlobals "Cabinet" = some (some (.ref C)))
    (pg : PySem.W.plainGet K C Str.empty = true)
    (hd : PySem.W.hasDictIn K C = true)
    (po : PySem.W.plainOver K C = true)
    (sa : PySem.W.findIn K (.ref C) "__setattr__" = some (some (.builtin "object.__setattr__")))
    (mk : PySem.W.makesIn K C = true)
    (kc : PySem.W.keepIn K (.ref C) = true)
    (nD : PySem.W.findIn K (.ref C) "_drawers" = some none)
    (nB : PySem.W.findIn K (.ref C) "_bars" = some none)
    (a_Cabinet___init__ : PySem.W.findIn K (.ref C) "__init__" = some (some (.ref f_Cabinet___init__)))
    (l_Cabinet___init__ : K.lookup f_Cabinet___init__ = some ⟨oc_Cabinet___init__, od_Cabinet___init__, .func (PySem.W.fnOf "__init__" "Cabinet.__init__" (defArgs sInit) (defBody sInit) (defScope sInit) .none kV_Cabinet___init__ dc_Cabinet___init__ pm_Cabinet___init__ an_Cabinet___init__ cd_Cabinet___init__ ct_Cabinet___init__), sl_Cabinet___init__⟩)
    (c_Cabinet___init__ : PySem.W.codeIn K cd_Cabinet___init__ "Cabinet.__init__" = true)
    (k_Cabinet___init__ : PySem.W.keepIn K (.ref f_Cabinet___init__) = true)
    (i_init : PySem.W.isFn K (.ref f_Cabinet___init__) = true)
    (pa_drawers : PySem.W.findIn K (.ref C) "drawers" = some (some (.ref p_drawers)))
    (pg_drawers : PySem.W.specialIn K (.ref p_drawers) "__get__" = some (some (.builtin "property.__get__")))
    (pt_drawers : PySem.W.takesIn K (.ref p_drawers) = some true)
    (pr_drawers : PySem.W.recIn K p_drawers "property" = some (.ref f_Cabinet_drawers :: rest_drawers))
    (l_Cabinet_drawers : K.lookup f_Cabinet_drawers = some ⟨oc_Cabinet_drawers, od_Cabinet_drawers, .func (PySem.W.fnOf "drawers" "Cabinet.drawers" (defArgs sDrawers) (defBody sDrawers) (defScope sDrawers) .none kV_Cabinet_drawers dc_Cabinet_drawers pm_Cabinet_drawers an_Cabinet_drawers cd_Cabinet_drawers ct_Cabinet_drawers), sl_Cabinet_drawers⟩)
    (c_Cabinet_drawers : PySem.W.codeIn K cd_Cabinet_drawers "Cabinet.drawers" = true)
    (k_Cabinet_drawers : PySem.W.keepIn K (.ref f_Cabinet_drawers) = true)
    (pa_bars : PySem.W.findIn K (.ref C) "bars" = some (some (.ref p_bars)))
    (pg_bars : PySem.W.specialIn K (.ref p_bars) "__get__" = some (some (.builtin "property.__get__")))
    (pt_bars : PySem.W.takesIn K (.ref p_bars) = some true)
    (pr_bars : PySem.W.recIn K p_bars "property" = some (.ref f_Cabinet_bars :: rest_bars))
    (l_Cabinet_bars : K.lookup f_Cabinet_bars = some ⟨oc_Cabinet_bars, od_Cabinet_bars, .func (PySem.W.fnOf "bars" "Cabinet.bars" (defArgs sBars) (defBody sBars) (defScope sBars) .none kV_Cabinet_bars dc_Cabinet_bars pm_Cabinet_bars an_Cabinet_bars cd_Cabinet_bars ct_Cabinet_bars), sl_Cabinet_bars⟩)
    (c_Cabinet_bars : PySem.W.codeIn K cd_Cabinet_bars "Cabinet.bars" = true)
    (k_Cabinet_bars : PySem.W.keepIn K (.ref f_Cabinet_bars) = true)
    (ci1 : PySem.W.findIn K (.ref C) "__class__" = some (some (.builtin "object.__class__")))
    (ci2 : PySem.W.specialIn K (.builtin "object.__class__") "__get__" = some (some (.builtin "getset_descriptor.__get__")))
    (ci3 : PySem.W.takesIn K (.builtin "object.__class__") = some true)
    (ci4 : PySem.W.mroIn K C (.type "object") = some true)
    (ci5 : PySem.W.kitOne K (.ref C) (.ref C) = some true)
    (z_isinstance : PySem.W.nsIn K mainGlobals "isinstance" = some none)
    (z_int : PySem.W.nsIn K mainGlobals "int" = some none)
    (z_bool : PySem.W.nsIn K mainGlobals "bool" = some none)
    (z_tuple : PySem.W.nsIn K mainGlobals "tuple" = some none)
    (z_len : PySem.W.nsIn K mainGlobals "len" = some none)
    (z_enumerate : PySem.W.nsIn K mainGlobals "enumerate" = some none)
    (z_range : PySem.W.nsIn K mainGlobals "range" = some none)
    (z_sorted : PySem.W.nsIn K mainGlobals "sorted" = some none)
    (z_str : PySem.W.nsIn K mainGlobals "str" = some none)
    (z_all : PySem.W.nsIn K mainGlobals "all" = some none)
    (z_super : PySem.W.nsIn K mainGlobals "super" = some none)
    (z_list : PySem.W.nsIn K mainGlobals "list" = some none)
    (aM : PySem.W.nsIn K mainGlobals "MOST_DRAWERS" = some (some (.int 7 tM)))
    (aW : PySem.W.nsIn K mainGlobals "WORDS" = some (some (.ref fW)))
    (lW : K.lookup fW = some ⟨.type "tuple", ddW, .seq #[.str "open" tW1, .str "shut" tW2] nW, slW⟩)
    (aST : PySem.W.nsIn K mainGlobals "STANDING_SIGNS" = some (some (.str "os" tST)))
    (aSS : PySem.W.nsIn K mainGlobals "PATTERN_SIGNS" = some (some (.str "os?" tSS)))
    (aSd : PySem.W.nsIn K mainGlobals "BadStanding" = some (some (.ref CSd)))
    (xSd : PySem.W.excIn K CSd [.type "ValueError", .type "Exception", .type "BaseException", .type "object"] "ValueError.__new__" = true)
    (kSd : PySem.W.keepIn K (.ref CSd) = true)
    (bSd : PySem.W.subIn K (.ref CSd) (.type "BaseException") = some true)
    (tSd : PySem.W.typeIn K (.ref CSd) = some (.type "type"))
    (aPt : PySem.W.nsIn K mainGlobals "BadPattern" = some (some (.ref CPt)))
    (xPt : PySem.W.excIn K CPt [.type "ValueError", .type "Exception", .type "BaseException", .type "object"] "ValueError.__new__" = true)
    (kPt : PySem.W.keepIn K (.ref CPt) = true)
    (bPt : PySem.W.subIn K (.ref CPt) (.type "BaseException") = some true)
    (tPt : PySem.W.typeIn K (.ref CPt) = some (.type "type"))
    (aCb : PySem.W.nsIn K mainGlobals "BadCabinet" = some (some (.ref CCb)))
    (xCb : PySem.W.excIn K CCb [.type "ValueError", .type "Exception", .type "BaseException", .type "object"] "ValueError.__new__" = true)
    (kCb : PySem.W.keepIn K (.ref CCb) = true)
    (bCb : PySem.W.subIn K (.ref CCb) (.type "BaseException") = some true)
    (tCb : PySem.W.typeIn K (.ref CCb) = some (.type "type"))
    (aCo : PySem.W.nsIn K mainGlobals "BadCosts" = some (some (.ref CCo)))
    (xCo : PySem.W.excIn K CCo [.type "ValueError", .type "Exception", .type "BaseException", .type "object"] "ValueError.__new__" = true)
    (kCo : PySem.W.keepIn K (.ref CCo) = true)
    (bCo : PySem.W.subIn K (.ref CCo) (.type "BaseException") = some true)
    (tCo : PySem.W.typeIn K (.ref CCo) = some (.type "type"))
    (aOr : PySem.W.nsIn K mainGlobals "BadOrder" = some (some (.ref COr)))
    (xOr : PySem.W.excIn K COr [.type "ValueError", .type "Exception", .type "BaseException", .type "object"] "ValueError.__new__" = true)
    (kOr : PySem.W.keepIn K (.ref COr) = true)
    (bOr : PySem.W.subIn K (.ref COr) (.type "BaseException") = some true)
    (tOr : PySem.W.typeIn K (.ref COr) = some (.type "type"))
    (aBN : PySem.W.nsIn K mainGlobals "BadNumber" = some (some (.ref CBN)))
    (lBN : K.lookup CBN = some (excClassObj nmBN qBN CBN NBN bsBN [.ref DEBN, .type "ValueError", .type "Exception", .type "BaseException", .type "object"] true snBN sbBN abBN colBN ddBN k0BN k1BN k2BN k3BN k5BN "ValueError.__new__"))
    (saBN : PySem.W.findIn K (.ref CBN) "__setattr__" = some (some (.builtin "object.__setattr__")))
    (bBN : PySem.W.subIn K (.ref CBN) (.type "BaseException") = some true)
    (tBN : PySem.W.typeIn K (.ref CBN) = some (.type "type"))
    (kBN : PySem.W.keepIn K (.ref CBN) = true)
    (inBN : PySem.W.findIn K (.ref CBN) "__init__" = some (some (.ref fBN)))
    (tyBN : PySem.W.typeIn K (.ref fBN) = some (.type "function"))
    (lfBN : K.lookup fBN = some ⟨ocfBN, odfBN, .func (PySem.W.ksFn "__init__" "BadNumber.__init__" (defArgs s_BadNumber__init_) (defBody s_BadNumber__init_) (defScope s_BadNumber__init_) .none kVfBN docfBN pmfBN anfBN (.ref cdaBN) ctfBN ccBN), oslfBN⟩)
    (cdBN : PySem.W.codeIn K (.ref cdaBN) "BadNumber.__init__" = true)
    (alBN : PySem.W.alongIn K "__init__" [.ref DEBN, .type "ValueError", .type "Exception", .type "BaseException", .type "object"] = some (some (.builtin "ValueError.__init__")))
    (coBN : K.lookup cdaBN = some ⟨cclfBN, cddfBN, .fields vsfBN, ccsfBN⟩)
    (vsBN : vsfBN[2]? = some (.str fileBN tfBN))
    (fiBN : ((l.prog.main.file : Str) == fileBN) = true)
    (ceBN : K.lookup ccBN = some ⟨clcBN, cldcBN, .cell (some (.ref CBN)), cslcBN⟩)
    (suBN : PySem.W.mroIn K CBN (.ref CBN) = some true)
    (anBN : PySem.W.nsIn K cStatics "thirdparty.any" = some none)
    (svBN : PySem.W.subIn K (.ref CBN) (.type "ValueError") = some true)
    (toBN : (l.prog.main.scope.names.lookup ("super" : Str)).isSome = false)
    (xgBN : PySem.W.findIn K (.ref CBN) "__getattribute__" = some (some (.builtin "BaseException.__getattribute__")))
    (xhBN : PySem.W.findIn K (.ref CBN) "__getattr__" = some none)
    (xdBN : PySem.W.hasDictIn K CBN = true)
    (atBN : PySem.W.findIn K (.ref CBN) "n" = some none)
    (aTM : PySem.W.nsIn K mainGlobals "TooMany" = some (some (.ref CTM)))
    (lTM : K.lookup CTM = some (excClassObj nmTM qTM CTM NTM bsTM [.ref DETM, .type "ValueError", .type "Exception", .type "BaseException", .type "object"] true snTM sbTM abTM colTM ddTM k0TM k1TM k2TM k3TM k5TM "ValueError.__new__"))
    (saTM : PySem.W.findIn K (.ref CTM) "__setattr__" = some (some (.builtin "object.__setattr__")))
    (bTM : PySem.W.subIn K (.ref CTM) (.type "BaseException") = some true)
    (tTM : PySem.W.typeIn K (.ref CTM) = some (.type "type"))
    (kTM : PySem.W.keepIn K (.ref CTM) = true)
    (inTM : PySem.W.findIn K (.ref CTM) "__init__" = some (some (.ref fTM)))
    (tyTM : PySem.W.typeIn K (.ref fTM) = some (.type "function"))
    (lfTM : K.lookup fTM = some ⟨ocfTM, odfTM, .func (PySem.W.ksFn "__init__" "TooMany.__init__" (defArgs s_TooMany__init_) (defBody s_TooMany__init_) (defScope s_TooMany__init_) .none kVfTM docfTM pmfTM anfTM (.ref cdaTM) ctfTM ccTM), oslfTM⟩)
    (cdTM : PySem.W.codeIn K (.ref cdaTM) "TooMany.__init__" = true)
    (alTM : PySem.W.alongIn K "__init__" [.ref DETM, .type "ValueError", .type "Exception", .type "BaseException", .type "object"] = some (some (.builtin "ValueError.__init__")))
    (coTM : K.lookup cdaTM = some ⟨cclfTM, cddfTM, .fields vsfTM, ccsfTM⟩)
    (vsTM : vsfTM[2]? = some (.str fileTM tfTM))
    (fiTM : ((l.prog.main.file : Str) == fileTM) = true)
    (ceTM : K.lookup ccTM = some ⟨clcTM, cldcTM, .cell (some (.ref CTM)), cslcTM⟩)
    (suTM : PySem.W.mroIn K CTM (.ref CTM) = some true)
    (svTM : PySem.W.subIn K (.ref CTM) (.type "ValueError") = some true)
    (xgTM : PySem.W.findIn K (.ref CTM) "__getattribute__" = some (some (.builtin "BaseException.__getattribute__")))
    (xhTM : PySem.W.findIn K (.ref CTM) "__getattr__" = some none)
    (xdTM : PySem.W.hasDictIn K CTM = true)
    (atTM : PySem.W.findIn K (.ref CTM) "most" = some none)
    (aSe : PySem.W.nsIn K mainGlobals "BadSeen" = some (some (.ref CSe)))
    (lSe : K.lookup CSe = some (excClassObj nmSe qSe CSe NSe bsSe [.ref DESe, .type "ValueError", .type "Exception", .type "BaseException", .type "object"] true snSe sbSe abSe colSe ddSe k0Se k1Se k2Se k3Se k5Se "ValueError.__new__"))
    (saSe : PySem.W.findIn K (.ref CSe) "__setattr__" = some (some (.builtin "object.__setattr__")))
    (bSe : PySem.W.subIn K (.ref CSe) (.type "BaseException") = some true)
    (tSe : PySem.W.typeIn K (.ref CSe) = some (.type "type"))
    (kSe : PySem.W.keepIn K (.ref CSe) = true)
    (inSe : PySem.W.findIn K (.ref CSe) "__init__" = some (some (.ref fSe)))
    (tySe : PySem.W.typeIn K (.ref fSe) = some (.type "function"))
    (lfSe : K.lookup fSe = some ⟨ocfSe, odfSe, .func (PySem.W.ksFn "__init__" "BadSeen.__init__" (defArgs s_BadSeen__init_) (defBody s_BadSeen__init_) (defScope s_BadSeen__init_) .none kVfSe docfSe pmfSe anfSe (.ref cdaSe) ctfSe ccSe), oslfSe⟩)
    (cdSe : PySem.W.codeIn K (.ref cdaSe) "BadSeen.__init__" = true)
    (alSe : PySem.W.alongIn K "__init__" [.ref DESe, .type "ValueError", .type "Exception", .type "BaseException", .type "object"] = some (some (.builtin "ValueError.__init__")))
    (coSe : K.lookup cdaSe = some ⟨cclfSe, cddfSe, .fields vsfSe, ccsfSe⟩)
    (vsSe : vsfSe[2]? = some (.str fileSe tfSe))
    (fiSe : ((l.prog.main.file : Str) == fileSe) = true)
    (ceSe : K.lookup ccSe = some ⟨clcSe, cldcSe, .cell (some (.ref CSe)), cslcSe⟩)
    (suSe : PySem.W.mroIn K CSe (.ref CSe) = some true)
    (svSe : PySem.W.subIn K (.ref CSe) (.type "ValueError") = some true)
    (xgSe : PySem.W.findIn K (.ref CSe) "__getattribute__" = some (some (.builtin "BaseException.__getattribute__")))
    (xhSe : PySem.W.findIn K (.ref CSe) "__getattr__" = some none)
    (xdSe : PySem.W.hasDictIn K CSe = true)
    (atSe : PySem.W.findIn K (.ref CSe) "index" = some none)
    (aMC : PySem.W.nsIn K mainGlobals "MOST_COST" = some (some (.int 1000000000000000000000000000000 taMC)))
    (aMS : PySem.W.nsIn K mainGlobals "MOST_SEEN" = some (some (.int 60 taMS)))
    (aQC : PySem.W.nsIn K mainGlobals "MOST_COUNTED" = some (some (.int 4 taQC)))
    (aQL : PySem.W.nsIn K mainGlobals "MOST_LENGTH" = some (some (.int 1000000000000000000000000000000 taQL)))
    (aQD : PySem.W.nsIn K mainGlobals "MOST_DIVISOR" = some (some (.int 1000000000 taQD)))
    (kcN : PySem.W.kitOne K (.type "NoneType") (.ref C) = some false)
    (kcI : PySem.W.kitOne K (.type "int") (.ref C) = some false)
    (kcB : PySem.W.kitOne K (.type "bool") (.ref C) = some false)
    (kcT : PySem.W.kitOne K (.type "tuple") (.ref C) = some false)
    (kcS : PySem.W.kitOne K (.type "str") (.ref C) = some false)
    (kcD : PySem.W.kitOne K (.type "dict") (.ref C) = some false)
    (uAp : ([CCb, CPt, CCo, CSd, CSe, CTM, CBN, COr].map fun a => [CCb, CPt, CCo, CSd, CSe, CTM, CBN, COr].map fun b => PySem.W.subIn K (.ref a) (.ref b)) = (List.range 8).map fun i => (List.range 8).map fun j => some (decide (i = j)))
    (uBs : ([CCb, CPt, CCo, CSd, CSe, CTM, CBN, COr].map fun b => PySem.W.subIn K (.ref b) (.type "BaseException")) = List.replicate 8 (some true))
    (uCs : ([CCb, CPt, CCo, CSd, CSe, CTM, CBN, COr].map fun b => PySem.W.isClsIn K b) = List.replicate 8 true)
    (uTs : ([CCb, CPt, CCo, CSd, CSe, CTM, CBN, COr].map fun b => PySem.W.typeIn K (.ref b)) = List.replicate 8 (some (.type "type")))
    : ∃ fd : FuncData, (∀ (s : Shared) (v : Value), BindsTo s fd ⟨[v], []⟩ [("_law_script", v)]) ∧ ∀ base : Heap, K.In base → base.Ns mainGlobals mg → FnOk l.prog w K mg base CX0 12 fa fd ["_law_script"] (spLaw31 K) := by
  have e := hfa.symm.trans (PySem.W.mg_of X G a_law)
  cases e
  have F_is_integer := fun_mk (st := sIsInt) l_is_integer c_is_integer k_is_integer
  have b_is_integer := F_is_integer.binds (ps := ["value"]) fun _ _ _ _ _ _ us hl => match us, hl with | [_], _ => rfl
  have g_is_integer := PySem.W.mg_of X G a_is_integer
  have F_is_drawer_count := fun_mk (st := sIsCount) l_is_drawer_count c_is_drawer_count k_is_drawer_count
  have b_is_drawer_count := F_is_drawer_count.binds (ps := ["value"]) fun _ _ _ _ _ _ us hl => match us, hl with | [_], _ => rfl
  have g_is_drawer_count := PySem.W.mg_of X G a_is_drawer_count
  have F_is_drawer := fun_mk (st := sIsDrawer) l_is_drawer c_is_drawer k_is_drawer
  have b_is_drawer := F_is_drawer.binds (ps := ["drawers", "value"]) fun _ _ _ _ _ _ us hl => match us, hl with | [_, _], _ => rfl
  have g_is_drawer := PySem.W.mg_of X G a_is_drawer
  have F_is_bar := fun_mk (st := sIsBar) l_is_bar c_is_bar k_is_bar
  have b_is_bar := F_is_bar.binds (ps := ["drawers", "value"]) fun _ _ _ _ _ _ us hl => match us, hl with | [_, _], _ => rfl
  have g_is_bar := PySem.W.mg_of X G a_is_bar
  have F_check_drawers := fun_mk (st := sCheckDrawers) l_check_drawers c_check_drawers k_check_drawers
  have b_check_drawers := F_check_drawers.binds (ps := ["drawers"]) fun _ _ _ _ _ _ us hl => match us, hl with | [_], _ => rfl
  have g_check_drawers := PySem.W.mg_of X G a_check_drawers
  have F_check_bars := fun_mk (st := sCheckBars) l_check_bars c_check_bars k_check_bars
  have b_check_bars := F_check_bars.binds (ps := ["drawers", "bars"]) fun _ _ _ _ _ _ us hl => match us, hl with | [_, _], _ => rfl
  have g_check_bars := PySem.W.mg_of X G a_check_bars
  have F__law_taken := fun_mk (st := sTaken) l__law_taken c__law_taken k__law_taken
  have b__law_taken := F__law_taken.binds (ps := ["_law_row", "_law_many"]) fun _ _ _ _ _ _ us hl => match us, hl with | [_, _], _ => rfl
  have g__law_taken := PySem.W.mg_of X G a__law_taken
  have F__law_parts := fun_mk (st := sParts) l__law_parts c__law_parts k__law_parts
  have b__law_parts := F__law_parts.binds (ps := ["_law_row", "_law_most"]) fun _ _ _ _ _ _ us hl => match us, hl with | [_, _], _ => rfl
  have g__law_parts := PySem.W.mg_of X G a__law_parts
  have F__law_made := fun_mk (st := sMade) l__law_made c__law_made k__law_made
  have b__law_made := F__law_made.binds (ps := ["_law_d"]) fun _ _ _ _ _ _ us hl => match us, hl with | [_], _ => rfl
  have g__law_made := PySem.W.mg_of X G a__law_made
  have F_has_signs := fun_mk (st := s_has_signs) l_has_signs c_has_signs k_has_signs
  have b_has_signs := F_has_signs.binds (ps := ["drawers", "value", "signs"]) fun _ _ _ _ _ _ us hl => match us, hl with | [_, _, _], _ => rfl
  have g_has_signs := PySem.W.mg_of X G a_has_signs
  have F_is_standing := fun_mk (st := s_is_standing) l_is_standing c_is_standing k_is_standing
  have b_is_standing := F_is_standing.binds (ps := ["drawers", "value"]) fun _ _ _ _ _ _ us hl => match us, hl with | [_, _], _ => rfl
  have g_is_standing := PySem.W.mg_of X G a_is_standing
  have F_is_pattern := fun_mk (st := s_is_pattern) l_is_pattern c_is_pattern k_is_pattern
  have b_is_pattern := F_is_pattern.binds (ps := ["drawers", "value"]) fun _ _ _ _ _ _ us hl => match us, hl with | [_, _], _ => rfl
  have g_is_pattern := PySem.W.mg_of X G a_is_pattern
  have F_check_cabinet := fun_mk (st := s_check_cabinet) l_check_cabinet c_check_cabinet k_check_cabinet
  have b_check_cabinet := F_check_cabinet.binds (ps := ["cabinet"]) fun _ _ _ _ _ _ us hl => match us, hl with | [_], _ => rfl
  have g_check_cabinet := PySem.W.mg_of X G a_check_cabinet
  have F_check_standing := fun_mk (st := s_check_standing) l_check_standing c_check_standing k_check_standing
  have b_check_standing := F_check_standing.binds (ps := ["cabinet", "standing"]) fun _ _ _ _ _ _ us hl => match us, hl with | [_, _], _ => rfl
  have g_check_standing := PySem.W.mg_of X G a_check_standing
  have F_check_pattern := fun_mk (st := s_check_pattern) l_check_pattern c_check_pattern k_check_pattern
  have b_check_pattern := F_check_pattern.binds (ps := ["cabinet", "pattern"]) fun _ _ _ _ _ _ us hl => match us, hl with | [_, _], _ => rfl
  have g_check_pattern := PySem.W.mg_of X G a_check_pattern
  have F_check_number := fun_mk (st := s_check_number) l_check_number c_check_number k_check_number
  have b_check_number := F_check_number.binds (ps := ["value", "least", "most"]) fun _ _ _ _ _ _ us hl => match us, hl with | [_, _, _], _ => rfl
  have g_check_number := PySem.W.mg_of X G a_check_number
  have F_check_few_drawers := fun_mk (st := s_check_few_drawers) l_check_few_drawers c_check_few_drawers k_check_few_drawers
  have b_check_few_drawers := F_check_few_drawers.binds (ps := ["cabinet", "most"]) fun _ _ _ _ _ _ us hl => match us, hl with | [_, _], _ => rfl
  have g_check_few_drawers := PySem.W.mg_of X G a_check_few_drawers
  have F_is_costs := fun_mk (st := s_is_costs) l_is_costs c_is_costs k_is_costs
  have b_is_costs := F_is_costs.binds (ps := ["drawers", "value"]) fun _ _ _ _ _ _ us hl => match us, hl with | [_, _], _ => rfl
  have g_is_costs := PySem.W.mg_of X G a_is_costs
  have F_check_costs := fun_mk (st := s_check_costs) l_check_costs c_check_costs k_check_costs
  have b_check_costs := F_check_costs.binds (ps := ["cabinet", "costs"]) fun _ _ _ _ _ _ us hl => match us, hl with | [_, _], _ => rfl
  have g_check_costs := PySem.W.mg_of X G a_check_costs
  have F_is_order := fun_mk (st := s_is_order) l_is_order c_is_order k_is_order
  have b_is_order := F_is_order.binds (ps := ["drawers", "value"]) fun _ _ _ _ _ _ us hl => match us, hl with | [_, _], _ => rfl
  have g_is_order := PySem.W.mg_of X G a_is_order
  have F_check_order := fun_mk (st := s_check_order) l_check_order c_check_order k_check_order
  have b_check_order := F_check_order.binds (ps := ["cabinet", "order"]) fun _ _ _ _ _ _ us hl => match us, hl with | [_, _], _ => rfl
  have g_check_order := PySem.W.mg_of X G a_check_order
  have F_check_seen := fun_mk (st := s_check_seen) l_check_seen c_check_seen k_check_seen
  have b_check_seen := F_check_seen.binds (ps := ["cabinet", "seen"]) fun _ _ _ _ _ _ us hl => match us, hl with | [_, _], _ => rfl
  have g_check_seen := PySem.W.mg_of X G a_check_seen
  have F_first_ring := fun_mk (st := s_first_ring) l_first_ring c_first_ring k_first_ring
  have b_first_ring := F_first_ring.binds (ps := ["cabinet"]) fun _ _ _ _ _ _ us hl => match us, hl with | [_], _ => rfl
  have g_first_ring := PySem.W.mg_of X G a_first_ring
  have F_longest_row := fun_mk (st := s_longest_row) l_longest_row c_longest_row k_longest_row
  have b_longest_row := F_longest_row.binds (ps := ["cabinet"]) fun _ _ _ _ _ _ us hl => match us, hl with | [_], _ => rfl
  have g_longest_row := PySem.W.mg_of X G a_longest_row
  have F_keeping := fun_mk (st := s_keeping) l_keeping c_keeping k_keeping
  have b_keeping := F_keeping.binds (ps := ["cabinet"]) fun _ _ _ _ _ _ us hl => match us, hl with | [_], _ => rfl
  have g_keeping := PySem.W.mg_of X G a_keeping
  have F_force := fun_mk (st := s_force) l_force c_force k_force
  have b_force := F_force.binds (ps := ["cabinet", "pattern"]) fun _ _ _ _ _ _ us hl => match us, hl with | [_, _], _ => rfl
  have g_force := PySem.W.mg_of X G a_force
  have F_plan := fun_mk (st := s_plan) l_plan c_plan k_plan
  have b_plan := F_plan.binds (ps := ["cabinet", "pattern"]) fun _ _ _ _ _ _ us hl => match us, hl with | [_, _], _ => rfl
  have g_plan := PySem.W.mg_of X G a_plan
  have F_plan_depth := fun_mk (st := s_plan_depth) l_plan_depth c_plan_depth k_plan_depth
  have b_plan_depth := F_plan_depth.binds (ps := ["cabinet", "pattern", "value"]) fun _ _ _ _ _ _ us hl => match us, hl with | [_, _, _], _ => rfl
  have g_plan_depth := PySem.W.mg_of X G a_plan_depth
  have F_cheapest := fun_mk (st := s_cheapest) l_cheapest c_cheapest k_cheapest
  have b_cheapest := F_cheapest.binds (ps := ["cabinet", "costs", "pattern"]) fun _ _ _ _ _ _ us hl => match us, hl with | [_, _, _], _ => rfl
  have g_cheapest := PySem.W.mg_of X G a_cheapest
  have F_ring_at := fun_mk (st := s_ring_at) l_ring_at c_ring_at k_ring_at
  have b_ring_at := F_ring_at.binds (ps := ["cabinet", "standing"]) fun _ _ _ _ _ _ us hl => match us, hl with | [_, _], _ => rfl
  have g_ring_at := PySem.W.mg_of X G a_ring_at
  have F_first_fit := fun_mk (st := s_first_fit) l_first_fit c_first_fit k_first_fit
  have b_first_fit := F_first_fit.binds (ps := ["cabinet", "seen"]) fun _ _ _ _ _ _ us hl => match us, hl with | [_, _], _ => rfl
  have g_first_fit := PySem.W.mg_of X G a_first_fit
  have F_fits_many := fun_mk (st := s_fits_many) l_fits_many c_fits_many k_fits_many
  have b_fits_many := F_fits_many.binds (ps := ["cabinet", "seen"]) fun _ _ _ _ _ _ us hl => match us, hl with | [_, _], _ => rfl
  have g_fits_many := PySem.W.mg_of X G a_fits_many
  have F_stands_after := fun_mk (st := s_stands_after) l_stands_after c_stands_after k_stands_after
  have b_stands_after := F_stands_after.binds (ps := ["cabinet", "seen"]) fun _ _ _ _ _ _ us hl => match us, hl with | [_, _], _ => rfl
  have g_stands_after := PySem.W.mg_of X G a_stands_after
  have F_sure_pulls := fun_mk (st := s_sure_pulls) l_sure_pulls c_sure_pulls k_sure_pulls
  have b_sure_pulls := F_sure_pulls.binds (ps := ["cabinet", "seen"]) fun _ _ _ _ _ _ us hl => match us, hl with | [_, _], _ => rfl
  have g_sure_pulls := PySem.W.mg_of X G a_sure_pulls
  have F_count_rest := fun_mk (st := s_count_rest) l_count_rest c_count_rest k_count_rest
  have b_count_rest := F_count_rest.binds (ps := ["cabinet", "length", "divisor"]) fun _ _ _ _ _ _ us hl => match us, hl with | [_, _, _], _ => rfl
  have g_count_rest := PySem.W.mg_of X G a_count_rest
  have F_renamed := fun_mk (st := s_renamed) l_renamed c_renamed k_renamed
  have b_renamed := F_renamed.binds (ps := ["cabinet", "order"]) fun _ _ _ _ _ _ us hl => match us, hl with | [_, _], _ => rfl
  have g_renamed := PySem.W.mg_of X G a_renamed
  have F__law_odd := fun_mk (st := s__law_odd) l__law_odd c__law_odd k__law_odd
  have b__law_odd := F__law_odd.binds (ps := ["_law_row"]) fun _ _ _ _ _ _ us hl => match us, hl with | [_], _ => rfl
  have g__law_odd := PySem.W.mg_of X G a__law_odd
  have F__law_odd_standing := fun_mk (st := s__law_odd_standing) l__law_odd_standing c__law_odd_standing k__law_odd_standing
  have b__law_odd_standing := F__law_odd_standing.binds (ps := ["_law_row", "_law_many", "_law_signs"]) fun _ _ _ _ _ _ us hl => match us, hl with | [_, _, _], _ => rfl
  have g__law_odd_standing := PySem.W.mg_of X G a__law_odd_standing
  have F__law_call := fun_mk (st := s__law_call) l__law_call c__law_call k__law_call
  have b__law_call := F__law_call.binds (ps := ["_law_kind", "_law_first", "_law_second", "_law_third"]) fun _ _ _ _ _ _ us hl => match us, hl with | [_, _, _, _], _ => rfl
  have g__law_call := PySem.W.mg_of X G a__law_call
  have F__law_refused := fun_mk (st := s__law_refused) l__law_refused c__law_refused k__law_refused
  have b__law_refused := F__law_refused.binds (ps := ["_law_kind", "_law_first", "_law_second", "_law_third"]) fun _ _ _ _ _ _ us hl => match us, hl with | [_, _, _, _], _ => rfl
  have g__law_refused := PySem.W.mg_of X G a__law_refused
  have F_law := fun_mk (st := s_law) l_law c_law k_law
  have F_Cabinet___init__ := fun_mk (st := sInit) l_Cabinet___init__ c_Cabinet___init__ k_Cabinet___init__
  have b_Cabinet___init__ := F_Cabinet___init__.binds (ps := ["self", "drawers", "bars"]) fun _ _ _ _ _ _ us hl => match us, hl with | [_, _, _], _ => rfl
  have F_Cabinet_drawers := fun_mk (st := sDrawers) l_Cabinet_drawers c_Cabinet_drawers k_Cabinet_drawers
  have b_Cabinet_drawers := F_Cabinet_drawers.binds (ps := ["self"]) fun _ _ _ _ _ _ us hl => match us, hl with | [_], _ => rfl
  have F_Cabinet_bars := fun_mk (st := sBars) l_Cabinet_bars c_Cabinet_bars k_Cabinet_bars
  have b_Cabinet_bars := F_Cabinet_bars.binds (ps := ["self"]) fun _ _ _ _ _ _ us hl => match us, hl with | [_], _ => rfl
  have TC : CabT K mg C := ⟨⟨pg, hd, po, sa⟩, nD, nB, PySem.W.mg_of X G aC⟩
  have MC : Mk K C f_Cabinet___init__ := ⟨mk, a_Cabinet___init__, i_init, kc⟩
  have IC : CabI K mg C := ⟨⟨pg, hd, po, sa⟩, PySem.W.mg_of X G aC, ci1, ci2, ci3, ci4, ci5⟩
  have TB : Bt mg := ⟨PySem.W.mg_none_of X G z_isinstance, PySem.W.mg_none_of X G z_int, PySem.W.mg_none_of X G z_bool, PySem.W.mg_none_of X G z_tuple, PySem.W.mg_none_of X G z_len, PySem.W.mg_none_of X G z_enumerate, PySem.W.mg_none_of X G z_range, PySem.W.mg_none_of X G z_sorted⟩
  have n_sorted := PySem.W.mg_none_of X G z_sorted
  have n_str := PySem.W.mg_none_of X G z_str
  have n_all := PySem.W.mg_none_of X G z_all
  have n_super := PySem.W.mg_none_of X G z_super
  have n_list := PySem.W.mg_none_of X G z_list
  have gM := PySem.W.mg_of X G aM
  have gW := PySem.W.mg_of X G aW
  have hW : ∀ H, SqT K H fW [.str "open", .str "shut"] := fun H => .inr ⟨_, _, _, lW, rfl, rfl, by show 2 ≤ sizeLine; decide, .cons ⟨_, rfl⟩ (.cons ⟨_, rfl⟩ .nil)⟩
  have gST := PySem.W.mg_of X G aST
  have gSS := PySem.W.mg_of X G aSS
  have ETSd : ErrT K mg "BadStanding" CSd := ⟨PySem.W.mg_of X G aSd, xSd, kSd, bSd, tSd⟩
  have ETPt : ErrT K mg "BadPattern" CPt := ⟨PySem.W.mg_of X G aPt, xPt, kPt, bPt, tPt⟩
  have ETCb : ErrT K mg "BadCabinet" CCb := ⟨PySem.W.mg_of X G aCb, xCb, kCb, bCb, tCb⟩
  have ETCo : ErrT K mg "BadCosts" CCo := ⟨PySem.W.mg_of X G aCo, xCo, kCo, bCo, tCo⟩
  have ETOr : ErrT K mg "BadOrder" COr := ⟨PySem.W.mg_of X G aOr, xOr, kOr, bOr, tOr⟩
  have gBN := PySem.W.mg_of X G aBN
  have OEBN : OexC K CBN := ⟨⟨_, _, _, _, _, _, _, _, _, _, _, _, _, _, _, lBN, rfl⟩, saBN, bBN, tBN, kBN⟩
  have FSBN : FunS K "__init__" "BadNumber.__init__" s_BadNumber__init_ fBN cdaBN ccBN _ := ⟨⟨_, _, _, _, _, _, _, _, rfl, lfBN, cdBN⟩⟩
  have XFBN : XfC K CBN := ⟨xgBN, xhBN, bBN, xdBN⟩
  have SKBN : SupK K l.prog fBN CBN ccBN cdaBN _ "self" := ⟨OEBN, mro_is lBN alBN, ⟨_, _, _, lfBN⟩, ⟨_, rfl, rfl⟩, ⟨_, _, _, _, _, _, coBN, vsBN, fiBN⟩, ⟨_, _, _, ceBN⟩, suBN, anBN, svBN, toBN⟩
  have gTM := PySem.W.mg_of X G aTM
  have OETM : OexC K CTM := ⟨⟨_, _, _, _, _, _, _, _, _, _, _, _, _, _, _, lTM, rfl⟩, saTM, bTM, tTM, kTM⟩
  have FSTM : FunS K "__init__" "TooMany.__init__" s_TooMany__init_ fTM cdaTM ccTM _ := ⟨⟨_, _, _, _, _, _, _, _, rfl, lfTM, cdTM⟩⟩
  have XFTM : XfC K CTM := ⟨xgTM, xhTM, bTM, xdTM⟩
  have SKTM : SupK K l.prog fTM CTM ccTM cdaTM _ "self" := ⟨OETM, mro_is lTM alTM, ⟨_, _, _, lfTM⟩, ⟨_, rfl, rfl⟩, ⟨_, _, _, _, _, _, coTM, vsTM, fiTM⟩, ⟨_, _, _, ceTM⟩, suTM, anBN, svTM, toBN⟩
  have gSe := PySem.W.mg_of X G aSe
  have OESe : OexC K CSe := ⟨⟨_, _, _, _, _, _, _, _, _, _, _, _, _, _, _, lSe, rfl⟩, saSe, bSe, tSe, kSe⟩
  have FSSe : FunS K "__init__" "BadSeen.__init__" s_BadSeen__init_ fSe cdaSe ccSe _ := ⟨⟨_, _, _, _, _, _, _, _, rfl, lfSe, cdSe⟩⟩
  have XFSe : XfC K CSe := ⟨xgSe, xhSe, bSe, xdSe⟩
  have SKSe : SupK K l.prog fSe CSe ccSe cdaSe _ "self" := ⟨OESe, mro_is lSe alSe, ⟨_, _, _, lfSe⟩, ⟨_, rfl, rfl⟩, ⟨_, _, _, _, _, _, coSe, vsSe, fiSe⟩, ⟨_, _, _, ceSe⟩, suSe, anBN, svSe, toBN⟩
  have gMC := PySem.W.mg_of X G aMC
  have gMS := PySem.W.mg_of X G aMS
  have gQC := PySem.W.mg_of X G aQC
  have gQL := PySem.W.mg_of X G aQL
  have gQD := PySem.W.mg_of X G aQD
  have bSei := bindsS (K := K) (ps := ["self", "index"]) (fd := PySem.W.ksFn "__init__" "BadSeen.__init__" (defArgs s_BadSeen__init_) (defBody s_BadSeen__init_) (defScope s_BadSeen__init_) .none kVfSe docfSe pmfSe anfSe (.ref cdaSe) ctfSe ccSe) fun us hl => match us, hl with | [_, _], _ => rfl
  have bTMi := bindsS (K := K) (ps := ["self", "most"]) (fd := PySem.W.ksFn "__init__" "TooMany.__init__" (defArgs s_TooMany__init_) (defBody s_TooMany__init_) (defScope s_TooMany__init_) .none kVfTM docfTM pmfTM anfTM (.ref cdaTM) ctfTM ccTM) fun us hl => match us, hl with | [_, _], _ => rfl
  have bBNi := bindsS (K := K) (ps := ["self", "n"]) (fd := PySem.W.ksFn "__init__" "BadNumber.__init__" (defArgs s_BadNumber__init_) (defBody s_BadNumber__init_) (defScope s_BadNumber__init_) .none kVfBN docfBN pmfBN anfBN (.ref cdaBN) ctfBN ccBN) fun us hl => match us, hl with | [_, _], _ => rfl
  have X8 := apartN_of uAp uBs uCs uTs
  refine ⟨PySem.W.fnOf "law" "law" (defArgs s_law) (defBody s_law) (defScope s_law) .none kV_law dc_law pm_law an_law cd_law ct_law, fun s v => .of_eq rfl, fun base hKX hGX => ?_⟩
  have OD := ok_getD (P := l.prog) (w := w) (base := base) F_Cabinet_drawers TC
  have OB := ok_getB (P := l.prog) (w := w) (base := base) F_Cabinet_bars TC
  have CP : CabP l.prog w K mg base C := ⟨TC.cl, ⟨_, _, _, ⟨pa_drawers, pg_drawers, pt_drawers, ⟨_, pr_drawers⟩⟩, OD, b_Cabinet_drawers⟩, ⟨_, _, _, ⟨pa_bars, pg_bars, pt_bars, ⟨_, pr_bars⟩⟩, OB, b_Cabinet_bars⟩⟩
  have O__law_taken := ok_taken (P := l.prog) (w := w) (base := base) F__law_taken TB
  have O__law_parts := ok_parts F__law_parts TB O__law_taken g__law_taken k__law_taken b__law_taken
  have O_is_integer := ok_isInt (P := l.prog) (w := w) (base := base) F_is_integer TB
  have O_is_drawer_count := ok_isCount F_is_drawer_count TB O_is_integer g_is_integer k_is_integer b_is_integer ⟨_, gM⟩
  have O_check_drawers := ok_checkDrawers F_check_drawers O_is_drawer_count g_is_drawer_count k_is_drawer_count b_is_drawer_count
  have O_is_drawer := ok_isDrawer F_is_drawer TB O_is_integer g_is_integer k_is_integer b_is_integer
  have O_is_bar := ok_isBar F_is_bar TB O_is_drawer g_is_drawer k_is_drawer b_is_drawer ⟨fW, gW, hW⟩
  have O_check_bars := ok_checkBars F_check_bars TB O_is_bar g_is_bar k_is_bar b_is_bar
  have O_Cabinet___init__ := ok_init F_Cabinet___init__ TC O_check_drawers g_check_drawers k_check_drawers b_check_drawers O_check_bars g_check_bars k_check_bars b_check_bars
  have O__law_made := ok_made F__law_made TC MC O_Cabinet___init__ b_Cabinet___init__
  have O_x_ckC := ok_ckC (P := l.prog) (w := w) (base := base) F_check_cabinet TB IC ETCb
  have O_first_ring := okJ_first_ring F_first_ring O_x_ckC g_check_cabinet k_check_cabinet b_check_cabinet
  have O_longest_row := okJ_longest_row F_longest_row O_x_ckC g_check_cabinet k_check_cabinet b_check_cabinet
  have O_keeping := okJ_keeping F_keeping O_x_ckC g_check_cabinet k_check_cabinet b_check_cabinet
  have O_has_signs := ok_hasSignsI (P := l.prog) (w := w) (base := base) F_has_signs TB n_str n_all
  have O_is_pattern := ok_isPatI F_is_pattern O_has_signs g_has_signs k_has_signs b_has_signs ⟨_, gSS⟩
  have O_check_pattern := ok_ckPatI F_check_pattern CP ETPt O_is_pattern g_is_pattern k_is_pattern b_is_pattern
  have O_force := okJ_force F_force O_x_ckC g_check_cabinet k_check_cabinet b_check_cabinet O_check_pattern g_check_pattern k_check_pattern b_check_pattern
  have O_plan := okJ_plan F_plan O_x_ckC g_check_cabinet k_check_cabinet b_check_cabinet O_check_pattern g_check_pattern k_check_pattern b_check_pattern
  have O_plan_depth := okJ_plan_depth F_plan_depth O_x_ckC g_check_cabinet k_check_cabinet b_check_cabinet O_check_pattern g_check_pattern k_check_pattern b_check_pattern
  have O_is_costs := ok_isCosts F_is_costs TB n_all ⟨_, gMC⟩ O_is_integer g_is_integer k_is_integer b_is_integer
  have O_check_costs := ok_ckCosts F_check_costs CP ETCo O_is_costs g_is_costs k_is_costs b_is_costs
  have O_cheapest := okJ_cheapest F_cheapest O_x_ckC g_check_cabinet k_check_cabinet b_check_cabinet O_check_costs g_check_costs k_check_costs b_check_costs O_check_pattern g_check_pattern k_check_pattern b_check_pattern
  have O_is_standing := ok_isStdI F_is_standing O_has_signs g_has_signs k_has_signs b_has_signs ⟨_, gST⟩
  have O_check_standing := ok_ckStdI F_check_standing CP ETSd O_is_standing g_is_standing k_is_standing b_is_standing
  have O_ring_at := okJ_ring_at F_ring_at O_x_ckC g_check_cabinet k_check_cabinet b_check_cabinet O_check_standing g_check_standing k_check_standing b_check_standing
  have O_x_badS := ok_BadSeenInit (w := w) (mg := mg) (base := base) FSSe SKSe n_super atSe
  have O_check_seen := ok_ckSeenX F_check_seen TB n_list ⟨_, gMS⟩ CP ⟨OESe, gSe, ⟨_, _, inSe, tySe, O_x_badS, bSei⟩⟩ O_is_drawer g_is_drawer k_is_drawer b_is_drawer
  have O_first_fit := okJ_first_fit F_first_fit O_x_ckC g_check_cabinet k_check_cabinet b_check_cabinet O_check_seen g_check_seen k_check_seen b_check_seen
  have O_fits_many := okJ_fits_many F_fits_many O_x_ckC g_check_cabinet k_check_cabinet b_check_cabinet O_check_seen g_check_seen k_check_seen b_check_seen
  have O_stands_after := okJ_stands_after F_stands_after O_x_ckC g_check_cabinet k_check_cabinet b_check_cabinet O_check_seen g_check_seen k_check_seen b_check_seen
  have O_sure_pulls := okJ_sure_pulls F_sure_pulls O_x_ckC g_check_cabinet k_check_cabinet b_check_cabinet O_check_seen g_check_seen k_check_seen b_check_seen
  have O_x_badM := ok_TooManyInit (w := w) (mg := mg) (base := base) FSTM SKTM n_super atTM
  have O_check_few_drawers := ok_few9 F_check_few_drawers CP ⟨OETM, gTM, ⟨_, _, inTM, tyTM, O_x_badM, bTMi⟩⟩
  have O_x_badN := ok_BadNumberInit (w := w) (mg := mg) (base := base) FSBN SKBN n_super atBN
  have O_check_number := ok_ckLen F_check_number ⟨OEBN, gBN, ⟨_, _, inBN, tyBN, O_x_badN, bBNi⟩⟩ O_is_integer g_is_integer k_is_integer b_is_integer
  have O_count_rest := okJ_count_rest F_count_rest O_x_ckC g_check_cabinet k_check_cabinet b_check_cabinet O_check_few_drawers g_check_few_drawers k_check_few_drawers b_check_few_drawers O_check_number g_check_number k_check_number b_check_number ⟨_, gQC⟩ ⟨_, gQL⟩ ⟨_, gQD⟩
  have O_is_order := ok_isOrder F_is_order TB n_all n_sorted n_list O_is_drawer g_is_drawer k_is_drawer b_is_drawer
  have O_check_order := ok_ckOrder F_check_order CP ETOr O_is_order g_is_order k_is_order b_is_order
  have O_renamed := okJ_renamed F_renamed O_x_ckC g_check_cabinet k_check_cabinet b_check_cabinet O_check_order g_check_order k_check_order b_check_order
  have O__law_call := ok_jCall F__law_call O_first_ring g_first_ring k_first_ring b_first_ring O_longest_row g_longest_row k_longest_row b_longest_row O_keeping g_keeping k_keeping b_keeping O_force g_force k_force b_force O_plan g_plan k_plan b_plan O_plan_depth g_plan_depth k_plan_depth b_plan_depth O_cheapest g_cheapest k_cheapest b_cheapest O_ring_at g_ring_at k_ring_at b_ring_at O_first_fit g_first_fit k_first_fit b_first_fit O_fits_many g_fits_many k_fits_many b_fits_many O_stands_after g_stands_after k_stands_after b_stands_after O_sure_pulls g_sure_pulls k_sure_pulls b_sure_pulls O_count_rest g_count_rest k_count_rest b_count_rest O_renamed g_renamed k_renamed b_renamed
  have O__law_refused := ok_jRef F__law_refused O__law_call g__law_call k__law_call b__law_call ETCb.g ETPt.g ETCo.g ETSd.g gSe gTM gBN ETOr.g X8 XFSe atSe XFTM atTM XFBN atBN
  have O__law_odd := ok_oddC F__law_odd TB ⟨kcN, kcI, kcB, kcT, kcS, kcD⟩ O__law_taken g__law_taken k__law_taken b__law_taken
  have O__law_odd_standing := ok_oddS F__law_odd_standing TB O__law_taken g__law_taken k__law_taken b__law_taken
  have O_check_cabinet := F_check_cabinet
  exact ok_law F_law TB n_list TC.mgC MC O_Cabinet___init__ b_Cabinet___init__ O__law_taken g__law_taken k__law_taken b__law_taken O__law_parts g__law_parts k__law_parts b__law_parts O__law_made g__law_made k__law_made b__law_made O__law_refused g__law_refused k__law_refused b__law_refused O__law_odd g__law_odd k__law_odd b__law_odd O__law_odd_standing g__law_odd_standing k__law_odd_standing b__law_odd_standing
theorem walk {l : PySem.W.OpenLaw} {q : Program} {loose : List Str} {XP : (Str → Option Value) → Heap → Prop} {YP : World → Heap → Prop} {d : DefRec} {K : Params → PySem.W.Frag} (hn : l.most = some 63) (hdf : d.params.defaults = [])
    (hY : ∀ (w : World) (h : Heap), YP w h → (K w.params).In h)
    (F : ∀ (w : World) (mg : Str → Option Value) (fa : Addr) (h : Heap), (K w.params).In h → h.Ns mainGlobals mg → mg d.name = some (.ref fa) →
      ∃ fd : FuncData, (∀ (s : Shared) (u : Value), BindsTo s fd ⟨[u], []⟩ [("_law_script", u)]) ∧ ∀ base : Heap, (K w.params).In base → base.Ns mainGlobals mg → FnOk l.prog w (K w.params) mg base CX0 12 fa fd ["_law_script"] (spLaw31 (K w.params))) :
    PySem.W.WalkO q loose XP YP l.row.toRowW d [] (fun f vs => PySem.call f vs) :=
  L2.walk_of (n := 63) (k := 12) (x := "_law_script") (CX := fun _ => CX0) (sp := fun w => spLaw31 (K w.params)) hn (by decide) hdf ⟨rfl, by decide, by decide⟩ hY F (fun _ _ a ns hl _ hS => ⟨a, ns, rfl, hS, hl, fun _ => rfl⟩) fun _ _ _ _ _ z => z
end DL


set_option Elab.async false
set_option linter.all false
set_option maxRecDepth 100000
set_option maxHeartbeats 2000000
/-! A head whose facts are read off by a Hook: functions by their parts, the rest by Bools. -/
namespace HX
open PySem PySem.Spec PyProof.Rows L2
abbrev Fr := PySem.W.Frag
/-! ### what the Hook looks at -/
def fdA (K : Fr) (f : Addr) : Option FuncData := match K.lookup f with
  | some ⟨_, _, .func fd, _⟩ => some fd
  | _ => none
abbrev FnL : Type := Option (Str × Str × Arguments × FuncBody × Scope × Addr × List Str × Value × Addr)
def fnL (K : Fr) (f : Addr) : FnL := (fdA K f).map fun fd => (fd.name, fd.qualname, fd.params, fd.body, fd.scope, fd.globals, fd.closure.map (·.1), fd.defaults, fd.builtins)
/-- a def: its address, its parts; own: it holds its class in a cell -/
structure FD where
  ad : Fr → Addr
  name : Str
  qual : Str
  params : Arguments
  body : List Stmt
  scope : Scope
  own : List Str := []
def FD.val (d : FD) : FnL := some (d.name, d.qual, d.params, .stmts d.body, d.scope, mainGlobals, d.own, .none, builtinsNs)
def codeB (K : Fr) (f : Addr) (q : Str) : Bool := match fdA K f with
  | some fd => PySem.W.codeIn K fd.code q
  | none => false
theorem fdA_ok {K : Fr} {f : Addr} {fd : FuncData} (h : fdA K f = some fd) : ∃ oc od sl, K.lookup f = some ⟨oc, od, .func fd, sl⟩ := by
  unfold fdA at h
  cases q : K.lookup f with
  | none => rw [q] at h; cases h
  | some o =>
    obtain ⟨oc, od, dt, sl⟩ := o
    rw [q] at h
    cases dt with
    | func fd' =>
      injection h with h
      subst h
      exact ⟨oc, od, sl, rfl⟩
    | _ => cases h
theorem fnL_ok {K : Fr} {d : FD} (e : fnL K (d.ad K) = d.val) : ∃ fd, fdA K (d.ad K) = some fd ∧ fd.name = d.name ∧ fd.qualname = d.qual ∧ fd.params = d.params ∧ fd.body = .stmts d.body ∧ fd.scope = d.scope ∧ fd.globals = mainGlobals ∧ fd.closure.map (·.1) = d.own ∧ fd.defaults = .none ∧ fd.builtins = builtinsNs := by
  unfold fnL FD.val at e
  cases q : fdA K (d.ad K) with
  | none => rw [q] at e; cases e
  | some fd =>
    rw [q] at e
    simp only [Option.map_some, Option.some.injEq, Prod.mk.injEq] at e
    obtain ⟨h1, h2, h3, h4, h5, h6, h7, h8, h9⟩ := e
    exact ⟨fd, rfl, h1, h2, h3, h4, h5, h6, h7, h8, h9⟩
/-- a def without a cell -/
theorem fd_plain {K : Fr} {d : FD} (ho : d.own = []) (e : fnL K (d.ad K) = d.val) (c : codeB K (d.ad K) d.qual = true) :
    ∃ (od an : Option Addr) (sl : Array (Option Value)) (oc kV dc pm cd ct : Value), K.lookup (d.ad K) = some ⟨oc, od, .func (PySem.W.fnOf d.name d.qual d.params d.body d.scope .none kV dc pm an cd ct), sl⟩ ∧ PySem.W.codeIn K cd d.qual = true := by
  obtain ⟨fd, hf, h1, h2, h3, h4, h5, h6, h7, h8, h9⟩ := fnL_ok e
  obtain ⟨oc, od, sl, hl⟩ := fdA_ok hf
  unfold codeB at c
  rw [hf] at c
  obtain ⟨n1, n2, n3, n4, n5, n6, n7, n8, n9, n10, n11, n12, n13, n14, n15⟩ := fd
  simp only at h1 h2 h3 h4 h5 h6 h7 h8 h9 c
  rw [ho] at h7
  obtain rfl : n7 = [] := List.map_eq_nil_iff.mp h7
  subst h1 h2 h3 h4 h5 h6 h8 h9
  exact ⟨od, n12, sl, oc, n9, n10, n11, n13, n14, hl, c⟩
/-! ### a def with super(): its code's file, its cell -/
def cdA (K : Fr) (f : Addr) : Addr := match fdA K f with
  | some fd => (match fd.code with
    | .ref a => a
    | _ => 0)
  | none => 0
def ccA (K : Fr) (f : Addr) : Addr := match fdA K f with
  | some fd => (match fd.closure with
    | [(_, a)] => a
    | _ => 0)
  | none => 0
def codeR (K : Fr) (f : Addr) : Bool := match fdA K f with
  | some fd => (match fd.code with
    | .ref _ => true
    | _ => false)
  | none => false
def fileB (K : Fr) (a : Addr) (file : Str) : Bool := match K.lookup a with
  | some ⟨_, _, .fields vs, _⟩ => (match (vs[2]? : Option Value) with
    | some (Value.str z _) => file == z
    | _ => false)
  | _ => false
def cellB (K : Fr) (a C : Addr) : Bool := match K.lookup a with
  | some ⟨_, _, .cell (some (.ref c)), _⟩ => decide (c = C)
  | _ => false
theorem fd_super {K : Fr} {d : FD} (ho : d.own = [("__class__" : Str)]) (e : fnL K (d.ad K) = d.val) (c : codeB K (d.ad K) d.qual = true) (r : codeR K (d.ad K) = true) :
    ∃ (od an : Option Addr) (sl : Array (Option Value)) (oc kV dc pm ct : Value), K.lookup (d.ad K) = some ⟨oc, od, .func (PySem.W.ksFn d.name d.qual d.params d.body d.scope .none kV dc pm an (.ref (cdA K (d.ad K))) ct (ccA K (d.ad K))), sl⟩ ∧ PySem.W.codeIn K (.ref (cdA K (d.ad K))) d.qual = true := by
  obtain ⟨fd, hf, h1, h2, h3, h4, h5, h6, h7, h8, h9⟩ := fnL_ok e
  obtain ⟨oc, od, sl, hl⟩ := fdA_ok hf
  unfold codeB at c
  unfold codeR at r
  unfold cdA ccA
  rw [hf] at c r ⊢
  obtain ⟨n1, n2, n3, n4, n5, n6, n7, n8, n9, n10, n11, n12, n13, n14, n15⟩ := fd
  simp only at h1 h2 h3 h4 h5 h6 h7 h8 h9 c r ⊢
  rw [ho] at h7
  match n7, h7 with
  | [(x, a)], h7 =>
    injection h7 with h7 _
    simp only at h7
    subst h7
    cases n13 with
    | ref b =>
      subst h1 h2 h3 h4 h5 h6 h8 h9
      exact ⟨od, n12, sl, oc, n9, n10, n11, n14, hl, c⟩
    | _ => cases r
theorem file_ok {K : Fr} {a : Addr} {file : Str} (h : fileB K a file = true) : ∃ ccl cdd vs ccs z tf, K.lookup a = some ⟨ccl, cdd, .fields vs, ccs⟩ ∧ vs[2]? = some (.str z tf) ∧ (file == z) = true := by
  unfold fileB at h
  cases q : K.lookup a with
  | none => rw [q] at h; cases h
  | some o =>
    obtain ⟨oc, od, dt, sl⟩ := o
    rw [q] at h
    cases dt with
    | fields vs =>
      simp only at h
      cases e : vs[2]? with
      | none => rw [e] at h; cases h
      | some v =>
        rw [e] at h
        cases v with
        | str z tf => exact ⟨oc, od, vs, sl, z, tf, rfl, e, h⟩
        | _ => cases h
    | _ => cases h
theorem cell_ok {K : Fr} {a C : Addr} (h : cellB K a C = true) : ∃ cl cld csl, K.lookup a = some ⟨cl, cld, .cell (some (.ref C)), csl⟩ := by
  unfold cellB at h
  cases q : K.lookup a with
  | none => rw [q] at h; cases h
  | some o =>
    obtain ⟨oc, od, dt, sl⟩ := o
    rw [q] at h
    cases dt with
    | cell v =>
      cases v with
      | none => cases h
      | some v =>
        cases v with
        | ref c =>
          have e : c = C := of_decide_eq_true h
          subst e
          exact ⟨oc, od, sl, rfl⟩
        | _ => cases h
    | _ => cases h
/-! ### an own error's class under another own one -/
def exB (K : Fr) (C D : Addr) : Bool := match K.lookup C with
  | some ⟨.type t, _, .cls cd, sl⟩ => (match cd.mro, sl.toList with
    | .ref C' :: bm, [_, _, _, _, some (.builtin n), _] => t == "type" && C' == C && n == "ValueError.__new__" && !cd.hasDel && cd.hasDict && bm == [.ref D, .type "ValueError", .type "Exception", .type "BaseException", .type "object"]
    | _, _ => false)
  | _ => false
theorem ex_ok {K : Fr} {C D : Addr} (q : exB K C D = true) : ∃ (nm qn : Str) (N : Addr) (bs : List Value) (sn : List Str) (sub : List Value) (ab : Bool) (col : Option Bool) (dd : Option Addr) (k0 k1 k2 k3 k5 : Option Value),
    K.lookup C = some (excClassObj nm qn C N bs [.ref D, .type "ValueError", .type "Exception", .type "BaseException", .type "object"] true sn sub ab col dd k0 k1 k2 k3 k5 "ValueError.__new__") := by
  unfold exB at q
  split at q
  · rename_i t dd cd sl ho
    split at q
    · rename_i C' bm k0 k1 k2 k3 n k5 hm hs
      simp only [Bool.and_eq_true, beq_iff_eq, Bool.not_eq_true'] at q
      obtain ⟨⟨⟨⟨⟨rfl, rfl⟩, rfl⟩, hdel⟩, hd⟩, rfl⟩ := q
      obtain ⟨nm, bs, mro, ns, qn, hd', sn, sub, ab, col, del⟩ := cd
      dsimp only at hm hdel hd
      subst hm hdel hd
      have hsl : sl = #[k0, k1, k2, k3, some (.builtin "ValueError.__new__"), k5] := by
        obtain ⟨l⟩ := sl
        simp only at hs
        rw [hs]
      subst hsl
      exact ⟨nm, qn, ns, bs, sn, sub, ab, col, dd, k0, k1, k2, k3, k5, ho⟩
    · cases q
  · cases q
/-! ### names, values -/
def intB (K : Fr) (a : Addr) (x : Str) (i : Int) : Bool := match PySem.W.nsIn K a x with
  | some (some (.int j _)) => decide (j = i)
  | _ => false
theorem int_ok {K : Fr} {a : Addr} {x : Str} {i : Int} (h : intB K a x i = true) : ∃ t, PySem.W.nsIn K a x = some (some (.int i t)) := by
  unfold intB at h
  split at h
  · rename_i j t e
    rw [of_decide_eq_true h] at e
    exact ⟨t, e⟩
  · cases h
def strB (K : Fr) (a : Addr) (x z : Str) : Bool := match PySem.W.nsIn K a x with
  | some (some (.str y _)) => decide (y = z)
  | _ => false
theorem str_ok {K : Fr} {a : Addr} {x z : Str} (h : strB K a x z = true) : ∃ t, PySem.W.nsIn K a x = some (some (.str z t)) := by
  unfold strB at h
  split at h
  · rename_i j t e
    rw [of_decide_eq_true h] at e
    exact ⟨t, e⟩
  · cases h
def tup2B (K : Fr) (a : Addr) (x y : Str) : Bool := match K.lookup a with
  | some ⟨.type c, _, .seq ⟨[.str p _, .str q _]⟩ _, _⟩ => decide (c = "tuple") && (decide (p = x) && decide (q = y))
  | _ => false
theorem tup2_ok {K : Fr} {a : Addr} {x y : Str} (h : tup2B K a x y = true) : ∃ dd t1 t2 n sl, K.lookup a = some ⟨.type "tuple", dd, .seq #[.str x t1, .str y t2] n, sl⟩ := by
  unfold tup2B at h
  split at h
  · rename_i c dd p t1 q t2 n sl e
    simp only [Bool.and_eq_true, decide_eq_true_eq] at h
    obtain ⟨rfl, rfl, rfl⟩ := h
    exact ⟨dd, t1, t2, n, sl, e⟩
  · cases h
/-- a property's def -/
def prA (K : Fr) (p : Addr) : Addr := match PySem.W.recIn K p "property" with
  | some (.ref f :: _) => f
  | _ => 0
def prR (K : Fr) (p : Addr) : List Value := match PySem.W.recIn K p "property" with
  | some (_ :: r) => r
  | _ => []
def prB (K : Fr) (p : Addr) : Bool := match PySem.W.recIn K p "property" with
  | some (.ref _ :: _) => true
  | _ => false
theorem pr_ok {K : Fr} {p : Addr} (h : prB K p = true) : PySem.W.recIn K p "property" = some (.ref (prA K p) :: prR K p) := by
  unfold prB at h
  unfold prA prR
  split at h
  · rename_i f r e
    rw [e]
  · cases h
/-- a dict's keys, with their hashes -/
def keyO (e : DictEntry) : Option (Str × Int) := match e.key with
  | .str x _ => some (x, e.hash)
  | _ => none
def dicO (K : Fr) (a : Addr) : Option (List (Option (Str × Int))) := match K.lookup a with
  | some ⟨.type c, none, .dict es _, ⟨[]⟩⟩ => (match c == "dict" with
    | true => some (es.toList.map keyO)
    | false => none)
  | _ => none
/-! ### the Hook -/
def memN (a : Nat) : List Nat → Bool
  | [] => false
  | b :: r => match Nat.beq a b with
    | true => true
    | false => memN a r
/-- of these the ones that are not there yet -/
def newN : List Nat → List Nat → List Nat → List Nat
  | [], _, acc => acc
  | a :: r, seen, acc => match memN a seen with
    | true => newN r seen acc
    | false => (match memN a acc with
      | true => newN r seen acc
      | false => newN r seen (a :: acc))
/-- the objects that matter to the facts: a dict's values, a def's code and cells, a class's names and bases, a property's defs -/
def refsX (o : Obj) : List Addr := match o.data with
  | .dict es _ => es.toList.flatMap fun e => He.refV e.val
  | .func fd => He.refV fd.code ++ fd.closure.map (·.2)
  | .cls cd => cd.ns :: cd.mro.flatMap He.refV
  | .fields vs => (match o.cls with
    | .type c => (match c == "property" with
      | true => vs.toList.flatMap He.refV
      | false => [])
    | _ => [])
  | _ => []
def outX (g : Addr → Option Obj) : List Addr → List Addr
  | [] => []
  | a :: r => (match g a with
    | some o => refsX o
    | none => []) ++ outX g r
def walkX (g : Addr → Option Obj) : Nat → List Addr → List Addr → List Addr
  | 0, seen, _ => seen
  | n + 1, seen, front => (fun nw => walkX g n (seen ++ nw) nw) (newN (outX g front) seen [])
def asX (g : Addr → Option Obj) (n : Nat) : List Addr := walkX g n [mainGlobals, cStatics] [mainGlobals, cStatics]
abbrev AlX : Type := Bool × List FnL × Option (List (Option (Str × Int)))
structure Look where
  bs : Fr → List Bool
  fn : List FD
  di : Fr → Addr
  ks : List Str
def Look.obs (L : Look) (K : Fr) : AlX := ((L.bs K).all id, L.fn.map fun d => fnL K (d.ad K), dicO K (L.di K))
def Look.val (L : Look) (w : World) : AlX := (true, L.fn.map FD.val, some (L.ks.map fun x => some (x, PyData.keyHash w.params x)))
def Look.hook (n : Nat) (L : Look) : PySem.W.Hook where
  α := AlX
  obs := fun s => L.obs (He.frG s.heap.get? (asX s.heap.get? n))
  val := fun w => L.val w
  says := fun w h => ∃ K : Fr, K.In h ∧ L.obs K = L.val w
  of := fun _ _ e => ⟨_, He.frG_in, e⟩
  keeps := fun _ _ _ ⟨K, hK, c⟩ k => ⟨K, PySem.W.Frag.In.keeps hK k, c⟩
def Look.ob (n : Nat) (L : Look) (s : PySem.W.SharedT) : AlX := L.obs (He.frG (HandSHeadRun.getT s) (asX (HandSHeadRun.getT s) n))
theorem Look.ob_eq (n : Nat) (L : Look) (s : PySem.W.SharedT) : L.ob n s = (L.hook n).obs s.abs := by
  have e : HandSHeadRun.getT s = s.abs.heap.get? := funext (HandSHeadRun.getT_eq s)
  show L.obs (He.frG (HandSHeadRun.getT s) (asX (HandSHeadRun.getT s) n)) = L.obs (He.frG s.abs.heap.get? (asX s.abs.heap.get? n))
  rw [e]
section
variable {L : Look} {K : Fr} {w : World}
theorem Look.bit (c : L.obs K = L.val w) (i : Nat) {b : Bool} (h : (L.bs K)[i]? = some b) : b = true := by
  have c1 : (L.bs K).all id = true := congrArg (fun z : AlX => z.1) c
  exact List.all_eq_true.mp c1 b (List.mem_of_getElem? h)
theorem Look.eq (c : L.obs K = L.val w) (i : Nat) {p : Prop} [Decidable p] (h : (L.bs K)[i]? = some (decide p)) : p := of_decide_eq_true (Look.bit c i h)
theorem Look.def_ (c : L.obs K = L.val w) (i : Nat) {d : FD} (h : L.fn[i]? = some d) : fnL K (d.ad K) = d.val := by
  have e : L.fn.map (fun d => fnL K (d.ad K)) = L.fn.map FD.val := congrArg (fun z : AlX => z.2.1) c
  have e2 : (L.fn.map fun d => fnL K (d.ad K))[i]? = (L.fn.map FD.val)[i]? := by rw [e]
  rw [List.getElem?_map, List.getElem?_map, h] at e2
  exact Option.some.inj e2
end
end HX

set_option Elab.async false
set_option linter.all false
set_option maxRecDepth 100000
set_option maxHeartbeats 0
namespace HDG
open PySem PySem.Spec PyProof.Rows L2 DL
abbrev R : PySem.W.OpenRow := PySem.W.OpenLaw.row PySem.Challenge.rw_drawerlocks_k31_deeper_refused
def l0 : List PySem.Str := [PySem.Str.ofString "__name__", PySem.Str.ofString "DrawerError", PySem.Str.ofString "BadDrawers", PySem.Str.ofString "BadBars", PySem.Str.ofString "BadCabinet", PySem.Str.ofString "BadStanding", PySem.Str.ofString "BadPattern", PySem.Str.ofString "BadNumber", PySem.Str.ofString "TooMany", PySem.Str.ofString "BadCosts", PySem.Str.ofString "BadOrder", PySem.Str.ofString "BadSeen", PySem.Str.ofString "MOST_DRAWERS", PySem.Str.ofString "MOST_COST", PySem.Str.ofString "WORDS", PySem.Str.ofString "SIGNS", PySem.Str.ofString "STANDING_SIGNS", PySem.Str.ofString "PATTERN_SIGNS", PySem.Str.ofString "is_integer", PySem.Str.ofString "is_drawer_count", PySem.Str.ofString "is_drawer", PySem.Str.ofString "is_bar", PySem.Str.ofString "is_standing", PySem.Str.ofString "is_pattern", PySem.Str.ofString "is_costs", PySem.Str.ofString "is_order", PySem.Str.ofString "has_signs", PySem.Str.ofString "first_standing", PySem.Str.ofString "fits", PySem.Str.ofString "hinders", PySem.Str.ofString "moved", PySem.Str.ofString "Cabinet", PySem.Str.ofString "free_drawers", PySem.Str.ofString "goes", PySem.Str.ofString "bars_against"]
def l1 : List PySem.Str := [PySem.Str.ofString "check_drawers", PySem.Str.ofString "check_bars", PySem.Str.ofString "check_cabinet", PySem.Str.ofString "check_standing", PySem.Str.ofString "check_pattern", PySem.Str.ofString "check_few_drawers", PySem.Str.ofString "check_number", PySem.Str.ofString "first_rows", PySem.Str.ofString "reached_pulls", PySem.Str.ofString "rows_from", PySem.Str.ofString "cheapest", PySem.Str.ofString "check_costs", PySem.Str.ofString "force", PySem.Str.ofString "plan_depth", PySem.Str.ofString "plan", PySem.Str.ofString "quickest", PySem.Str.ofString "pulls_needed", PySem.Str.ofString "is_driven", PySem.Str.ofString "is_plan", PySem.Str.ofString "is_planned_pull", PySem.Str.ofString "renamed", PySem.Str.ofString "keeping", PySem.Str.ofString "keeps", PySem.Str.ofString "renamed_bar", PySem.Str.ofString "check_order", PySem.Str.ofString "MOST_COUNTED", PySem.Str.ofString "MOST_LENGTH", PySem.Str.ofString "MOST_DIVISOR", PySem.Str.ofString "count_rest", PySem.Str.ofString "one_pull_ways", PySem.Str.ofString "doubled", PySem.Str.ofString "dot", PySem.Str.ofString "ring_at", PySem.Str.ofString "first_ring", PySem.Str.ofString "longest_row"]
def l2 : List PySem.Str := [PySem.Str.ofString "ring_from", PySem.Str.ofString "most_left", PySem.Str.ofString "counts_behind", PySem.Str.ofString "MOST_SEEN", PySem.Str.ofString "fits_many", PySem.Str.ofString "first_fit", PySem.Str.ofString "stands_after", PySem.Str.ofString "sure_pulls", PySem.Str.ofString "counts_after", PySem.Str.ofString "pulls_onward", PySem.Str.ofString "pulls_agreeing", PySem.Str.ofString "check_seen", PySem.Str.ofString "_law_taken", PySem.Str.ofString "_law_parts", PySem.Str.ofString "_law_made", PySem.Str.ofString "_law_odd", PySem.Str.ofString "_law_odd_standing", PySem.Str.ofString "_law_call", PySem.Str.ofString "_law_refused"]
def loose : List PySem.Str := l0 ++ l1 ++ l2
def fd0 : HX.FD := ⟨fun K => He.ga K "is_integer", "is_integer", "is_integer", (defArgs sIsInt), (defBody sIsInt), (defScope sIsInt), []⟩
def fd1 : HX.FD := ⟨fun K => He.ga K "is_drawer_count", "is_drawer_count", "is_drawer_count", (defArgs sIsCount), (defBody sIsCount), (defScope sIsCount), []⟩
def fd2 : HX.FD := ⟨fun K => He.ga K "is_drawer", "is_drawer", "is_drawer", (defArgs sIsDrawer), (defBody sIsDrawer), (defScope sIsDrawer), []⟩
def fd3 : HX.FD := ⟨fun K => He.ga K "is_bar", "is_bar", "is_bar", (defArgs sIsBar), (defBody sIsBar), (defScope sIsBar), []⟩
def fd4 : HX.FD := ⟨fun K => He.ga K "check_drawers", "check_drawers", "check_drawers", (defArgs sCheckDrawers), (defBody sCheckDrawers), (defScope sCheckDrawers), []⟩
def fd5 : HX.FD := ⟨fun K => He.ga K "check_bars", "check_bars", "check_bars", (defArgs sCheckBars), (defBody sCheckBars), (defScope sCheckBars), []⟩
def fd6 : HX.FD := ⟨fun K => He.ga K "_law_taken", "_law_taken", "_law_taken", (defArgs sTaken), (defBody sTaken), (defScope sTaken), []⟩
def fd7 : HX.FD := ⟨fun K => He.ga K "_law_parts", "_law_parts", "_law_parts", (defArgs sParts), (defBody sParts), (defScope sParts), []⟩
def fd8 : HX.FD := ⟨fun K => He.ga K "_law_made", "_law_made", "_law_made", (defArgs sMade), (defBody sMade), (defScope sMade), []⟩
def fd9 : HX.FD := ⟨fun K => He.ga K "has_signs", "has_signs", "has_signs", (defArgs s_has_signs), (defBody s_has_signs), (defScope s_has_signs), []⟩
def fd10 : HX.FD := ⟨fun K => He.ga K "is_standing", "is_standing", "is_standing", (defArgs s_is_standing), (defBody s_is_standing), (defScope s_is_standing), []⟩
def fd11 : HX.FD := ⟨fun K => He.ga K "is_pattern", "is_pattern", "is_pattern", (defArgs s_is_pattern), (defBody s_is_pattern), (defScope s_is_pattern), []⟩
def fd12 : HX.FD := ⟨fun K => He.ga K "check_cabinet", "check_cabinet", "check_cabinet", (defArgs s_check_cabinet), (defBody s_check_cabinet), (defScope s_check_cabinet), []⟩
def fd13 : HX.FD := ⟨fun K => He.ga K "check_standing", "check_standing", "check_standing", (defArgs s_check_standing), (defBody s_check_standing), (defScope s_check_standing), []⟩
def fd14 : HX.FD := ⟨fun K => He.ga K "check_pattern", "check_pattern", "check_pattern", (defArgs s_check_pattern), (defBody s_check_pattern), (defScope s_check_pattern), []⟩
def fd15 : HX.FD := ⟨fun K => He.ga K "check_number", "check_number", "check_number", (defArgs s_check_number), (defBody s_check_number), (defScope s_check_number), []⟩
def fd16 : HX.FD := ⟨fun K => He.ga K "check_few_drawers", "check_few_drawers", "check_few_drawers", (defArgs s_check_few_drawers), (defBody s_check_few_drawers), (defScope s_check_few_drawers), []⟩
def fd17 : HX.FD := ⟨fun K => He.ga K "is_costs", "is_costs", "is_costs", (defArgs s_is_costs), (defBody s_is_costs), (defScope s_is_costs), []⟩
def fd18 : HX.FD := ⟨fun K => He.ga K "check_costs", "check_costs", "check_costs", (defArgs s_check_costs), (defBody s_check_costs), (defScope s_check_costs), []⟩
def fd19 : HX.FD := ⟨fun K => He.ga K "is_order", "is_order", "is_order", (defArgs s_is_order), (defBody s_is_order), (defScope s_is_order), []⟩
def fd20 : HX.FD := ⟨fun K => He.ga K "check_order", "check_order", "check_order", (defArgs s_check_order), (defBody s_check_order), (defScope s_check_order), []⟩
def fd21 : HX.FD := ⟨fun K => He.ga K "check_seen", "check_seen", "check_seen", (defArgs s_check_seen), (defBody s_check_seen), (defScope s_check_seen), []⟩
def fd22 : HX.FD := ⟨fun K => He.ga K "first_ring", "first_ring", "first_ring", (defArgs s_first_ring), (defBody s_first_ring), (defScope s_first_ring), []⟩
def fd23 : HX.FD := ⟨fun K => He.ga K "longest_row", "longest_row", "longest_row", (defArgs s_longest_row), (defBody s_longest_row), (defScope s_longest_row), []⟩
def fd24 : HX.FD := ⟨fun K => He.ga K "keeping", "keeping", "keeping", (defArgs s_keeping), (defBody s_keeping), (defScope s_keeping), []⟩
def fd25 : HX.FD := ⟨fun K => He.ga K "force", "force", "force", (defArgs s_force), (defBody s_force), (defScope s_force), []⟩
def fd26 : HX.FD := ⟨fun K => He.ga K "plan", "plan", "plan", (defArgs s_plan), (defBody s_plan), (defScope s_plan), []⟩
def fd27 : HX.FD := ⟨fun K => He.ga K "plan_depth", "plan_depth", "plan_depth", (defArgs s_plan_depth), (defBody s_plan_depth), (defScope s_plan_depth), []⟩
def fd28 : HX.FD := ⟨fun K => He.ga K "cheapest", "cheapest", "cheapest", (defArgs s_cheapest), (defBody s_cheapest), (defScope s_cheapest), []⟩
def fd29 : HX.FD := ⟨fun K => He.ga K "ring_at", "ring_at", "ring_at", (defArgs s_ring_at), (defBody s_ring_at), (defScope s_ring_at), []⟩
def fd30 : HX.FD := ⟨fun K => He.ga K "first_fit", "first_fit", "first_fit", (defArgs s_first_fit), (defBody s_first_fit), (defScope s_first_fit), []⟩
def fd31 : HX.FD := ⟨fun K => He.ga K "fits_many", "fits_many", "fits_many", (defArgs s_fits_many), (defBody s_fits_many), (defScope s_fits_many), []⟩
def fd32 : HX.FD := ⟨fun K => He.ga K "stands_after", "stands_after", "stands_after", (defArgs s_stands_after), (defBody s_stands_after), (defScope s_stands_after), []⟩
def fd33 : HX.FD := ⟨fun K => He.ga K "sure_pulls", "sure_pulls", "sure_pulls", (defArgs s_sure_pulls), (defBody s_sure_pulls), (defScope s_sure_pulls), []⟩
def fd34 : HX.FD := ⟨fun K => He.ga K "count_rest", "count_rest", "count_rest", (defArgs s_count_rest), (defBody s_count_rest), (defScope s_count_rest), []⟩
def fd35 : HX.FD := ⟨fun K => He.ga K "renamed", "renamed", "renamed", (defArgs s_renamed), (defBody s_renamed), (defScope s_renamed), []⟩
def fd36 : HX.FD := ⟨fun K => He.ga K "_law_odd", "_law_odd", "_law_odd", (defArgs s__law_odd), (defBody s__law_odd), (defScope s__law_odd), []⟩
def fd37 : HX.FD := ⟨fun K => He.ga K "_law_odd_standing", "_law_odd_standing", "_law_odd_standing", (defArgs s__law_odd_standing), (defBody s__law_odd_standing), (defScope s__law_odd_standing), []⟩
def fd38 : HX.FD := ⟨fun K => He.ga K "_law_call", "_law_call", "_law_call", (defArgs s__law_call), (defBody s__law_call), (defScope s__law_call), []⟩
def fd39 : HX.FD := ⟨fun K => He.ga K "_law_refused", "_law_refused", "_law_refused", (defArgs s__law_refused), (defBody s__law_refused), (defScope s__law_refused), []⟩
def fd40 : HX.FD := ⟨fun K => He.ga K "law", "law", "law", (defArgs s_law), (defBody s_law), (defScope s_law), []⟩
def fd41 : HX.FD := ⟨fun K => He.ma K (He.ga K "Cabinet") "__init__", "__init__", "Cabinet.__init__", (defArgs sInit), (defBody sInit), (defScope sInit), []⟩
def fd42 : HX.FD := ⟨fun K => HX.prA K (He.ma K (He.ga K "Cabinet") "drawers"), "drawers", "Cabinet.drawers", (defArgs sDrawers), (defBody sDrawers), (defScope sDrawers), []⟩
def fd43 : HX.FD := ⟨fun K => HX.prA K (He.ma K (He.ga K "Cabinet") "bars"), "bars", "Cabinet.bars", (defArgs sBars), (defBody sBars), (defScope sBars), []⟩
def fd44 : HX.FD := ⟨fun K => He.ma K (He.ga K "BadNumber") "__init__", "__init__", "BadNumber.__init__", (defArgs s_BadNumber__init_), (defBody s_BadNumber__init_), (defScope s_BadNumber__init_), ["__class__"]⟩
def fd45 : HX.FD := ⟨fun K => He.ma K (He.ga K "TooMany") "__init__", "__init__", "TooMany.__init__", (defArgs s_TooMany__init_), (defBody s_TooMany__init_), (defScope s_TooMany__init_), ["__class__"]⟩
def fd46 : HX.FD := ⟨fun K => He.ma K (He.ga K "BadSeen") "__init__", "__init__", "BadSeen.__init__", (defArgs s_BadSeen__init_), (defBody s_BadSeen__init_), (defScope s_BadSeen__init_), ["__class__"]⟩
def b0 (K : HX.Fr) (r : List Bool) : List Bool :=
  decide (PySem.W.nsIn K mainGlobals "is_integer" = some (some (.ref (He.ga K "is_integer")))) ::
  HX.codeB K (He.ga K "is_integer") "is_integer" ::
  PySem.W.keepIn K (.ref (He.ga K "is_integer")) ::
  decide (PySem.W.nsIn K mainGlobals "is_drawer_count" = some (some (.ref (He.ga K "is_drawer_count")))) ::
  HX.codeB K (He.ga K "is_drawer_count") "is_drawer_count" ::
  PySem.W.keepIn K (.ref (He.ga K "is_drawer_count")) ::
  decide (PySem.W.nsIn K mainGlobals "is_drawer" = some (some (.ref (He.ga K "is_drawer")))) ::
  HX.codeB K (He.ga K "is_drawer") "is_drawer" ::
  PySem.W.keepIn K (.ref (He.ga K "is_drawer")) ::
  decide (PySem.W.nsIn K mainGlobals "is_bar" = some (some (.ref (He.ga K "is_bar")))) ::
  HX.codeB K (He.ga K "is_bar") "is_bar" ::
  PySem.W.keepIn K (.ref (He.ga K "is_bar")) ::
  decide (PySem.W.nsIn K mainGlobals "check_drawers" = some (some (.ref (He.ga K "check_drawers")))) ::
  HX.codeB K (He.ga K "check_drawers") "check_drawers" ::
  PySem.W.keepIn K (.ref (He.ga K "check_drawers")) ::
  decide (PySem.W.nsIn K mainGlobals "check_bars" = some (some (.ref (He.ga K "check_bars")))) ::
  HX.codeB K (He.ga K "check_bars") "check_bars" ::
  PySem.W.keepIn K (.ref (He.ga K "check_bars")) ::
  decide (PySem.W.nsIn K mainGlobals "_law_taken" = some (some (.ref (He.ga K "_law_taken")))) ::
  HX.codeB K (He.ga K "_law_taken") "_law_taken" ::
  PySem.W.keepIn K (.ref (He.ga K "_law_taken")) ::
  decide (PySem.W.nsIn K mainGlobals "_law_parts" = some (some (.ref (He.ga K "_law_parts")))) ::
  HX.codeB K (He.ga K "_law_parts") "_law_parts" ::
  PySem.W.keepIn K (.ref (He.ga K "_law_parts")) ::
  decide (PySem.W.nsIn K mainGlobals "_law_made" = some (some (.ref (He.ga K "_law_made")))) ::
  HX.codeB K (He.ga K "_law_made") "_law_made" ::
  PySem.W.keepIn K (.ref (He.ga K "_law_made")) ::
  decide (PySem.W.nsIn K mainGlobals "has_signs" = some (some (.ref (He.ga K "has_signs")))) ::
  HX.codeB K (He.ga K "has_signs") "has_signs" ::
  PySem.W.keepIn K (.ref (He.ga K "has_signs")) ::
  decide (PySem.W.nsIn K mainGlobals "is_standing" = some (some (.ref (He.ga K "is_standing")))) ::
  HX.codeB K (He.ga K "is_standing") "is_standing" ::
  PySem.W.keepIn K (.ref (He.ga K "is_standing")) ::
  decide (PySem.W.nsIn K mainGlobals "is_pattern" = some (some (.ref (He.ga K "is_pattern")))) ::
  HX.codeB K (He.ga K "is_pattern") "is_pattern" ::
  PySem.W.keepIn K (.ref (He.ga K "is_pattern")) ::
  decide (PySem.W.nsIn K mainGlobals "check_cabinet" = some (some (.ref (He.ga K "check_cabinet")))) ::
  HX.codeB K (He.ga K "check_cabinet") "check_cabinet" ::
  PySem.W.keepIn K (.ref (He.ga K "check_cabinet")) ::
  decide (PySem.W.nsIn K mainGlobals "check_standing" = some (some (.ref (He.ga K "check_standing")))) ::
  r
def b1 (K : HX.Fr) (r : List Bool) : List Bool :=
  HX.codeB K (He.ga K "check_standing") "check_standing" ::
  PySem.W.keepIn K (.ref (He.ga K "check_standing")) ::
  decide (PySem.W.nsIn K mainGlobals "check_pattern" = some (some (.ref (He.ga K "check_pattern")))) ::
  HX.codeB K (He.ga K "check_pattern") "check_pattern" ::
  PySem.W.keepIn K (.ref (He.ga K "check_pattern")) ::
  decide (PySem.W.nsIn K mainGlobals "check_number" = some (some (.ref (He.ga K "check_number")))) ::
  HX.codeB K (He.ga K "check_number") "check_number" ::
  PySem.W.keepIn K (.ref (He.ga K "check_number")) ::
  decide (PySem.W.nsIn K mainGlobals "check_few_drawers" = some (some (.ref (He.ga K "check_few_drawers")))) ::
  HX.codeB K (He.ga K "check_few_drawers") "check_few_drawers" ::
  PySem.W.keepIn K (.ref (He.ga K "check_few_drawers")) ::
  decide (PySem.W.nsIn K mainGlobals "is_costs" = some (some (.ref (He.ga K "is_costs")))) ::
  HX.codeB K (He.ga K "is_costs") "is_costs" ::
  PySem.W.keepIn K (.ref (He.ga K "is_costs")) ::
  decide (PySem.W.nsIn K mainGlobals "check_costs" = some (some (.ref (He.ga K "check_costs")))) ::
  HX.codeB K (He.ga K "check_costs") "check_costs" ::
  PySem.W.keepIn K (.ref (He.ga K "check_costs")) ::
  decide (PySem.W.nsIn K mainGlobals "is_order" = some (some (.ref (He.ga K "is_order")))) ::
  HX.codeB K (He.ga K "is_order") "is_order" ::
  PySem.W.keepIn K (.ref (He.ga K "is_order")) ::
  decide (PySem.W.nsIn K mainGlobals "check_order" = some (some (.ref (He.ga K "check_order")))) ::
  HX.codeB K (He.ga K "check_order") "check_order" ::
  PySem.W.keepIn K (.ref (He.ga K "check_order")) ::
  decide (PySem.W.nsIn K mainGlobals "check_seen" = some (some (.ref (He.ga K "check_seen")))) ::
  HX.codeB K (He.ga K "check_seen") "check_seen" ::
  PySem.W.keepIn K (.ref (He.ga K "check_seen")) ::
  decide (PySem.W.nsIn K mainGlobals "first_ring" = some (some (.ref (He.ga K "first_ring")))) ::
  HX.codeB K (He.ga K "first_ring") "first_ring" ::
  PySem.W.keepIn K (.ref (He.ga K "first_ring")) ::
  decide (PySem.W.nsIn K mainGlobals "longest_row" = some (some (.ref (He.ga K "longest_row")))) ::
  HX.codeB K (He.ga K "longest_row") "longest_row" ::
  PySem.W.keepIn K (.ref (He.ga K "longest_row")) ::
  decide (PySem.W.nsIn K mainGlobals "keeping" = some (some (.ref (He.ga K "keeping")))) ::
  HX.codeB K (He.ga K "keeping") "keeping" ::
  PySem.W.keepIn K (.ref (He.ga K "keeping")) ::
  decide (PySem.W.nsIn K mainGlobals "force" = some (some (.ref (He.ga K "force")))) ::
  HX.codeB K (He.ga K "force") "force" ::
  PySem.W.keepIn K (.ref (He.ga K "force")) ::
  decide (PySem.W.nsIn K mainGlobals "plan" = some (some (.ref (He.ga K "plan")))) ::
  HX.codeB K (He.ga K "plan") "plan" ::
  r
def b2 (K : HX.Fr) (r : List Bool) : List Bool :=
  PySem.W.keepIn K (.ref (He.ga K "plan")) ::
  decide (PySem.W.nsIn K mainGlobals "plan_depth" = some (some (.ref (He.ga K "plan_depth")))) ::
  HX.codeB K (He.ga K "plan_depth") "plan_depth" ::
  PySem.W.keepIn K (.ref (He.ga K "plan_depth")) ::
  decide (PySem.W.nsIn K mainGlobals "cheapest" = some (some (.ref (He.ga K "cheapest")))) ::
  HX.codeB K (He.ga K "cheapest") "cheapest" ::
  PySem.W.keepIn K (.ref (He.ga K "cheapest")) ::
  decide (PySem.W.nsIn K mainGlobals "ring_at" = some (some (.ref (He.ga K "ring_at")))) ::
  HX.codeB K (He.ga K "ring_at") "ring_at" ::
  PySem.W.keepIn K (.ref (He.ga K "ring_at")) ::
  decide (PySem.W.nsIn K mainGlobals "first_fit" = some (some (.ref (He.ga K "first_fit")))) ::
  HX.codeB K (He.ga K "first_fit") "first_fit" ::
  PySem.W.keepIn K (.ref (He.ga K "first_fit")) ::
  decide (PySem.W.nsIn K mainGlobals "fits_many" = some (some (.ref (He.ga K "fits_many")))) ::
  HX.codeB K (He.ga K "fits_many") "fits_many" ::
  PySem.W.keepIn K (.ref (He.ga K "fits_many")) ::
  decide (PySem.W.nsIn K mainGlobals "stands_after" = some (some (.ref (He.ga K "stands_after")))) ::
  HX.codeB K (He.ga K "stands_after") "stands_after" ::
  PySem.W.keepIn K (.ref (He.ga K "stands_after")) ::
  decide (PySem.W.nsIn K mainGlobals "sure_pulls" = some (some (.ref (He.ga K "sure_pulls")))) ::
  HX.codeB K (He.ga K "sure_pulls") "sure_pulls" ::
  PySem.W.keepIn K (.ref (He.ga K "sure_pulls")) ::
  decide (PySem.W.nsIn K mainGlobals "count_rest" = some (some (.ref (He.ga K "count_rest")))) ::
  HX.codeB K (He.ga K "count_rest") "count_rest" ::
  PySem.W.keepIn K (.ref (He.ga K "count_rest")) ::
  decide (PySem.W.nsIn K mainGlobals "renamed" = some (some (.ref (He.ga K "renamed")))) ::
  HX.codeB K (He.ga K "renamed") "renamed" ::
  PySem.W.keepIn K (.ref (He.ga K "renamed")) ::
  decide (PySem.W.nsIn K mainGlobals "_law_odd" = some (some (.ref (He.ga K "_law_odd")))) ::
  HX.codeB K (He.ga K "_law_odd") "_law_odd" ::
  PySem.W.keepIn K (.ref (He.ga K "_law_odd")) ::
  decide (PySem.W.nsIn K mainGlobals "_law_odd_standing" = some (some (.ref (He.ga K "_law_odd_standing")))) ::
  HX.codeB K (He.ga K "_law_odd_standing") "_law_odd_standing" ::
  PySem.W.keepIn K (.ref (He.ga K "_law_odd_standing")) ::
  decide (PySem.W.nsIn K mainGlobals "_law_call" = some (some (.ref (He.ga K "_law_call")))) ::
  HX.codeB K (He.ga K "_law_call") "_law_call" ::
  PySem.W.keepIn K (.ref (He.ga K "_law_call")) ::
  decide (PySem.W.nsIn K mainGlobals "_law_refused" = some (some (.ref (He.ga K "_law_refused")))) ::
  HX.codeB K (He.ga K "_law_refused") "_law_refused" ::
  PySem.W.keepIn K (.ref (He.ga K "_law_refused")) ::
  r
def b3 (K : HX.Fr) (r : List Bool) : List Bool :=
  decide (PySem.W.nsIn K mainGlobals "law" = some (some (.ref (He.ga K "law")))) ::
  HX.codeB K (He.ga K "law") "law" ::
  PySem.W.keepIn K (.ref (He.ga K "law")) ::
  decide (PySem.W.nsIn K mainGlobals "Cabinet" = some (some (.ref (He.ga K "Cabinet")))) ::
  PySem.W.plainGet K (He.ga K "Cabinet") Str.empty ::
  PySem.W.hasDictIn K (He.ga K "Cabinet") ::
  PySem.W.plainOver K (He.ga K "Cabinet") ::
  decide (PySem.W.findIn K (.ref (He.ga K "Cabinet")) "__setattr__" = some (some (.builtin "object.__setattr__"))) ::
  PySem.W.makesIn K (He.ga K "Cabinet") ::
  PySem.W.keepIn K (.ref (He.ga K "Cabinet")) ::
  decide (PySem.W.findIn K (.ref (He.ga K "Cabinet")) "_drawers" = some none) ::
  decide (PySem.W.findIn K (.ref (He.ga K "Cabinet")) "_bars" = some none) ::
  decide (PySem.W.findIn K (.ref (He.ga K "Cabinet")) "__init__" = some (some (.ref (He.ma K (He.ga K "Cabinet") "__init__")))) ::
  HX.codeB K (He.ma K (He.ga K "Cabinet") "__init__") "Cabinet.__init__" ::
  PySem.W.keepIn K (.ref (He.ma K (He.ga K "Cabinet") "__init__")) ::
  PySem.W.isFn K (.ref (He.ma K (He.ga K "Cabinet") "__init__")) ::
  decide (PySem.W.findIn K (.ref (He.ga K "Cabinet")) "drawers" = some (some (.ref (He.ma K (He.ga K "Cabinet") "drawers")))) ::
  decide (PySem.W.specialIn K (.ref (He.ma K (He.ga K "Cabinet") "drawers")) "__get__" = some (some (.builtin "property.__get__"))) ::
  decide (PySem.W.takesIn K (.ref (He.ma K (He.ga K "Cabinet") "drawers")) = some true) ::
  HX.prB K (He.ma K (He.ga K "Cabinet") "drawers") ::
  HX.codeB K (HX.prA K (He.ma K (He.ga K "Cabinet") "drawers")) "Cabinet.drawers" ::
  PySem.W.keepIn K (.ref (HX.prA K (He.ma K (He.ga K "Cabinet") "drawers"))) ::
  decide (PySem.W.findIn K (.ref (He.ga K "Cabinet")) "bars" = some (some (.ref (He.ma K (He.ga K "Cabinet") "bars")))) ::
  decide (PySem.W.specialIn K (.ref (He.ma K (He.ga K "Cabinet") "bars")) "__get__" = some (some (.builtin "property.__get__"))) ::
  decide (PySem.W.takesIn K (.ref (He.ma K (He.ga K "Cabinet") "bars")) = some true) ::
  HX.prB K (He.ma K (He.ga K "Cabinet") "bars") ::
  HX.codeB K (HX.prA K (He.ma K (He.ga K "Cabinet") "bars")) "Cabinet.bars" ::
  PySem.W.keepIn K (.ref (HX.prA K (He.ma K (He.ga K "Cabinet") "bars"))) ::
  decide (PySem.W.findIn K (.ref (He.ga K "Cabinet")) "__class__" = some (some (.builtin "object.__class__"))) ::
  decide (PySem.W.specialIn K (.builtin "object.__class__") "__get__" = some (some (.builtin "getset_descriptor.__get__"))) ::
  decide (PySem.W.takesIn K (.builtin "object.__class__") = some true) ::
  decide (PySem.W.mroIn K (He.ga K "Cabinet") (.type "object") = some true) ::
  decide (PySem.W.kitOne K (.ref (He.ga K "Cabinet")) (.ref (He.ga K "Cabinet")) = some true) ::
  decide (PySem.W.nsIn K mainGlobals "isinstance" = some none) ::
  decide (PySem.W.nsIn K mainGlobals "int" = some none) ::
  decide (PySem.W.nsIn K mainGlobals "bool" = some none) ::
  decide (PySem.W.nsIn K mainGlobals "tuple" = some none) ::
  decide (PySem.W.nsIn K mainGlobals "len" = some none) ::
  decide (PySem.W.nsIn K mainGlobals "enumerate" = some none) ::
  decide (PySem.W.nsIn K mainGlobals "range" = some none) ::
  r
def b4 (K : HX.Fr) (r : List Bool) : List Bool :=
  decide (PySem.W.nsIn K mainGlobals "sorted" = some none) ::
  decide (PySem.W.nsIn K mainGlobals "str" = some none) ::
  decide (PySem.W.nsIn K mainGlobals "all" = some none) ::
  decide (PySem.W.nsIn K mainGlobals "super" = some none) ::
  decide (PySem.W.nsIn K mainGlobals "list" = some none) ::
  HX.intB K mainGlobals "MOST_DRAWERS" 7 ::
  decide (PySem.W.nsIn K mainGlobals "WORDS" = some (some (.ref (He.ga K "WORDS")))) ::
  HX.tup2B K (He.ga K "WORDS") "open" "shut" ::
  HX.strB K mainGlobals "STANDING_SIGNS" "os" ::
  HX.strB K mainGlobals "PATTERN_SIGNS" "os?" ::
  decide (PySem.W.nsIn K mainGlobals "BadStanding" = some (some (.ref (He.ga K "BadStanding")))) ::
  PySem.W.excIn K (He.ga K "BadStanding") [.type "ValueError", .type "Exception", .type "BaseException", .type "object"] "ValueError.__new__" ::
  PySem.W.keepIn K (.ref (He.ga K "BadStanding")) ::
  decide (PySem.W.subIn K (.ref (He.ga K "BadStanding")) (.type "BaseException") = some true) ::
  decide (PySem.W.typeIn K (.ref (He.ga K "BadStanding")) = some (.type "type")) ::
  decide (PySem.W.nsIn K mainGlobals "BadPattern" = some (some (.ref (He.ga K "BadPattern")))) ::
  PySem.W.excIn K (He.ga K "BadPattern") [.type "ValueError", .type "Exception", .type "BaseException", .type "object"] "ValueError.__new__" ::
  PySem.W.keepIn K (.ref (He.ga K "BadPattern")) ::
  decide (PySem.W.subIn K (.ref (He.ga K "BadPattern")) (.type "BaseException") = some true) ::
  decide (PySem.W.typeIn K (.ref (He.ga K "BadPattern")) = some (.type "type")) ::
  decide (PySem.W.nsIn K mainGlobals "BadCabinet" = some (some (.ref (He.ga K "BadCabinet")))) ::
  PySem.W.excIn K (He.ga K "BadCabinet") [.type "ValueError", .type "Exception", .type "BaseException", .type "object"] "ValueError.__new__" ::
  PySem.W.keepIn K (.ref (He.ga K "BadCabinet")) ::
  decide (PySem.W.subIn K (.ref (He.ga K "BadCabinet")) (.type "BaseException") = some true) ::
  decide (PySem.W.typeIn K (.ref (He.ga K "BadCabinet")) = some (.type "type")) ::
  decide (PySem.W.nsIn K mainGlobals "BadCosts" = some (some (.ref (He.ga K "BadCosts")))) ::
  PySem.W.excIn K (He.ga K "BadCosts") [.type "ValueError", .type "Exception", .type "BaseException", .type "object"] "ValueError.__new__" ::
  PySem.W.keepIn K (.ref (He.ga K "BadCosts")) ::
  decide (PySem.W.subIn K (.ref (He.ga K "BadCosts")) (.type "BaseException") = some true) ::
  decide (PySem.W.typeIn K (.ref (He.ga K "BadCosts")) = some (.type "type")) ::
  decide (PySem.W.nsIn K mainGlobals "BadOrder" = some (some (.ref (He.ga K "BadOrder")))) ::
  PySem.W.excIn K (He.ga K "BadOrder") [.type "ValueError", .type "Exception", .type "BaseException", .type "object"] "ValueError.__new__" ::
  PySem.W.keepIn K (.ref (He.ga K "BadOrder")) ::
  decide (PySem.W.subIn K (.ref (He.ga K "BadOrder")) (.type "BaseException") = some true) ::
  decide (PySem.W.typeIn K (.ref (He.ga K "BadOrder")) = some (.type "type")) ::
  decide (PySem.W.nsIn K mainGlobals "BadNumber" = some (some (.ref (He.ga K "BadNumber")))) ::
  HX.exB K (He.ga K "BadNumber") (He.ga K "DrawerError") ::
  decide (PySem.W.findIn K (.ref (He.ga K "BadNumber")) "__setattr__" = some (some (.builtin "object.__setattr__"))) ::
  decide (PySem.W.subIn K (.ref (He.ga K "BadNumber")) (.type "BaseException") = some true) ::
  decide (PySem.W.typeIn K (.ref (He.ga K "BadNumber")) = some (.type "type")) ::
  r
def b5 (K : HX.Fr) (r : List Bool) : List Bool :=
  PySem.W.keepIn K (.ref (He.ga K "BadNumber")) ::
  decide (PySem.W.findIn K (.ref (He.ga K "BadNumber")) "__init__" = some (some (.ref (He.ma K (He.ga K "BadNumber") "__init__")))) ::
  decide (PySem.W.typeIn K (.ref (He.ma K (He.ga K "BadNumber") "__init__")) = some (.type "function")) ::
  HX.codeB K (He.ma K (He.ga K "BadNumber") "__init__") "BadNumber.__init__" ::
  HX.codeR K (He.ma K (He.ga K "BadNumber") "__init__") ::
  decide (PySem.W.alongIn K "__init__" [.ref (He.ga K "DrawerError"), .type "ValueError", .type "Exception", .type "BaseException", .type "object"] = some (some (.builtin "ValueError.__init__"))) ::
  HX.fileB K (HX.cdA K (He.ma K (He.ga K "BadNumber") "__init__")) PySem.Challenge.rw_drawerlocks_k31_deeper_refused.prog.main.file ::
  HX.cellB K (HX.ccA K (He.ma K (He.ga K "BadNumber") "__init__")) (He.ga K "BadNumber") ::
  decide (PySem.W.mroIn K (He.ga K "BadNumber") (.ref (He.ga K "BadNumber")) = some true) ::
  decide (PySem.W.nsIn K cStatics "thirdparty.any" = some none) ::
  decide (PySem.W.subIn K (.ref (He.ga K "BadNumber")) (.type "ValueError") = some true) ::
  decide (PySem.W.findIn K (.ref (He.ga K "BadNumber")) "__getattribute__" = some (some (.builtin "BaseException.__getattribute__"))) ::
  decide (PySem.W.findIn K (.ref (He.ga K "BadNumber")) "__getattr__" = some none) ::
  PySem.W.hasDictIn K (He.ga K "BadNumber") ::
  decide (PySem.W.findIn K (.ref (He.ga K "BadNumber")) "n" = some none) ::
  decide (PySem.W.nsIn K mainGlobals "TooMany" = some (some (.ref (He.ga K "TooMany")))) ::
  HX.exB K (He.ga K "TooMany") (He.ga K "DrawerError") ::
  decide (PySem.W.findIn K (.ref (He.ga K "TooMany")) "__setattr__" = some (some (.builtin "object.__setattr__"))) ::
  decide (PySem.W.subIn K (.ref (He.ga K "TooMany")) (.type "BaseException") = some true) ::
  decide (PySem.W.typeIn K (.ref (He.ga K "TooMany")) = some (.type "type")) ::
  PySem.W.keepIn K (.ref (He.ga K "TooMany")) ::
  decide (PySem.W.findIn K (.ref (He.ga K "TooMany")) "__init__" = some (some (.ref (He.ma K (He.ga K "TooMany") "__init__")))) ::
  decide (PySem.W.typeIn K (.ref (He.ma K (He.ga K "TooMany") "__init__")) = some (.type "function")) ::
  HX.codeB K (He.ma K (He.ga K "TooMany") "__init__") "TooMany.__init__" ::
  HX.codeR K (He.ma K (He.ga K "TooMany") "__init__") ::
  HX.fileB K (HX.cdA K (He.ma K (He.ga K "TooMany") "__init__")) PySem.Challenge.rw_drawerlocks_k31_deeper_refused.prog.main.file ::
  HX.cellB K (HX.ccA K (He.ma K (He.ga K "TooMany") "__init__")) (He.ga K "TooMany") ::
  decide (PySem.W.mroIn K (He.ga K "TooMany") (.ref (He.ga K "TooMany")) = some true) ::
  decide (PySem.W.subIn K (.ref (He.ga K "TooMany")) (.type "ValueError") = some true) ::
  decide (PySem.W.findIn K (.ref (He.ga K "TooMany")) "__getattribute__" = some (some (.builtin "BaseException.__getattribute__"))) ::
  decide (PySem.W.findIn K (.ref (He.ga K "TooMany")) "__getattr__" = some none) ::
  PySem.W.hasDictIn K (He.ga K "TooMany") ::
  decide (PySem.W.findIn K (.ref (He.ga K "TooMany")) "most" = some none) ::
  decide (PySem.W.nsIn K mainGlobals "BadSeen" = some (some (.ref (He.ga K "BadSeen")))) ::
  HX.exB K (He.ga K "BadSeen") (He.ga K "DrawerError") ::
  decide (PySem.W.findIn K (.ref (He.ga K "BadSeen")) "__setattr__" = some (some (.builtin "object.__setattr__"))) ::
  decide (PySem.W.subIn K (.ref (He.ga K "BadSeen")) (.type "BaseException") = some true) ::
  decide (PySem.W.typeIn K (.ref (He.ga K "BadSeen")) = some (.type "type")) ::
  PySem.W.keepIn K (.ref (He.ga K "BadSeen")) ::
  decide (PySem.W.findIn K (.ref (He.ga K "BadSeen")) "__init__" = some (some (.ref (He.ma K (He.ga K "BadSeen") "__init__")))) ::
  r
def b6 (K : HX.Fr) (r : List Bool) : List Bool :=
  decide (PySem.W.typeIn K (.ref (He.ma K (He.ga K "BadSeen") "__init__")) = some (.type "function")) ::
  HX.codeB K (He.ma K (He.ga K "BadSeen") "__init__") "BadSeen.__init__" ::
  HX.codeR K (He.ma K (He.ga K "BadSeen") "__init__") ::
  HX.fileB K (HX.cdA K (He.ma K (He.ga K "BadSeen") "__init__")) PySem.Challenge.rw_drawerlocks_k31_deeper_refused.prog.main.file ::
  HX.cellB K (HX.ccA K (He.ma K (He.ga K "BadSeen") "__init__")) (He.ga K "BadSeen") ::
  decide (PySem.W.mroIn K (He.ga K "BadSeen") (.ref (He.ga K "BadSeen")) = some true) ::
  decide (PySem.W.subIn K (.ref (He.ga K "BadSeen")) (.type "ValueError") = some true) ::
  decide (PySem.W.findIn K (.ref (He.ga K "BadSeen")) "__getattribute__" = some (some (.builtin "BaseException.__getattribute__"))) ::
  decide (PySem.W.findIn K (.ref (He.ga K "BadSeen")) "__getattr__" = some none) ::
  PySem.W.hasDictIn K (He.ga K "BadSeen") ::
  decide (PySem.W.findIn K (.ref (He.ga K "BadSeen")) "index" = some none) ::
  HX.intB K mainGlobals "MOST_COST" 1000000000000000000000000000000 ::
  HX.intB K mainGlobals "MOST_SEEN" 60 ::
  HX.intB K mainGlobals "MOST_COUNTED" 4 ::
  HX.intB K mainGlobals "MOST_LENGTH" 1000000000000000000000000000000 ::
  HX.intB K mainGlobals "MOST_DIVISOR" 1000000000 ::
  decide (PySem.W.kitOne K (.type "NoneType") (.ref (He.ga K "Cabinet")) = some false) ::
  decide (PySem.W.kitOne K (.type "int") (.ref (He.ga K "Cabinet")) = some false) ::
  decide (PySem.W.kitOne K (.type "bool") (.ref (He.ga K "Cabinet")) = some false) ::
  decide (PySem.W.kitOne K (.type "tuple") (.ref (He.ga K "Cabinet")) = some false) ::
  decide (PySem.W.kitOne K (.type "str") (.ref (He.ga K "Cabinet")) = some false) ::
  decide (PySem.W.kitOne K (.type "dict") (.ref (He.ga K "Cabinet")) = some false) ::
  decide (([(He.ga K "BadCabinet"), (He.ga K "BadPattern"), (He.ga K "BadCosts"), (He.ga K "BadStanding"), (He.ga K "BadSeen"), (He.ga K "TooMany"), (He.ga K "BadNumber"), (He.ga K "BadOrder")].map fun a => [(He.ga K "BadCabinet"), (He.ga K "BadPattern"), (He.ga K "BadCosts"), (He.ga K "BadStanding"), (He.ga K "BadSeen"), (He.ga K "TooMany"), (He.ga K "BadNumber"), (He.ga K "BadOrder")].map fun b => PySem.W.subIn K (.ref a) (.ref b)) = (List.range 8).map fun i => (List.range 8).map fun j => some (decide (i = j))) ::
  decide (([(He.ga K "BadCabinet"), (He.ga K "BadPattern"), (He.ga K "BadCosts"), (He.ga K "BadStanding"), (He.ga K "BadSeen"), (He.ga K "TooMany"), (He.ga K "BadNumber"), (He.ga K "BadOrder")].map fun b => PySem.W.subIn K (.ref b) (.type "BaseException")) = List.replicate 8 (some true)) ::
  decide (([(He.ga K "BadCabinet"), (He.ga K "BadPattern"), (He.ga K "BadCosts"), (He.ga K "BadStanding"), (He.ga K "BadSeen"), (He.ga K "TooMany"), (He.ga K "BadNumber"), (He.ga K "BadOrder")].map fun b => PySem.W.isClsIn K b) = List.replicate 8 true) ::
  decide (([(He.ga K "BadCabinet"), (He.ga K "BadPattern"), (He.ga K "BadCosts"), (He.ga K "BadStanding"), (He.ga K "BadSeen"), (He.ga K "TooMany"), (He.ga K "BadNumber"), (He.ga K "BadOrder")].map fun b => PySem.W.typeIn K (.ref b)) = List.replicate 8 (some (.type "type"))) ::
  r
def bs (K : HX.Fr) : List Bool := b0 K (b1 K (b2 K (b3 K (b4 K (b5 K (b6 K ([])))))))
def fn : List HX.FD := fd0 :: fd1 :: fd2 :: fd3 :: fd4 :: fd5 :: fd6 :: fd7 :: fd8 :: fd9 :: fd10 :: fd11 :: fd12 :: fd13 :: fd14 :: fd15 :: fd16 :: fd17 :: fd18 :: fd19 :: fd20 :: fd21 :: fd22 :: fd23 :: fd24 :: fd25 :: fd26 :: fd27 :: fd28 :: fd29 :: fd30 :: fd31 :: fd32 :: fd33 :: fd34 :: fd35 :: fd36 :: fd37 :: fd38 :: fd39 :: fd40 :: fd41 :: fd42 :: fd43 :: fd44 :: fd45 :: fd46 :: []
def L : HX.Look := ⟨bs, fn, fun K => He.ga K "SIGNS", ["open", "shut"]⟩
abbrev hk : PySem.W.Hook := HX.Look.hook 6 L
def ob (s : PySem.W.SharedT) : HX.AlX := HX.Look.ob 6 L s
theorem ob_eq (s : PySem.W.SharedT) : ob s = hk.obs s.abs := HX.Look.ob_eq 6 L s
theorem run0 (w : World) : HandSHeadRun.RunEqI R (PySem.W.view R.prog [0, 1, 102]) hk ob 60000 loose (w.withFollow "special-get-raises" false) := by unfold HandSHeadRun.RunEqI; kernel_rfl
theorem run1 (w : World) : HandSHeadRun.RunEqI R (PySem.W.view R.prog [0, 1, 102]) hk ob 60000 loose (w.withFollow "special-get-raises" true) := by unfold HandSHeadRun.RunEqI; kernel_rfl
theorem run (w : World) : HandSHeadRun.RunEqI R (PySem.W.view R.prog [0, 1, 102]) hk ob 60000 loose w :=
  PySem.W.byRow2 "special-get-raises" (P := fun w => HandSHeadRun.RunEqI R (PySem.W.view R.prog [0, 1, 102]) hk ob 60000 loose w) run0 run1 w
theorem facts {w : World} {K : HX.Fr} {h : Heap} {mg : Str → Option Value} {fa : Addr} (KX : K.In h) (G : h.Ns mainGlobals mg) (hmg : mg "law" = some (.ref fa)) (c : L.obs K = L.val w) :
    ∃ fd : FuncData, (∀ (s : Shared) (v : Value), BindsTo s fd ⟨[v], []⟩ [("_law_script", v)]) ∧ ∀ base : Heap, K.In base → base.Ns mainGlobals mg → FnOk (PySem.Challenge.rw_drawerlocks_k31_deeper_refused).prog w K mg base CX0 12 fa fd ["_law_script"] (spLaw31 K) := by
  have a_is_integer : PySem.W.nsIn K mainGlobals "is_integer" = some (some (.ref (He.ga K "is_integer"))) := HX.Look.eq c 0 rfl
  obtain ⟨_, _, _, _, _, _, _, _, _, l_is_integer, c_is_integer⟩ := HX.fd_plain (d := fd0) rfl (HX.Look.def_ c 0 rfl) (HX.Look.bit c 1 rfl)
  have k_is_integer : PySem.W.keepIn K (.ref (He.ga K "is_integer")) = true := HX.Look.bit c 2 rfl
  have a_is_drawer_count : PySem.W.nsIn K mainGlobals "is_drawer_count" = some (some (.ref (He.ga K "is_drawer_count"))) := HX.Look.eq c 3 rfl
  obtain ⟨_, _, _, _, _, _, _, _, _, l_is_drawer_count, c_is_drawer_count⟩ := HX.fd_plain (d := fd1) rfl (HX.Look.def_ c 1 rfl) (HX.Look.bit c 4 rfl)
  have k_is_drawer_count : PySem.W.keepIn K (.ref (He.ga K "is_drawer_count")) = true := HX.Look.bit c 5 rfl
  have a_is_drawer : PySem.W.nsIn K mainGlobals "is_drawer" = some (some (.ref (He.ga K "is_drawer"))) := HX.Look.eq c 6 rfl
  obtain ⟨_, _, _, _, _, _, _, _, _, l_is_drawer, c_is_drawer⟩ := HX.fd_plain (d := fd2) rfl (HX.Look.def_ c 2 rfl) (HX.Look.bit c 7 rfl)
  have k_is_drawer : PySem.W.keepIn K (.ref (He.ga K "is_drawer")) = true := HX.Look.bit c 8 rfl
  have a_is_bar : PySem.W.nsIn K mainGlobals "is_bar" = some (some (.ref (He.ga K "is_bar"))) := HX.Look.eq c 9 rfl
  obtain ⟨_, _, _, _, _, _, _, _, _, l_is_bar, c_is_bar⟩ := HX.fd_plain (d := fd3) rfl (HX.Look.def_ c 3 rfl) (HX.Look.bit c 10 rfl)
  have k_is_bar : PySem.W.keepIn K (.ref (He.ga K "is_bar")) = true := HX.Look.bit c 11 rfl
  have a_check_drawers : PySem.W.nsIn K mainGlobals "check_drawers" = some (some (.ref (He.ga K "check_drawers"))) := HX.Look.eq c 12 rfl
  obtain ⟨_, _, _, _, _, _, _, _, _, l_check_drawers, c_check_drawers⟩ := HX.fd_plain (d := fd4) rfl (HX.Look.def_ c 4 rfl) (HX.Look.bit c 13 rfl)
  have k_check_drawers : PySem.W.keepIn K (.ref (He.ga K "check_drawers")) = true := HX.Look.bit c 14 rfl
  have a_check_bars : PySem.W.nsIn K mainGlobals "check_bars" = some (some (.ref (He.ga K "check_bars"))) := HX.Look.eq c 15 rfl
  obtain ⟨_, _, _, _, _, _, _, _, _, l_check_bars, c_check_bars⟩ := HX.fd_plain (d := fd5) rfl (HX.Look.def_ c 5 rfl) (HX.Look.bit c 16 rfl)
  have k_check_bars : PySem.W.keepIn K (.ref (He.ga K "check_bars")) = true := HX.Look.bit c 17 rfl
  have a__law_taken : PySem.W.nsIn K mainGlobals "_law_taken" = some (some (.ref (He.ga K "_law_taken"))) := HX.Look.eq c 18 rfl
  obtain ⟨_, _, _, _, _, _, _, _, _, l__law_taken, c__law_taken⟩ := HX.fd_plain (d := fd6) rfl (HX.Look.def_ c 6 rfl) (HX.Look.bit c 19 rfl)
  have k__law_taken : PySem.W.keepIn K (.ref (He.ga K "_law_taken")) = true := HX.Look.bit c 20 rfl
  have a__law_parts : PySem.W.nsIn K mainGlobals "_law_parts" = some (some (.ref (He.ga K "_law_parts"))) := HX.Look.eq c 21 rfl
  obtain ⟨_, _, _, _, _, _, _, _, _, l__law_parts, c__law_parts⟩ := HX.fd_plain (d := fd7) rfl (HX.Look.def_ c 7 rfl) (HX.Look.bit c 22 rfl)
  have k__law_parts : PySem.W.keepIn K (.ref (He.ga K "_law_parts")) = true := HX.Look.bit c 23 rfl
  have a__law_made : PySem.W.nsIn K mainGlobals "_law_made" = some (some (.ref (He.ga K "_law_made"))) := HX.Look.eq c 24 rfl
  obtain ⟨_, _, _, _, _, _, _, _, _, l__law_made, c__law_made⟩ := HX.fd_plain (d := fd8) rfl (HX.Look.def_ c 8 rfl) (HX.Look.bit c 25 rfl)
  have k__law_made : PySem.W.keepIn K (.ref (He.ga K "_law_made")) = true := HX.Look.bit c 26 rfl
  have a_has_signs : PySem.W.nsIn K mainGlobals "has_signs" = some (some (.ref (He.ga K "has_signs"))) := HX.Look.eq c 27 rfl
  obtain ⟨_, _, _, _, _, _, _, _, _, l_has_signs, c_has_signs⟩ := HX.fd_plain (d := fd9) rfl (HX.Look.def_ c 9 rfl) (HX.Look.bit c 28 rfl)
  have k_has_signs : PySem.W.keepIn K (.ref (He.ga K "has_signs")) = true := HX.Look.bit c 29 rfl
  have a_is_standing : PySem.W.nsIn K mainGlobals "is_standing" = some (some (.ref (He.ga K "is_standing"))) := HX.Look.eq c 30 rfl
  obtain ⟨_, _, _, _, _, _, _, _, _, l_is_standing, c_is_standing⟩ := HX.fd_plain (d := fd10) rfl (HX.Look.def_ c 10 rfl) (HX.Look.bit c 31 rfl)
  have k_is_standing : PySem.W.keepIn K (.ref (He.ga K "is_standing")) = true := HX.Look.bit c 32 rfl
  have a_is_pattern : PySem.W.nsIn K mainGlobals "is_pattern" = some (some (.ref (He.ga K "is_pattern"))) := HX.Look.eq c 33 rfl
  obtain ⟨_, _, _, _, _, _, _, _, _, l_is_pattern, c_is_pattern⟩ := HX.fd_plain (d := fd11) rfl (HX.Look.def_ c 11 rfl) (HX.Look.bit c 34 rfl)
  have k_is_pattern : PySem.W.keepIn K (.ref (He.ga K "is_pattern")) = true := HX.Look.bit c 35 rfl
  have a_check_cabinet : PySem.W.nsIn K mainGlobals "check_cabinet" = some (some (.ref (He.ga K "check_cabinet"))) := HX.Look.eq c 36 rfl
  obtain ⟨_, _, _, _, _, _, _, _, _, l_check_cabinet, c_check_cabinet⟩ := HX.fd_plain (d := fd12) rfl (HX.Look.def_ c 12 rfl) (HX.Look.bit c 37 rfl)
  have k_check_cabinet : PySem.W.keepIn K (.ref (He.ga K "check_cabinet")) = true := HX.Look.bit c 38 rfl
  have a_check_standing : PySem.W.nsIn K mainGlobals "check_standing" = some (some (.ref (He.ga K "check_standing"))) := HX.Look.eq c 39 rfl
  obtain ⟨_, _, _, _, _, _, _, _, _, l_check_standing, c_check_standing⟩ := HX.fd_plain (d := fd13) rfl (HX.Look.def_ c 13 rfl) (HX.Look.bit c 40 rfl)
  have k_check_standing : PySem.W.keepIn K (.ref (He.ga K "check_standing")) = true := HX.Look.bit c 41 rfl
  have a_check_pattern : PySem.W.nsIn K mainGlobals "check_pattern" = some (some (.ref (He.ga K "check_pattern"))) := HX.Look.eq c 42 rfl
  obtain ⟨_, _, _, _, _, _, _, _, _, l_check_pattern, c_check_pattern⟩ := HX.fd_plain (d := fd14) rfl (HX.Look.def_ c 14 rfl) (HX.Look.bit c 43 rfl)
  have k_check_pattern : PySem.W.keepIn K (.ref (He.ga K "check_pattern")) = true := HX.Look.bit c 44 rfl
  have a_check_number : PySem.W.nsIn K mainGlobals "check_number" = some (some (.ref (He.ga K "check_number"))) := HX.Look.eq c 45 rfl
  obtain ⟨_, _, _, _, _, _, _, _, _, l_check_number, c_check_number⟩ := HX.fd_plain (d := fd15) rfl (HX.Look.def_ c 15 rfl) (HX.Look.bit c 46 rfl)
  have k_check_number : PySem.W.keepIn K (.ref (He.ga K "check_number")) = true := HX.Look.bit c 47 rfl
  have a_check_few_drawers : PySem.W.nsIn K mainGlobals "check_few_drawers" = some (some (.ref (He.ga K "check_few_drawers"))) := HX.Look.eq c 48 rfl
  obtain ⟨_, _, _, _, _, _, _, _, _, l_check_few_drawers, c_check_few_drawers⟩ := HX.fd_plain (d := fd16) rfl (HX.Look.def_ c 16 rfl) (HX.Look.bit c 49 rfl)
  have k_check_few_drawers : PySem.W.keepIn K (.ref (He.ga K "check_few_drawers")) = true := HX.Look.bit c 50 rfl
  have a_is_costs : PySem.W.nsIn K mainGlobals "is_costs" = some (some (.ref (He.ga K "is_costs"))) := HX.Look.eq c 51 rfl
  obtain ⟨_, _, _, _, _, _, _, _, _, l_is_costs, c_is_costs⟩ := HX.fd_plain (d := fd17) rfl (HX.Look.def_ c 17 rfl) (HX.Look.bit c 52 rfl)
  have k_is_costs : PySem.W.keepIn K (.ref (He.ga K "is_costs")) = true := HX.Look.bit c 53 rfl
  have a_check_costs : PySem.W.nsIn K mainGlobals "check_costs" = some (some (.ref (He.ga K "check_costs"))) := HX.Look.eq c 54 rfl
  obtain ⟨_, _, _, _, _, _, _, _, _, l_check_costs, c_check_costs⟩ := HX.fd_plain (d := fd18) rfl (HX.Look.def_ c 18 rfl) (HX.Look.bit c 55 rfl)
  have k_check_costs : PySem.W.keepIn K (.ref (He.ga K "check_costs")) = true := HX.Look.bit c 56 rfl
  have a_is_order : PySem.W.nsIn K mainGlobals "is_order" = some (some (.ref (He.ga K "is_order"))) := HX.Look.eq c 57 rfl
  obtain ⟨_, _, _, _, _, _, _, _, _, l_is_order, c_is_order⟩ := HX.fd_plain (d := fd19) rfl (HX.Look.def_ c 19 rfl) (HX.Look.bit c 58 rfl)
  have k_is_order : PySem.W.keepIn K (.ref (He.ga K "is_order")) = true := HX.Look.bit c 59 rfl
  have a_check_order : PySem.W.nsIn K mainGlobals "check_order" = some (some (.ref (He.ga K "check_order"))) := HX.Look.eq c 60 rfl
  obtain ⟨_, _, _, _, _, _, _, _, _, l_check_order, c_check_order⟩ := HX.fd_plain (d := fd20) rfl (HX.Look.def_ c 20 rfl) (HX.Look.bit c 61 rfl)
  have k_check_order : PySem.W.keepIn K (.ref (He.ga K "check_order")) = true := HX.Look.bit c 62 rfl
  have a_check_seen : PySem.W.nsIn K mainGlobals "check_seen" = some (some (.ref (He.ga K "check_seen"))) := HX.Look.eq c 63 rfl
  obtain ⟨_, _, _, _, _, _, _, _, _, l_check_seen, c_check_seen⟩ := HX.fd_plain (d := fd21) rfl (HX.Look.def_ c 21 rfl) (HX.Look.bit c 64 rfl)
  have k_check_seen : PySem.W.keepIn K (.ref (He.ga K "check_seen")) = true := HX.Look.bit c 65 rfl
  have a_first_ring : PySem.W.nsIn K mainGlobals "first_ring" = some (some (.ref (He.ga K "first_ring"))) := HX.Look.eq c 66 rfl
  obtain ⟨_, _, _, _, _, _, _, _, _, l_first_ring, c_first_ring⟩ := HX.fd_plain (d := fd22) rfl (HX.Look.def_ c 22 rfl) (HX.Look.bit c 67 rfl)
  have k_first_ring : PySem.W.keepIn K (.ref (He.ga K "first_ring")) = true := HX.Look.bit c 68 rfl
  have a_longest_row : PySem.W.nsIn K mainGlobals "longest_row" = some (some (.ref (He.ga K "longest_row"))) := HX.Look.eq c 69 rfl
  obtain ⟨_, _, _, _, _, _, _, _, _, l_longest_row, c_longest_row⟩ := HX.fd_plain (d := fd23) rfl (HX.Look.def_ c 23 rfl) (HX.Look.bit c 70 rfl)
  have k_longest_row : PySem.W.keepIn K (.ref (He.ga K "longest_row")) = true := HX.Look.bit c 71 rfl
  have a_keeping : PySem.W.nsIn K mainGlobals "keeping" = some (some (.ref (He.ga K "keeping"))) := HX.Look.eq c 72 rfl
  obtain ⟨_, _, _, _, _, _, _, _, _, l_keeping, c_keeping⟩ := HX.fd_plain (d := fd24) rfl (HX.Look.def_ c 24 rfl) (HX.Look.bit c 73 rfl)
  have k_keeping : PySem.W.keepIn K (.ref (He.ga K "keeping")) = true := HX.Look.bit c 74 rfl
  have a_force : PySem.W.nsIn K mainGlobals "force" = some (some (.ref (He.ga K "force"))) := HX.Look.eq c 75 rfl
  obtain ⟨_, _, _, _, _, _, _, _, _, l_force, c_force⟩ := HX.fd_plain (d := fd25) rfl (HX.Look.def_ c 25 rfl) (HX.Look.bit c 76 rfl)
  have k_force : PySem.W.keepIn K (.ref (He.ga K "force")) = true := HX.Look.bit c 77 rfl
  have a_plan : PySem.W.nsIn K mainGlobals "plan" = some (some (.ref (He.ga K "plan"))) := HX.Look.eq c 78 rfl
  obtain ⟨_, _, _, _, _, _, _, _, _, l_plan, c_plan⟩ := HX.fd_plain (d := fd26) rfl (HX.Look.def_ c 26 rfl) (HX.Look.bit c 79 rfl)
  have k_plan : PySem.W.keepIn K (.ref (He.ga K "plan")) = true := HX.Look.bit c 80 rfl
  have a_plan_depth : PySem.W.nsIn K mainGlobals "plan_depth" = some (some (.ref (He.ga K "plan_depth"))) := HX.Look.eq c 81 rfl
  obtain ⟨_, _, _, _, _, _, _, _, _, l_plan_depth, c_plan_depth⟩ := HX.fd_plain (d := fd27) rfl (HX.Look.def_ c 27 rfl) (HX.Look.bit c 82 rfl)
  have k_plan_depth : PySem.W.keepIn K (.ref (He.ga K "plan_depth")) = true := HX.Look.bit c 83 rfl
  have a_cheapest : PySem.W.nsIn K mainGlobals "cheapest" = some (some (.ref (He.ga K "cheapest"))) := HX.Look.eq c 84 rfl
  obtain ⟨_, _, _, _, _, _, _, _, _, l_cheapest, c_cheapest⟩ := HX.fd_plain (d := fd28) rfl (HX.Look.def_ c 28 rfl) (HX.Look.bit c 85 rfl)
  have k_cheapest : PySem.W.keepIn K (.ref (He.ga K "cheapest")) = true := HX.Look.bit c 86 rfl
  have a_ring_at : PySem.W.nsIn K mainGlobals "ring_at" = some (some (.ref (He.ga K "ring_at"))) := HX.Look.eq c 87 rfl
  obtain ⟨_, _, _, _, _, _, _, _, _, l_ring_at, c_ring_at⟩ := HX.fd_plain (d := fd29) rfl (HX.Look.def_ c 29 rfl) (HX.Look.bit c 88 rfl)
  have k_ring_at : PySem.W.keepIn K (.ref (He.ga K "ring_at")) = true := HX.Look.bit c 89 rfl
  have a_first_fit : PySem.W.nsIn K mainGlobals "first_fit" = some (some (.ref (He.ga K "first_fit"))) := HX.Look.eq c 90 rfl
  obtain ⟨_, _, _, _, _, _, _, _, _, l_first_fit, c_first_fit⟩ := HX.fd_plain (d := fd30) rfl (HX.Look.def_ c 30 rfl) (HX.Look.bit c 91 rfl)
  have k_first_fit : PySem.W.keepIn K (.ref (He.ga K "first_fit")) = true := HX.Look.bit c 92 rfl
  have a_fits_many : PySem.W.nsIn K mainGlobals "fits_many" = some (some (.ref (He.ga K "fits_many"))) := HX.Look.eq c 93 rfl
  obtain ⟨_, _, _, _, _, _, _, _, _, l_fits_many, c_fits_many⟩ := HX.fd_plain (d := fd31) rfl (HX.Look.def_ c 31 rfl) (HX.Look.bit c 94 rfl)
  have k_fits_many : PySem.W.keepIn K (.ref (He.ga K "fits_many")) = true := HX.Look.bit c 95 rfl
  have a_stands_after : PySem.W.nsIn K mainGlobals "stands_after" = some (some (.ref (He.ga K "stands_after"))) := HX.Look.eq c 96 rfl
  obtain ⟨_, _, _, _, _, _, _, _, _, l_stands_after, c_stands_after⟩ := HX.fd_plain (d := fd32) rfl (HX.Look.def_ c 32 rfl) (HX.Look.bit c 97 rfl)
  have k_stands_after : PySem.W.keepIn K (.ref (He.ga K "stands_after")) = true := HX.Look.bit c 98 rfl
  have a_sure_pulls : PySem.W.nsIn K mainGlobals "sure_pulls" = some (some (.ref (He.ga K "sure_pulls"))) := HX.Look.eq c 99 rfl
  obtain ⟨_, _, _, _, _, _, _, _, _, l_sure_pulls, c_sure_pulls⟩ := HX.fd_plain (d := fd33) rfl (HX.Look.def_ c 33 rfl) (HX.Look.bit c 100 rfl)
  have k_sure_pulls : PySem.W.keepIn K (.ref (He.ga K "sure_pulls")) = true := HX.Look.bit c 101 rfl
  have a_count_rest : PySem.W.nsIn K mainGlobals "count_rest" = some (some (.ref (He.ga K "count_rest"))) := HX.Look.eq c 102 rfl
  obtain ⟨_, _, _, _, _, _, _, _, _, l_count_rest, c_count_rest⟩ := HX.fd_plain (d := fd34) rfl (HX.Look.def_ c 34 rfl) (HX.Look.bit c 103 rfl)
  have k_count_rest : PySem.W.keepIn K (.ref (He.ga K "count_rest")) = true := HX.Look.bit c 104 rfl
  have a_renamed : PySem.W.nsIn K mainGlobals "renamed" = some (some (.ref (He.ga K "renamed"))) := HX.Look.eq c 105 rfl
  obtain ⟨_, _, _, _, _, _, _, _, _, l_renamed, c_renamed⟩ := HX.fd_plain (d := fd35) rfl (HX.Look.def_ c 35 rfl) (HX.Look.bit c 106 rfl)
  have k_renamed : PySem.W.keepIn K (.ref (He.ga K "renamed")) = true := HX.Look.bit c 107 rfl
  have a__law_odd : PySem.W.nsIn K mainGlobals "_law_odd" = some (some (.ref (He.ga K "_law_odd"))) := HX.Look.eq c 108 rfl
  obtain ⟨_, _, _, _, _, _, _, _, _, l__law_odd, c__law_odd⟩ := HX.fd_plain (d := fd36) rfl (HX.Look.def_ c 36 rfl) (HX.Look.bit c 109 rfl)
  have k__law_odd : PySem.W.keepIn K (.ref (He.ga K "_law_odd")) = true := HX.Look.bit c 110 rfl
  have a__law_odd_standing : PySem.W.nsIn K mainGlobals "_law_odd_standing" = some (some (.ref (He.ga K "_law_odd_standing"))) := HX.Look.eq c 111 rfl
  obtain ⟨_, _, _, _, _, _, _, _, _, l__law_odd_standing, c__law_odd_standing⟩ := HX.fd_plain (d := fd37) rfl (HX.Look.def_ c 37 rfl) (HX.Look.bit c 112 rfl)
  have k__law_odd_standing : PySem.W.keepIn K (.ref (He.ga K "_law_odd_standing")) = true := HX.Look.bit c 113 rfl
  have a__law_call : PySem.W.nsIn K mainGlobals "_law_call" = some (some (.ref (He.ga K "_law_call"))) := HX.Look.eq c 114 rfl
  obtain ⟨_, _, _, _, _, _, _, _, _, l__law_call, c__law_call⟩ := HX.fd_plain (d := fd38) rfl (HX.Look.def_ c 38 rfl) (HX.Look.bit c 115 rfl)
  have k__law_call : PySem.W.keepIn K (.ref (He.ga K "_law_call")) = true := HX.Look.bit c 116 rfl
  have a__law_refused : PySem.W.nsIn K mainGlobals "_law_refused" = some (some (.ref (He.ga K "_law_refused"))) := HX.Look.eq c 117 rfl
  obtain ⟨_, _, _, _, _, _, _, _, _, l__law_refused, c__law_refused⟩ := HX.fd_plain (d := fd39) rfl (HX.Look.def_ c 39 rfl) (HX.Look.bit c 118 rfl)
  have k__law_refused : PySem.W.keepIn K (.ref (He.ga K "_law_refused")) = true := HX.Look.bit c 119 rfl
  have a_law : PySem.W.nsIn K mainGlobals "law" = some (some (.ref (He.ga K "law"))) := HX.Look.eq c 120 rfl
  obtain ⟨_, _, _, _, _, _, _, _, _, l_law, c_law⟩ := HX.fd_plain (d := fd40) rfl (HX.Look.def_ c 40 rfl) (HX.Look.bit c 121 rfl)
  have k_law : PySem.W.keepIn K (.ref (He.ga K "law")) = true := HX.Look.bit c 122 rfl
  have aC : PySem.W.nsIn K mainGlobals "Cabinet" = some (some (.ref (He.ga K "Cabinet"))) := HX.Look.eq c 123 rfl
  have pg : PySem.W.plainGet K (He.ga K "Cabinet") Str.empty = true := HX.Look.bit c 124 rfl
  have hd : PySem.W.hasDictIn K (He.ga K "Cabinet") = true := HX.Look.bit c 125 rfl
  have po : PySem.W.plainOver K (He.ga K "Cabinet") = true := HX.Look.bit c 126 rfl
  have sa : PySem.W.findIn K (.ref (He.ga K "Cabinet")) "__setattr__" = some (some (.builtin "object.__setattr__")) := HX.Look.eq c 127 rfl
  have mk : PySem.W.makesIn K (He.ga K "Cabinet") = true := HX.Look.bit c 128 rfl
  have kc : PySem.W.keepIn K (.ref (He.ga K "Cabinet")) = true := HX.Look.bit c 129 rfl
  have nD : PySem.W.findIn K (.ref (He.ga K "Cabinet")) "_drawers" = some none := HX.Look.eq c 130 rfl
  have nB : PySem.W.findIn K (.ref (He.ga K "Cabinet")) "_bars" = some none := HX.Look.eq c 131 rfl
  have a_Cabinet___init__ : PySem.W.findIn K (.ref (He.ga K "Cabinet")) "__init__" = some (some (.ref (He.ma K (He.ga K "Cabinet") "__init__"))) := HX.Look.eq c 132 rfl
  obtain ⟨_, _, _, _, _, _, _, _, _, l_Cabinet___init__, c_Cabinet___init__⟩ := HX.fd_plain (d := fd41) rfl (HX.Look.def_ c 41 rfl) (HX.Look.bit c 133 rfl)
  have k_Cabinet___init__ : PySem.W.keepIn K (.ref (He.ma K (He.ga K "Cabinet") "__init__")) = true := HX.Look.bit c 134 rfl
  have i_init : PySem.W.isFn K (.ref (He.ma K (He.ga K "Cabinet") "__init__")) = true := HX.Look.bit c 135 rfl
  have pa_drawers : PySem.W.findIn K (.ref (He.ga K "Cabinet")) "drawers" = some (some (.ref (He.ma K (He.ga K "Cabinet") "drawers"))) := HX.Look.eq c 136 rfl
  have pg_drawers : PySem.W.specialIn K (.ref (He.ma K (He.ga K "Cabinet") "drawers")) "__get__" = some (some (.builtin "property.__get__")) := HX.Look.eq c 137 rfl
  have pt_drawers : PySem.W.takesIn K (.ref (He.ma K (He.ga K "Cabinet") "drawers")) = some true := HX.Look.eq c 138 rfl
  have pr_drawers := HX.pr_ok (HX.Look.bit c 139 rfl)
  obtain ⟨_, _, _, _, _, _, _, _, _, l_Cabinet_drawers, c_Cabinet_drawers⟩ := HX.fd_plain (d := fd42) rfl (HX.Look.def_ c 42 rfl) (HX.Look.bit c 140 rfl)
  have k_Cabinet_drawers : PySem.W.keepIn K (.ref (HX.prA K (He.ma K (He.ga K "Cabinet") "drawers"))) = true := HX.Look.bit c 141 rfl
  have pa_bars : PySem.W.findIn K (.ref (He.ga K "Cabinet")) "bars" = some (some (.ref (He.ma K (He.ga K "Cabinet") "bars"))) := HX.Look.eq c 142 rfl
  have pg_bars : PySem.W.specialIn K (.ref (He.ma K (He.ga K "Cabinet") "bars")) "__get__" = some (some (.builtin "property.__get__")) := HX.Look.eq c 143 rfl
  have pt_bars : PySem.W.takesIn K (.ref (He.ma K (He.ga K "Cabinet") "bars")) = some true := HX.Look.eq c 144 rfl
  have pr_bars := HX.pr_ok (HX.Look.bit c 145 rfl)
  obtain ⟨_, _, _, _, _, _, _, _, _, l_Cabinet_bars, c_Cabinet_bars⟩ := HX.fd_plain (d := fd43) rfl (HX.Look.def_ c 43 rfl) (HX.Look.bit c 146 rfl)
  have k_Cabinet_bars : PySem.W.keepIn K (.ref (HX.prA K (He.ma K (He.ga K "Cabinet") "bars"))) = true := HX.Look.bit c 147 rfl
  have ci1 : PySem.W.findIn K (.ref (He.ga K "Cabinet")) "__class__" = some (some (.builtin "object.__class__")) := HX.Look.eq c 148 rfl
  have ci2 : PySem.W.specialIn K (.builtin "object.__class__") "__get__" = some (some (.builtin "getset_descriptor.__get__")) := HX.Look.eq c 149 rfl
  have ci3 : PySem.W.takesIn K (.builtin "object.__class__") = some true := HX.Look.eq c 150 rfl
  have ci4 : PySem.W.mroIn K (He.ga K "Cabinet") (.type "object") = some true := HX.Look.eq c 151 rfl
  have ci5 : PySem.W.kitOne K (.ref (He.ga K "Cabinet")) (.ref (He.ga K "Cabinet")) = some true := HX.Look.eq c 152 rfl
  have z_isinstance : PySem.W.nsIn K mainGlobals "isinstance" = some none := HX.Look.eq c 153 rfl
  have z_int : PySem.W.nsIn K mainGlobals "int" = some none := HX.Look.eq c 154 rfl
  have z_bool : PySem.W.nsIn K mainGlobals "bool" = some none := HX.Look.eq c 155 rfl
  have z_tuple : PySem.W.nsIn K mainGlobals "tuple" = some none := HX.Look.eq c 156 rfl
  have z_len : PySem.W.nsIn K mainGlobals "len" = some none := HX.Look.eq c 157 rfl
  have z_enumerate : PySem.W.nsIn K mainGlobals "enumerate" = some none := HX.Look.eq c 158 rfl
  have z_range : PySem.W.nsIn K mainGlobals "range" = some none := HX.Look.eq c 159 rfl
  have z_sorted : PySem.W.nsIn K mainGlobals "sorted" = some none := HX.Look.eq c 160 rfl
  have z_str : PySem.W.nsIn K mainGlobals "str" = some none := HX.Look.eq c 161 rfl
  have z_all : PySem.W.nsIn K mainGlobals "all" = some none := HX.Look.eq c 162 rfl
  have z_super : PySem.W.nsIn K mainGlobals "super" = some none := HX.Look.eq c 163 rfl
  have z_list : PySem.W.nsIn K mainGlobals "list" = some none := HX.Look.eq c 164 rfl
  obtain ⟨_, aM⟩ := HX.int_ok (HX.Look.bit c 165 rfl)
  have aW : PySem.W.nsIn K mainGlobals "WORDS" = some (some (.ref (He.ga K "WORDS"))) := HX.Look.eq c 166 rfl
  obtain ⟨_, _, _, _, _, lW⟩ := HX.tup2_ok (HX.Look.bit c 167 rfl)
  obtain ⟨_, aST⟩ := HX.str_ok (HX.Look.bit c 168 rfl)
  obtain ⟨_, aSS⟩ := HX.str_ok (HX.Look.bit c 169 rfl)
  have aSd : PySem.W.nsIn K mainGlobals "BadStanding" = some (some (.ref (He.ga K "BadStanding"))) := HX.Look.eq c 170 rfl
  have xSd : PySem.W.excIn K (He.ga K "BadStanding") [.type "ValueError", .type "Exception", .type "BaseException", .type "object"] "ValueError.__new__" = true := HX.Look.bit c 171 rfl
  have kSd : PySem.W.keepIn K (.ref (He.ga K "BadStanding")) = true := HX.Look.bit c 172 rfl
  have bSd : PySem.W.subIn K (.ref (He.ga K "BadStanding")) (.type "BaseException") = some true := HX.Look.eq c 173 rfl
  have tSd : PySem.W.typeIn K (.ref (He.ga K "BadStanding")) = some (.type "type") := HX.Look.eq c 174 rfl
  have aPt : PySem.W.nsIn K mainGlobals "BadPattern" = some (some (.ref (He.ga K "BadPattern"))) := HX.Look.eq c 175 rfl
  have xPt : PySem.W.excIn K (He.ga K "BadPattern") [.type "ValueError", .type "Exception", .type "BaseException", .type "object"] "ValueError.__new__" = true := HX.Look.bit c 176 rfl
  have kPt : PySem.W.keepIn K (.ref (He.ga K "BadPattern")) = true := HX.Look.bit c 177 rfl
  have bPt : PySem.W.subIn K (.ref (He.ga K "BadPattern")) (.type "BaseException") = some true := HX.Look.eq c 178 rfl
  have tPt : PySem.W.typeIn K (.ref (He.ga K "BadPattern")) = some (.type "type") := HX.Look.eq c 179 rfl
  have aCb : PySem.W.nsIn K mainGlobals "BadCabinet" = some (some (.ref (He.ga K "BadCabinet"))) := HX.Look.eq c 180 rfl
  have xCb : PySem.W.excIn K (He.ga K "BadCabinet") [.type "ValueError", .type "Exception", .type "BaseException", .type "object"] "ValueError.__new__" = true := HX.Look.bit c 181 rfl
  have kCb : PySem.W.keepIn K (.ref (He.ga K "BadCabinet")) = true := HX.Look.bit c 182 rfl
  have bCb : PySem.W.subIn K (.ref (He.ga K "BadCabinet")) (.type "BaseException") = some true := HX.Look.eq c 183 rfl
  have tCb : PySem.W.typeIn K (.ref (He.ga K "BadCabinet")) = some (.type "type") := HX.Look.eq c 184 rfl
  have aCo : PySem.W.nsIn K mainGlobals "BadCosts" = some (some (.ref (He.ga K "BadCosts"))) := HX.Look.eq c 185 rfl
  have xCo : PySem.W.excIn K (He.ga K "BadCosts") [.type "ValueError", .type "Exception", .type "BaseException", .type "object"] "ValueError.__new__" = true := HX.Look.bit c 186 rfl
  have kCo : PySem.W.keepIn K (.ref (He.ga K "BadCosts")) = true := HX.Look.bit c 187 rfl
  have bCo : PySem.W.subIn K (.ref (He.ga K "BadCosts")) (.type "BaseException") = some true := HX.Look.eq c 188 rfl
  have tCo : PySem.W.typeIn K (.ref (He.ga K "BadCosts")) = some (.type "type") := HX.Look.eq c 189 rfl
  have aOr : PySem.W.nsIn K mainGlobals "BadOrder" = some (some (.ref (He.ga K "BadOrder"))) := HX.Look.eq c 190 rfl
  have xOr : PySem.W.excIn K (He.ga K "BadOrder") [.type "ValueError", .type "Exception", .type "BaseException", .type "object"] "ValueError.__new__" = true := HX.Look.bit c 191 rfl
  have kOr : PySem.W.keepIn K (.ref (He.ga K "BadOrder")) = true := HX.Look.bit c 192 rfl
  have bOr : PySem.W.subIn K (.ref (He.ga K "BadOrder")) (.type "BaseException") = some true := HX.Look.eq c 193 rfl
  have tOr : PySem.W.typeIn K (.ref (He.ga K "BadOrder")) = some (.type "type") := HX.Look.eq c 194 rfl
  have aBN : PySem.W.nsIn K mainGlobals "BadNumber" = some (some (.ref (He.ga K "BadNumber"))) := HX.Look.eq c 195 rfl
  obtain ⟨_, _, _, _, _, _, _, _, _, _, _, _, _, _, lBN⟩ := HX.ex_ok (HX.Look.bit c 196 rfl)
  have saBN : PySem.W.findIn K (.ref (He.ga K "BadNumber")) "__setattr__" = some (some (.builtin "object.__setattr__")) := HX.Look.eq c 197 rfl
  have bBN : PySem.W.subIn K (.ref (He.ga K "BadNumber")) (.type "BaseException") = some true := HX.Look.eq c 198 rfl
  have tBN : PySem.W.typeIn K (.ref (He.ga K "BadNumber")) = some (.type "type") := HX.Look.eq c 199 rfl
  have kBN : PySem.W.keepIn K (.ref (He.ga K "BadNumber")) = true := HX.Look.bit c 200 rfl
  have inBN : PySem.W.findIn K (.ref (He.ga K "BadNumber")) "__init__" = some (some (.ref (He.ma K (He.ga K "BadNumber") "__init__"))) := HX.Look.eq c 201 rfl
  have tyBN : PySem.W.typeIn K (.ref (He.ma K (He.ga K "BadNumber") "__init__")) = some (.type "function") := HX.Look.eq c 202 rfl
  obtain ⟨_, _, _, _, _, _, _, _, lfBN, cdBN⟩ := HX.fd_super (d := fd44) rfl (HX.Look.def_ c 44 rfl) (HX.Look.bit c 203 rfl) (HX.Look.bit c 204 rfl)
  have alBN : PySem.W.alongIn K "__init__" [.ref (He.ga K "DrawerError"), .type "ValueError", .type "Exception", .type "BaseException", .type "object"] = some (some (.builtin "ValueError.__init__")) := HX.Look.eq c 205 rfl
  obtain ⟨_, _, _, _, _, _, coBN, vsBN, fiBN⟩ := HX.file_ok (HX.Look.bit c 206 rfl)
  obtain ⟨_, _, _, ceBN⟩ := HX.cell_ok (HX.Look.bit c 207 rfl)
  have suBN : PySem.W.mroIn K (He.ga K "BadNumber") (.ref (He.ga K "BadNumber")) = some true := HX.Look.eq c 208 rfl
  have anBN : PySem.W.nsIn K cStatics "thirdparty.any" = some none := HX.Look.eq c 209 rfl
  have svBN : PySem.W.subIn K (.ref (He.ga K "BadNumber")) (.type "ValueError") = some true := HX.Look.eq c 210 rfl
  have toBN : (PySem.Challenge.rw_drawerlocks_k31_deeper_refused.prog.main.scope.names.lookup ("super" : Str)).isSome = false := by first | rfl | decide +kernel
  have xgBN : PySem.W.findIn K (.ref (He.ga K "BadNumber")) "__getattribute__" = some (some (.builtin "BaseException.__getattribute__")) := HX.Look.eq c 211 rfl
  have xhBN : PySem.W.findIn K (.ref (He.ga K "BadNumber")) "__getattr__" = some none := HX.Look.eq c 212 rfl
  have xdBN : PySem.W.hasDictIn K (He.ga K "BadNumber") = true := HX.Look.bit c 213 rfl
  have atBN : PySem.W.findIn K (.ref (He.ga K "BadNumber")) "n" = some none := HX.Look.eq c 214 rfl
  have aTM : PySem.W.nsIn K mainGlobals "TooMany" = some (some (.ref (He.ga K "TooMany"))) := HX.Look.eq c 215 rfl
  obtain ⟨_, _, _, _, _, _, _, _, _, _, _, _, _, _, lTM⟩ := HX.ex_ok (HX.Look.bit c 216 rfl)
  have saTM : PySem.W.findIn K (.ref (He.ga K "TooMany")) "__setattr__" = some (some (.builtin "object.__setattr__")) := HX.Look.eq c 217 rfl
  have bTM : PySem.W.subIn K (.ref (He.ga K "TooMany")) (.type "BaseException") = some true := HX.Look.eq c 218 rfl
  have tTM : PySem.W.typeIn K (.ref (He.ga K "TooMany")) = some (.type "type") := HX.Look.eq c 219 rfl
  have kTM : PySem.W.keepIn K (.ref (He.ga K "TooMany")) = true := HX.Look.bit c 220 rfl
  have inTM : PySem.W.findIn K (.ref (He.ga K "TooMany")) "__init__" = some (some (.ref (He.ma K (He.ga K "TooMany") "__init__"))) := HX.Look.eq c 221 rfl
  have tyTM : PySem.W.typeIn K (.ref (He.ma K (He.ga K "TooMany") "__init__")) = some (.type "function") := HX.Look.eq c 222 rfl
  obtain ⟨_, _, _, _, _, _, _, _, lfTM, cdTM⟩ := HX.fd_super (d := fd45) rfl (HX.Look.def_ c 45 rfl) (HX.Look.bit c 223 rfl) (HX.Look.bit c 224 rfl)
  have alTM : PySem.W.alongIn K "__init__" [.ref (He.ga K "DrawerError"), .type "ValueError", .type "Exception", .type "BaseException", .type "object"] = some (some (.builtin "ValueError.__init__")) := HX.Look.eq c 205 rfl
  obtain ⟨_, _, _, _, _, _, coTM, vsTM, fiTM⟩ := HX.file_ok (HX.Look.bit c 225 rfl)
  obtain ⟨_, _, _, ceTM⟩ := HX.cell_ok (HX.Look.bit c 226 rfl)
  have suTM : PySem.W.mroIn K (He.ga K "TooMany") (.ref (He.ga K "TooMany")) = some true := HX.Look.eq c 227 rfl
  have svTM : PySem.W.subIn K (.ref (He.ga K "TooMany")) (.type "ValueError") = some true := HX.Look.eq c 228 rfl
  have xgTM : PySem.W.findIn K (.ref (He.ga K "TooMany")) "__getattribute__" = some (some (.builtin "BaseException.__getattribute__")) := HX.Look.eq c 229 rfl
  have xhTM : PySem.W.findIn K (.ref (He.ga K "TooMany")) "__getattr__" = some none := HX.Look.eq c 230 rfl
  have xdTM : PySem.W.hasDictIn K (He.ga K "TooMany") = true := HX.Look.bit c 231 rfl
  have atTM : PySem.W.findIn K (.ref (He.ga K "TooMany")) "most" = some none := HX.Look.eq c 232 rfl
  have aSe : PySem.W.nsIn K mainGlobals "BadSeen" = some (some (.ref (He.ga K "BadSeen"))) := HX.Look.eq c 233 rfl
  obtain ⟨_, _, _, _, _, _, _, _, _, _, _, _, _, _, lSe⟩ := HX.ex_ok (HX.Look.bit c 234 rfl)
  have saSe : PySem.W.findIn K (.ref (He.ga K "BadSeen")) "__setattr__" = some (some (.builtin "object.__setattr__")) := HX.Look.eq c 235 rfl
  have bSe : PySem.W.subIn K (.ref (He.ga K "BadSeen")) (.type "BaseException") = some true := HX.Look.eq c 236 rfl
  have tSe : PySem.W.typeIn K (.ref (He.ga K "BadSeen")) = some (.type "type") := HX.Look.eq c 237 rfl
  have kSe : PySem.W.keepIn K (.ref (He.ga K "BadSeen")) = true := HX.Look.bit c 238 rfl
  have inSe : PySem.W.findIn K (.ref (He.ga K "BadSeen")) "__init__" = some (some (.ref (He.ma K (He.ga K "BadSeen") "__init__"))) := HX.Look.eq c 239 rfl
  have tySe : PySem.W.typeIn K (.ref (He.ma K (He.ga K "BadSeen") "__init__")) = some (.type "function") := HX.Look.eq c 240 rfl
  obtain ⟨_, _, _, _, _, _, _, _, lfSe, cdSe⟩ := HX.fd_super (d := fd46) rfl (HX.Look.def_ c 46 rfl) (HX.Look.bit c 241 rfl) (HX.Look.bit c 242 rfl)
  have alSe : PySem.W.alongIn K "__init__" [.ref (He.ga K "DrawerError"), .type "ValueError", .type "Exception", .type "BaseException", .type "object"] = some (some (.builtin "ValueError.__init__")) := HX.Look.eq c 205 rfl
  obtain ⟨_, _, _, _, _, _, coSe, vsSe, fiSe⟩ := HX.file_ok (HX.Look.bit c 243 rfl)
  obtain ⟨_, _, _, ceSe⟩ := HX.cell_ok (HX.Look.bit c 244 rfl)
  have suSe : PySem.W.mroIn K (He.ga K "BadSeen") (.ref (He.ga K "BadSeen")) = some true := HX.Look.eq c 245 rfl
  have svSe : PySem.W.subIn K (.ref (He.ga K "BadSeen")) (.type "ValueError") = some true := HX.Look.eq c 246 rfl
  have xgSe : PySem.W.findIn K (.ref (He.ga K "BadSeen")) "__getattribute__" = some (some (.builtin "BaseException.__getattribute__")) := HX.Look.eq c 247 rfl
  have xhSe : PySem.W.findIn K (.ref (He.ga K "BadSeen")) "__getattr__" = some none := HX.Look.eq c 248 rfl
  have xdSe : PySem.W.hasDictIn K (He.ga K "BadSeen") = true := HX.Look.bit c 249 rfl
  have atSe : PySem.W.findIn K (.ref (He.ga K "BadSeen")) "index" = some none := HX.Look.eq c 250 rfl
  obtain ⟨_, aMC⟩ := HX.int_ok (HX.Look.bit c 251 rfl)
  obtain ⟨_, aMS⟩ := HX.int_ok (HX.Look.bit c 252 rfl)
  obtain ⟨_, aQC⟩ := HX.int_ok (HX.Look.bit c 253 rfl)
  obtain ⟨_, aQL⟩ := HX.int_ok (HX.Look.bit c 254 rfl)
  obtain ⟨_, aQD⟩ := HX.int_ok (HX.Look.bit c 255 rfl)
  have kcN : PySem.W.kitOne K (.type "NoneType") (.ref (He.ga K "Cabinet")) = some false := HX.Look.eq c 256 rfl
  have kcI : PySem.W.kitOne K (.type "int") (.ref (He.ga K "Cabinet")) = some false := HX.Look.eq c 257 rfl
  have kcB : PySem.W.kitOne K (.type "bool") (.ref (He.ga K "Cabinet")) = some false := HX.Look.eq c 258 rfl
  have kcT : PySem.W.kitOne K (.type "tuple") (.ref (He.ga K "Cabinet")) = some false := HX.Look.eq c 259 rfl
  have kcS : PySem.W.kitOne K (.type "str") (.ref (He.ga K "Cabinet")) = some false := HX.Look.eq c 260 rfl
  have kcD : PySem.W.kitOne K (.type "dict") (.ref (He.ga K "Cabinet")) = some false := HX.Look.eq c 261 rfl
  have uAp : ([(He.ga K "BadCabinet"), (He.ga K "BadPattern"), (He.ga K "BadCosts"), (He.ga K "BadStanding"), (He.ga K "BadSeen"), (He.ga K "TooMany"), (He.ga K "BadNumber"), (He.ga K "BadOrder")].map fun a => [(He.ga K "BadCabinet"), (He.ga K "BadPattern"), (He.ga K "BadCosts"), (He.ga K "BadStanding"), (He.ga K "BadSeen"), (He.ga K "TooMany"), (He.ga K "BadNumber"), (He.ga K "BadOrder")].map fun b => PySem.W.subIn K (.ref a) (.ref b)) = (List.range 8).map fun i => (List.range 8).map fun j => some (decide (i = j)) := HX.Look.eq c 262 rfl
  have uBs : ([(He.ga K "BadCabinet"), (He.ga K "BadPattern"), (He.ga K "BadCosts"), (He.ga K "BadStanding"), (He.ga K "BadSeen"), (He.ga K "TooMany"), (He.ga K "BadNumber"), (He.ga K "BadOrder")].map fun b => PySem.W.subIn K (.ref b) (.type "BaseException")) = List.replicate 8 (some true) := HX.Look.eq c 263 rfl
  have uCs : ([(He.ga K "BadCabinet"), (He.ga K "BadPattern"), (He.ga K "BadCosts"), (He.ga K "BadStanding"), (He.ga K "BadSeen"), (He.ga K "TooMany"), (He.ga K "BadNumber"), (He.ga K "BadOrder")].map fun b => PySem.W.isClsIn K b) = List.replicate 8 true := HX.Look.eq c 264 rfl
  have uTs : ([(He.ga K "BadCabinet"), (He.ga K "BadPattern"), (He.ga K "BadCosts"), (He.ga K "BadStanding"), (He.ga K "BadSeen"), (He.ga K "TooMany"), (He.ga K "BadNumber"), (He.ga K "BadOrder")].map fun b => PySem.W.typeIn K (.ref b)) = List.replicate 8 (some (.type "type")) := HX.Look.eq c 265 rfl
  exact DL.all_mk (l := PySem.Challenge.rw_drawerlocks_k31_deeper_refused) KX G hmg a_is_integer l_is_integer c_is_integer k_is_integer a_is_drawer_count l_is_drawer_count c_is_drawer_count k_is_drawer_count a_is_drawer l_is_drawer c_is_drawer k_is_drawer a_is_bar l_is_bar c_is_bar k_is_bar a_check_drawers l_check_drawers c_check_drawers k_check_drawers a_check_bars l_check_bars c_check_bars k_check_bars a__law_taken l__law_taken c__law_taken k__law_taken a__law_parts l__law_parts c__law_parts k__law_parts a__law_made l__law_made c__law_made k__law_made a_has_signs l_has_signs c_has_signs k_has_signs a_is_standing l_is_standing c_is_standing k_is_standing a_is_pattern l_is_pattern c_is_pattern k_is_pattern a_check_cabinet l_check_cabinet c_check_cabinet k_check_cabinet a_check_standing l_check_standing c_check_standing k_check_standing a_check_pattern l_check_pattern c_check_pattern k_check_pattern a_check_number l_check_number c_check_number k_check_number a_check_few_drawers l_check_few_drawers c_check_few_drawers k_check_few_drawers a_is_costs l_is_costs c_is_costs k_is_costs a_check_costs l_check_costs c_check_costs k_check_costs a_is_order l_is_order c_is_order k_is_order a_check_order l_check_order c_check_order k_check_order a_check_seen l_check_seen c_check_seen k_check_seen a_first_ring l_first_ring c_first_ring k_first_ring a_longest_row l_longest_row c_longest_row k_longest_row a_keeping l_keeping c_keeping k_keeping a_force l_force c_force k_force a_plan l_plan c_plan k_plan a_plan_depth l_plan_depth c_plan_depth k_plan_depth a_cheapest l_cheapest c_cheapest k_cheapest a_ring_at l_ring_at c_ring_at k_ring_at a_first_fit l_first_fit c_first_fit k_first_fit a_fits_many l_fits_many c_fits_many k_fits_many a_stands_after l_stands_after c_stands_after k_stands_after a_sure_pulls l_sure_pulls c_sure_pulls k_sure_pulls a_count_rest l_count_rest c_count_rest k_count_rest a_renamed l_renamed c_renamed k_renamed a__law_odd l__law_odd c__law_odd k__law_odd a__law_odd_standing l__law_odd_standing c__law_odd_standing k__law_odd_standing a__law_call l__law_call c__law_call k__law_call a__law_refused l__law_refused c__law_refused k__law_refused a_law l_law c_law k_law aC pg hd po sa mk kc nD nB a_Cabinet___init__ l_Cabinet___init__ c_Cabinet___init__ k_Cabinet___init__ i_init pa_drawers pg_drawers pt_drawers pr_drawers l_Cabinet_drawers c_Cabinet_drawers k_Cabinet_drawers pa_bars pg_bars pt_bars pr_bars l_Cabinet_bars c_Cabinet_bars k_Cabinet_bars ci1 ci2 ci3 ci4 ci5 z_isinstance z_int z_bool z_tuple z_len z_enumerate z_range z_sorted z_str z_all z_super z_list aM aW lW aST aSS aSd xSd kSd bSd tSd aPt xPt kPt bPt tPt aCb xCb kCb bCb tCb aCo xCo kCo bCo tCo aOr xOr kOr bOr tOr aBN lBN saBN bBN tBN kBN inBN tyBN lfBN cdBN alBN coBN vsBN fiBN ceBN suBN anBN svBN toBN xgBN xhBN xdBN atBN aTM lTM saTM bTM tTM kTM inTM tyTM lfTM cdTM alTM coTM vsTM fiTM ceTM suTM svTM xgTM xhTM xdTM atTM aSe lSe saSe bSe tSe kSe inSe tySe lfSe cdSe alSe coSe vsSe fiSe ceSe suSe svSe xgSe xhSe xdSe atSe aMC aMS aQC aQL aQD kcN kcI kcB kcT kcS kcD uAp uBs uCs uTs
end HDG
open PySem PySem.W PySem.Calls PyProof.Rows
theorem PySem.Challenge.cw_drawerlocks_k31_deeper_refused_holds : PySem.Challenge.rw_drawerlocks_k31_deeper_refused.Holds := by
  w_on; o_law
  refine HandSHeadRun.head_imp (r := OpenLaw.row PySem.Challenge.rw_drawerlocks_k31_deeper_refused) (q := view (OpenLaw.row PySem.Challenge.rw_drawerlocks_k31_deeper_refused).prog [0, 1, 102]) (H := HDG.hk) (ob := HDG.ob) (M := 60000) (loose := HDG.loose) (d := HandSHeadRun.topDef (OpenLaw.row PySem.Challenge.rw_drawerlocks_k31_deeper_refused).prog 102) (kwd := []) HDG.ob_eq
    HDG.run (by kernel_rfl) (by kernel_rfl) (by kernel_rfl) (by rfl) (by first | assumption | decide +kernel) (by decide +kernel) ⟨rfl, rfl, rfl, rfl, rfl, by decide +kernel⟩ ?hw ?hc
  case hw => w_witness2
  case hc =>
    refine L2.walk_ofE (l := PySem.Challenge.rw_drawerlocks_k31_deeper_refused) (n := 63) (k := 12) (x := "_law_script") (CX := L2.CX0) rfl (by decide) (by kernel_rfl) ⟨rfl, by decide, by decide⟩ ?F (fun _ _ _ _ z => z)
    intro w mg fa h Y G hmg0
    obtain ⟨K, KX, c⟩ := Y
    have hmg : mg ("law" : PySem.Str) = some (.ref fa) := by
      have e : (HandSHeadRun.topDef (OpenLaw.row PySem.Challenge.rw_drawerlocks_k31_deeper_refused).prog 102).name = ("law" : PySem.Str) := by kernel_rfl
      rw [← e]
      exact hmg0
    obtain ⟨fd, hb, hF⟩ := HDG.facts (w := w) KX G hmg c
    exact ⟨K, fd, DL.spLaw31 K, KX, hb, fun H a ns hl _ hS => ⟨a, ns, rfl, hS, hl, fun _ => rfl⟩, hF⟩
