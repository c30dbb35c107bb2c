import PyProof.Rows.All
import Wide.All
import OpenK.AllK
import Wide.FinOn
import HandS.ForMost
import HandS.ForExc
import HandS.TupLe
import HandS.TupAny
import HandS.SortOrd
import HandS.SortRule
import HandS.IsInst
import HandS.Conv
import HandS.Wide
import HandS.Property
import HandS.Deep
import HandS.Walk
import HandS.Zip
import HandS.Flow
import KE.GoesEnum
import PySem.Challenge.RW_drawerlocks_k23_whole_desks
import KE.KSuper
import KE.KExcSuper
import HandS.ClsMeth
import HandS.ExcInit
import HandS.WordsExc
import HandS.FStr
import HandS.Replace
import HandS.More
import HandS.TryOnly
import HandS.SlotsOwn
import KE.GoesZip
import HandS.ExcOwn
import HandS.TryMany
import HandS.ExcField
import HandS.TupMul
import OpenK.KOps
import HandS.Codes
set_option Elab.async false
set_option maxRecDepth 100000
namespace DL
open PySem PySem.Spec PyProof.Rows L2
/-! ### bars: four parts; the words as truth values (true: shut) -/
structure Bar where
  d : Int
  w : Bool
  o : Int
  t : Bool
deriving DecidableEq
def wd (b : Bool) : Str := if b = true then "shut" else "open"
theorem wd_inj : ∀ {a b : Bool}, wd a = wd b → a = b := by decide +kernel
theorem wd_lt : ∀ a b : Bool, decide ((wd a).cps.toList < (wd b).cps.toList) = (!a && b) := by decide +kernel
theorem wd_dec : ∀ a : Bool, decide (wd a = "shut") = a := by decide +kernel
def Bar.key (b : Bar) : List Key := [.inl b.d, .inr (wd b.w), .inl b.o, .inr (wd b.t)]
def Bar.vs (b : Bar) : List V := [.int b.d, .str (wd b.w), .int b.o, .str (wd b.t)]
def b2n (b : Bool) : Int := if b = true then 1 else 0
theorem b2n_le (b : Bool) : 0 ≤ b2n b ∧ b2n b ≤ 1 := by cases b <;> decide
theorem b2n_inj {a b : Bool} (h : b2n a = b2n b) : a = b := by revert h; revert a b; decide
def Bar.code (b : Bar) : Int := ((b.d * 2 + b2n b.w) * 8 + b.o) * 2 + b2n b.t
/-- the parts lie where a bar of at most eight drawers has them -/
def Bar.low (b : Bar) : Prop := 0 ≤ b.d ∧ b.d < 8 ∧ 0 ≤ b.o ∧ b.o < 8
theorem Bar.ext4 {a b : Bar} (h1 : a.d = b.d) (h2 : a.w = b.w) (h3 : a.o = b.o) (h4 : a.t = b.t) : a = b := by
  cases a; cases b; simp only at h1 h2 h3 h4; subst h1 h2 h3 h4; rfl
theorem Bar.code_inj {a b : Bar} (ha : a.low) (hb : b.low) (h : a.code = b.code) : a = b := by
  unfold Bar.low at ha hb
  unfold Bar.code at h
  have w1 := b2n_le a.w; have w2 := b2n_le b.w; have t1 := b2n_le a.t; have t2 := b2n_le b.t
  exact Bar.ext4 (by omega) (b2n_inj (by omega)) (by omega) (b2n_inj (by omega))
/-- what a < b of two such tuples comes to -/
def Bar.ltb (a b : Bar) : Bool := if a.d = b.d then (if a.w = b.w then (if a.o = b.o then (!a.t && b.t) else decide (a.o < b.o)) else (!a.w && b.w)) else decide (a.d < b.d)
theorem Bar.ltb_code {a b : Bar} (ha : a.low) (hb : b.low) : a.ltb b = decide (a.code < b.code) := by
  obtain ⟨ad, aw, ao, at'⟩ := a
  obtain ⟨bd, bw, bo, bt⟩ := b
  unfold Bar.low at ha hb
  unfold Bar.ltb Bar.code b2n
  simp only at ha hb ⊢
  by_cases h1 : ad = bd
  · rw [if_pos h1]
    by_cases h2 : aw = bw
    · rw [if_pos h2]
      by_cases h3 : ao = bo
      · rw [if_pos h3]
        subst h1 h2 h3
        cases at' <;> cases bt <;> simp <;> omega
      · rw [if_neg h3]
        subst h1 h2
        cases at' <;> cases bt <;> simp <;> omega
    · rw [if_neg h2]
      subst h1
      cases aw <;> cases bw <;> cases at' <;> cases bt <;> simp at h2 ⊢ <;> omega
  · rw [if_neg h1]
    cases aw <;> cases bw <;> cases at' <;> cases bt <;> simp <;> omega
/-- a bar read back -/
def barOf : List V → Bar
  | [.int d, .str w, .int o, .str t] => ⟨d, decide (w = "shut"), o, decide (t = "shut")⟩
  | _ => ⟨0, false, 0, false⟩
theorem barOf_vs (b : Bar) : barOf b.vs = b := by
  show (⟨b.d, decide (wd b.w = "shut"), b.o, decide (wd b.t = "shut")⟩ : Bar) = b
  rw [wd_dec, wd_dec]
/-- the bar that stands at an address of the heap -/
def barAt (H : Hp) : V → Bar
  | .ref a => (match H a with | some (.tup xs) => barOf xs | _ => ⟨0, false, 0, false⟩)
  | _ => ⟨0, false, 0, false⟩
theorem barAt_of {H : Hp} {a : Addr} {b : Bar} (h : H a = some (.tup b.vs)) : barAt H (.ref a) = b := by
  show (match H a with | some (.tup xs) => barOf xs | _ => ⟨0, false, 0, false⟩) = b
  rw [h]; exact barOf_vs b
/-! ### sorted(d), d a dict whose keys are such tuples -/
def IsBarV (h : Heap) (v : Value) (b : Bar) : Prop := ∃ a o t1 t2 t3 t4 n, v = .ref a ∧ h.get? a = some o ∧ o.cls = .type "tuple" ∧ o.data = .seq #[.int b.d t1, .str (wd b.w) t2, .int b.o t3, .str (wd b.t) t4] n
theorem IsBarV.keeps {h h' : Heap} {v : Value} {b : Bar} (p : IsBarV h v b) (k : ∀ c o, h.get? c = some o → o.cls = .type "tuple" → h'.get? c = some o) : IsBarV h' v b := by
  obtain ⟨a, o, t1, t2, t3, t4, n, e, ho, hc, hd⟩ := p
  exact ⟨a, o, t1, t2, t3, t4, n, e, k _ _ ho hc, hc, hd⟩
section
variable {prog : Program} {w : World} {A : Around} {E : Value → Shared → Prop} {s : Shared}
theorem oneLt_words (c : Bool) {p q : Str} {t u : Tok} {Q : Bool → Shared → Prop} (h : c = false) (hq : Q (decide (p.cps.toList < q.cps.toList)) s) : wpAny (model prog w) A (oneLt' c (.str p t) (.str q u)) Q E s := by
  subst h
  exact PySem.W.kat_one _ _ (PyProof.Rows.lt_str hq)
theorem bar_cmp {vs : List Value} {kb : Value → Bar} (hp : ∀ v ∈ vs, IsBarV s.heap v (kb v) ∧ (kb v).low) : SrtO.Cmp prog w A s (tuples' true) (fun p => p.1 ∈ vs) (SrtO.lt2 fun v u => decide ((kb v).code < (kb u).code)) := by
  intro p q hm hm'
  obtain ⟨h1, l1⟩ := hp _ hm
  obtain ⟨h2, l2⟩ := hp _ hm'
  show wpAny (model prog w) A (keyLt' (tuples' true) p.1 q.1) (fun r s' => s' = s ∧ r = decide ((kb p.1).code < (kb q.1).code)) (fun _ _ => False) s
  generalize kb p.1 = x at h1 l1 ⊢
  generalize kb q.1 = y at h2 l2 ⊢
  rw [← Bar.ltb_code l1 l2]
  obtain ⟨a, o, t1, t2, t3, t4, n, e, ho, hc, hd⟩ := h1
  obtain ⟨a', o', t1', t2', t3', t4', n', e', ho', hc', hd'⟩ := h2
  rw [e, e']
  refine PySem.W.kat_lt ho hd ho' hd' ?_
  show PySem.W.KatLex prog w A true (decide (4 < 4)) _ [(.int x.d t1, .int y.d t1'), (.str (wd x.w) t2, .str (wd y.w) t2'), (.int x.o t3, .int y.o t3'), (.str (wd x.t) t4, .str (wd y.t) t4')] 0 s
  refine PySem.W.kat_cons (SeqAt.EqAt.int_int x.d t1 y.d t1' prog w _ _ ?_)
  refine PySem.W.kat_go (fun e1 => ?_) (fun e1 => ?_)
  · have e1' : x.d = y.d := by simpa using e1
    refine PySem.W.kat_yes (PySem.W.kat_cons (wpAny_eqBool_str ?_))
    refine PySem.W.kat_go (fun e2 => ?_) (fun e2 => ?_)
    · have e2' : x.w = y.w := wd_inj (by simpa using e2)
      refine PySem.W.kat_yes (PySem.W.kat_cons (SeqAt.EqAt.int_int x.o t3 y.o t3' prog w _ _ ?_))
      refine PySem.W.kat_go (fun e3 => ?_) (fun e3 => ?_)
      · have e3' : x.o = y.o := by simpa using e3
        refine PySem.W.kat_yes (PySem.W.kat_cons (wpAny_eqBool_str ?_))
        refine PySem.W.kat_go (fun e4 => ?_) (fun e4 => ?_)
        · have e4' : x.t = y.t := wd_inj (by simpa using e4)
          refine PySem.W.kat_yes (PySem.W.kat_nil ⟨rfl, ?_⟩)
          unfold Bar.ltb
          rw [if_pos e1', if_pos e2', if_pos e3', e4']
          cases y.t <;> rfl
        · refine PySem.W.kat_no (oneLt_words _ rfl ⟨rfl, ?_⟩)
          unfold Bar.ltb
          rw [if_pos e1', if_pos e2', if_pos e3', wd_lt]
      · have e3' : ¬ x.o = y.o := by simpa using e3
        refine PySem.W.kat_no (PySem.W.kat_one _ _ (PyProof.Rows.lt_int ?_))
        refine (show s = s ∧ decide (x.o < y.o) = x.ltb y from ⟨rfl, ?_⟩)
        unfold Bar.ltb
        rw [if_pos e1', if_pos e2', if_neg e3']
    · have e2' : ¬ x.w = y.w := fun z => by rw [z] at e2; simp at e2
      refine PySem.W.kat_no (oneLt_words _ rfl ⟨rfl, ?_⟩)
      unfold Bar.ltb
      rw [if_pos e1', if_neg e2', wd_lt]
  · have e1' : ¬ x.d = y.d := by simpa using e1
    refine PySem.W.kat_no (oneLt_int ⟨rfl, ?_⟩)
    unfold Bar.ltb
    rw [if_neg e1']
theorem bar_firsts {h : Heap} : ∀ {vs : List Value}, (∀ v ∈ vs, ∃ b, IsBarV h v b) → ∃ fs : List Value, PySem.W.KatTups h vs fs ∧ fs.length = vs.length ∧ ∀ f ∈ fs, ∃ x t, f = Value.int x t
  | [], _ => ⟨[], PySem.W.KatTups.nil, rfl, fun _ hm => by simp at hm⟩
  | v :: vs, hp => by
    obtain ⟨fs, h1, h2, h3⟩ := bar_firsts (vs := vs) fun v' hm => hp v' (List.mem_cons_of_mem _ hm)
    obtain ⟨b, a, o, t1, t2, t3, t4, n, e, ho, hc, hd⟩ := hp v (List.mem_cons_self ..)
    subst e
    refine ⟨.int b.d t1 :: fs, PySem.W.KatTups.cons ho hc hd rfl h1, by rw [List.length_cons, List.length_cons, h2], fun f hm => ?_⟩
    rcases List.mem_cons.mp hm with rfl | hm
    · exact ⟨b.d, t1, rfl⟩
    · exact h3 f hm
theorem swo_code (kb : Value → Bar) : SrtO.Swo fun v u => decide ((kb v).code < (kb u).code) := by
  refine ⟨fun x y h => ?_, fun x y z h1 h2 => ?_⟩
  · have a := of_decide_eq_true h
    exact decide_eq_false (by omega)
  · have a := of_decide_eq_false h1
    have b := of_decide_eq_false h2
    exact decide_eq_false (by omega)
theorem bars_sortableO {a : Addr} {vs : List Value} {kb : Value → Bar} (h0 : 0 < vs.length) (hp : ∀ v ∈ vs, IsBarV s.heap v (kb v) ∧ (kb v).low) (ha : ∀ o, s.heap.get? a = some o → o.cls ≠ .type "tuple") :
    SrtO.SortableO prog w A s a vs fun v u => decide ((kb v).code < (kb u).code) := by
  intro h' keep
  have hp' : ∀ v ∈ vs, IsBarV h' v (kb v) ∧ (kb v).low := fun v hm => ⟨(hp v hm).1.keeps fun b o e c => keep b o (fun z => by subst z; exact ha o e c) e, (hp v hm).2⟩
  obtain ⟨fs, h1, h2, h3⟩ := bar_firsts fun v hm => ⟨_, (hp' v hm).1⟩
  refine ⟨tuples' true, fun Q E hq => ?_, bar_cmp hp'⟩
  refine PySem.W.kat_kind (T := .type "int") h1 (by omega) (fun f hm => ?_) (by rfl) ?_
  · obtain ⟨x, t, rfl⟩ := h3 f hm
    exact PySem.W.Looks.now
  · have e : (Value.type "int" != Value.type "tuple") = true := by first | decide +kernel | rfl | decide
    rw [e]
    exact hq
end
/-- sorted(d): the keys' own tuples, by their codes -/
def rSortB : List V → Hp → VK → Prop := fun xs H Q => ∃ (d : Addr) (kvs : List (List Key × V)) (bs : List Bar), xs = [V.ref d] ∧ Rd H d (.dT kvs) ∧ kvs.map (·.1) = bs.map Bar.key ∧ (∀ b ∈ bs, b.low) ∧
  ∀ (ks : List (Addr × Bar)) (p : Addr), (∀ k ∈ ks, H k.1 = some (.tup k.2.vs)) → (ks.map (·.2)).Perm bs → (ks.map (·.2)).Pairwise (fun x y => x.code ≤ y.code) → H p = none → Q (.ref p) (upd H p (.lst (ks.map fun k => V.ref k.1)))
theorem keys_bars : ∀ {H : Hp} {kvs : List (List Key × V)} {as : List Addr} {bs : List Bar}, IsKeys H kvs as → kvs.map (·.1) = bs.map Bar.key → (∀ a ∈ as, ∃ b ∈ bs, H a = some (.tup b.vs)) ∧ (as.map V.ref).map (barAt H) = bs := by
  intro H kvs as bs ik
  unfold IsKeys at ik
  induction ik generalizing bs with
  | nil =>
    intro e
    cases bs with
    | nil => exact ⟨fun a ha => by simp at ha, rfl⟩
    | cons b bs => simp at e
  | @cons kv a kvs' as' h t ih =>
    intro e
    cases bs with
    | nil => simp at e
    | cons b bs =>
      rw [List.map_cons, List.map_cons] at e
      injection e with e1 e2
      obtain ⟨i1, i2⟩ := ih e2
      have hb : H a = some (.tup b.vs) := by rw [h, e1]; rfl
      refine ⟨fun c hc => ?_, ?_⟩
      · rcases List.mem_cons.mp hc with rfl | hc
        · exact ⟨b, List.mem_cons_self, hb⟩
        · obtain ⟨b', m, q⟩ := i1 c hc
          exact ⟨b', List.mem_cons_of_mem _ m, q⟩
      · rw [List.map_cons, List.map_cons, i2, barAt_of hb]
section
variable {X : Cx}
theorem cr_sortB (hcalm : X.calm = true) : CallR X (.builtin "sorted") rSortB := by
  intro pins s σ H xs us Q I r h
  obtain ⟨d, kvs, bs, rfl, hd, hks, hlow, q⟩ := h
  obtain ⟨u, rfl, rx⟩ := r.one
  obtain rfl : u = Value.ref d := rx
  obtain ⟨z, hs, ks, pr, o, es, ep, ho, hx, hdt, he, hn⟩ := (show ObjOk X.prog X.w H s.heap d (.dT kvs) from hd.ok I.hok)
  have l1 : es.size = ks.length := size_of_entries he
  have l2 : kvs.length = ks.length := Paired.length pr
  refine Calls.call_function_entry PyProof.Rows.kind_sorted PyProof.Rows.plain_sorted PyProof.Rows.entry_sorted (PyProof.Rows.args_sorted1 _) ?_
  unfold Builtin.«sorted»
  refine wpAny_bind (m := checkCount "sorted" 1 1 _) (wpAny_pure ?_)
  refine wpAny_bind (PySem.W.kdu_collect (A := X.A.in1) (kdl_raw hs hx hdt) (I.ok.hd hcalm) ho (by omega) fun h' tk acc hk it => ?_)
  have ea : acc.toList = ks.map fun x => Value.ref x.2.1 := by
    have hl : acc.toList.length = ks.length := by rw [Array.length_toList, it.1]; exact l1
    apply List.ext_getElem?
    intro j
    rw [List.getElem?_map]
    cases hj : acc.toList[j]? with
    | none =>
      have h1 := List.getElem?_eq_none_iff.mp hj
      rw [List.getElem?_eq_none (by omega)]
      all_goals rfl
    | some v =>
      obtain ⟨en, hen, hv⟩ := it.2 j v (by rw [← Array.getElem?_toList]; exact hj)
      have qe := entry_at he j
      rw [hen] at qe
      cases hb : ks[j]? with
      | none =>
        rw [hb] at qe
        exact nomatch (show some en = none from qe)
      | some b =>
        rw [hb] at qe
        have e2 : en = entryOfKey (tupleKind (mixKind X.prog X.w)) b := Option.some.inj qe
        rw [hv, e2]
        all_goals rfl
  have ik : IsKeys H kvs (ks.map fun x => x.2.1) := isKeys_of pr
  obtain ⟨kb1, kb2⟩ := keys_bars ik hks
  generalize has : (ks.map fun x => x.2.1) = as at ik kb1 kb2
  have ea' : acc.toList = as.map Value.ref := by rw [ea, ← has, List.map_map]; rfl
  have hal : acc.toList.length = as.length := by rw [ea', List.length_map]
  have hasz : as.length ≤ sizeLine := by rw [← has, List.length_map]; omega
  have I1 : Inv X pins σ H { s with heap := h', toks := tk } := I.kept hk
  refine wpAny_bind (wpAny_newList ?_ (by rw [hal]; exact hasz))
  have hoL : (h'.push (seqObj "list" acc.toList.toArray 0)).get? h'.objs.size = some (seqObj "list" acc.toList.toArray 0) := Heap.get?_push_size _ rfl
  show wpAny _ _ _ _ _ { s with heap := h'.push (seqObj "list" acc.toList.toArray 0), toks := tk }
  have hbar : ∀ v ∈ acc.toList, IsBarV h' v (barAt H (backV v)) ∧ (barAt H (backV v)).low := fun v hv => by
    rw [ea'] at hv
    obtain ⟨a, ham, rfl⟩ := List.mem_map.mp hv
    obtain ⟨b, hbm, hHa⟩ := kb1 a ham
    have e1 : barAt H (backV (Value.ref a)) = b := barAt_of hHa
    rw [e1]
    refine ⟨?_, hlow b hbm⟩
    obtain ⟨_, its, rv, oo, h1, h2, n, h3⟩ := (show ObjOk X.prog X.w H h' a (.tup b.vs) from I1.hok a _ hHa)
    cases rv with
    | cons r1 rv =>
      cases rv with
      | cons r2 rv =>
        cases rv with
        | cons r3 rv =>
          cases rv with
          | cons r4 rv =>
            cases rv
            obtain ⟨t1, rfl⟩ := r1
            obtain ⟨t2, rfl⟩ := r2
            obtain ⟨t3, rfl⟩ := r3
            obtain ⟨t4, rfl⟩ := r4
            exact ⟨a, oo, t1, t2, t3, t4, n, rfl, h1, h2, h3⟩
  refine wpAny_bind (wpAny_holding (wpAny_call_entry PyProof.Rows.slot_list_sort ⟨_, hoL, rfl⟩ PyProof.Rows.entry_list_sort
    (SrtO.list_sort_ord (s := { s with heap := h'.push (seqObj "list" acc.toList.toArray 0), toks := tk }) (swo_code fun v => barAt H (backV v)) hoL (by rw [hal]; exact hasz) (fun h2 => ?_) fun out hs hb => ⟨_, rfl, ?_⟩)
    (PyProof.Rows.args_list_sort _)))
  · refine bars_sortableO (by omega) (fun v hv => ⟨(hbar v hv).1.keeps fun c oo e _ => Heap.get?_push_of_some _ e, (hbar v hv).2⟩) fun oo e => ?_
    have e' : some oo = some (seqObj "list" acc.toList.toArray 0) := e.symm.trans hoL
    cases e'
    intro c
    exact absurd (Value.type.inj c) (by decide)
  · obtain ⟨e', he'⟩ := PyProof.Rows.sortedHeap_at (vs := acc.toList) (out := out.toArray) hoL
    have pm : out.Perm (as.map Value.ref) := by rw [← ea']; exact hb.perm
    have href : ∀ v ∈ out, ∃ a, v = Value.ref a ∧ a ∈ as := fun v hv => by
      obtain ⟨a, ha, rfl⟩ := List.mem_map.mp (pm.mem_iff.mp hv)
      exact ⟨a, rfl, ha⟩
    have e1 : out.map backV = (out.map fun v => ((match v with | .ref a => a | _ => 0 : Addr), barAt H (backV v))).map fun k => V.ref k.1 := by
      rw [List.map_map]
      refine List.map_congr_left fun v hv => ?_
      obtain ⟨a, rfl, _⟩ := href v hv
      rfl
    have e2 : (out.map fun v => ((match v with | .ref a => a | _ => 0 : Addr), barAt H (backV v))).map (·.2) = out.map fun v => barAt H (backV v) := by
      rw [List.map_map]; rfl
    have pm2 : (out.map fun v => barAt H (backV v)).Perm bs := by
      have q1 := pm.map fun v => barAt H (backV v)
      have q2 : (as.map Value.ref).map (fun v => barAt H (backV v)) = bs := by
        rw [← kb2, List.map_map, List.map_map]; rfl
      rw [q2] at q1
      exact q1
    have qq := q (out.map fun v => ((match v with | .ref a => a | _ => 0 : Addr), barAt H (backV v))) h'.objs.size (fun k hk2 => by
        obtain ⟨v, hv, rfl⟩ := List.mem_map.mp hk2
        obtain ⟨a, rfl, ha⟩ := href v hv
        obtain ⟨b, _, hH⟩ := kb1 a ha
        show H a = some (.tup (barAt H (.ref a)).vs)
        rw [barAt_of hH]
        exact hH) (by rw [e2]; exact pm2) (by
        rw [e2, List.pairwise_map]
        exact hs.imp fun {x y} q => by
          have := of_decide_eq_false q
          omega) (I1.hok.fresh (Nat.le_refl _))
    rw [← e1] at qq
    refine wpAny_pure ⟨_, rfl, .ref h'.objs.size, upd H h'.objs.size (.lst (out.map backV)), I1.laid (t' := tk) (fun b u e => ?_) (Nat.le_refl _)
      (show ObjOk X.prog X.w _ _ _ (.lst (out.map backV)) from ⟨?_, out, e', vals_back fun v hv => ?_, he'⟩), rfl, qq⟩
    · have hb : b < h'.objs.size := Heap.lt_size e
      rw [PyProof.Rows.sortedHeap_old (Nat.ne_of_lt hb) (by rw [size_push']; exact Nat.lt_succ_of_lt hb)]
      exact Heap.get?_push_of_some _ e
    · rw [List.length_map, pm.length_eq, List.length_map]
      exact hasz
    · obtain ⟨a, e, _⟩ := href v hv
      exact ⟨a, e⟩
end
end DL

set_option Elab.async false
set_option maxRecDepth 100000
namespace DL
open PySem PySem.Spec PyProof.Rows L2
/-! ### bar <= bar -/
def Bar.leb (a b : Bar) : Bool := decide (a.code ≤ b.code)
def Bar.leq (a b : Bar) : Bool := if a.d = b.d then (if a.w = b.w then (if a.o = b.o then (if a.t = b.t then true else !(!b.t && a.t)) else decide (a.o ≤ b.o)) else !(!b.w && a.w)) else decide (a.d ≤ b.d)
theorem Bar.leq_code {a b : Bar} (ha : a.low) (hb : b.low) : a.leq b = a.leb b := by
  obtain ⟨ad, aw, ao, at'⟩ := a
  obtain ⟨bd, bw, bo, bt⟩ := b
  unfold Bar.low at ha hb
  unfold Bar.leq Bar.leb Bar.code b2n
  simp only at ha hb ⊢
  by_cases h1 : ad = bd
  · rw [if_pos h1]
    by_cases h2 : aw = bw
    · rw [if_pos h2]
      by_cases h3 : ao = bo
      · rw [if_pos h3]
        subst h1 h2 h3
        cases at' <;> cases bt <;> simp <;> omega
      · rw [if_neg h3]
        subst h1 h2
        cases at' <;> cases bt <;> simp <;> omega
    · rw [if_neg h2]
      subst h1
      cases aw <;> cases bw <;> cases at' <;> cases bt <;> simp at h2 ⊢ <;> omega
  · rw [if_neg h1]
    cases aw <;> cases bw <;> cases at' <;> cases bt <;> simp <;> omega
def rLeB (K : PySem.W.Frag) : R2 := fun x y H Q => ∃ (a b : Addr) (p q : Bar), x = .ref a ∧ y = .ref b ∧ SqT K H a p.vs ∧ SqT K H b q.vs ∧ Q (.bl (p.leq q)) H
theorem four_of {p : Bar} {its : List Value} (r : Vals p.vs its) : ∃ t1 t2 t3 t4, its = [.int p.d t1, .str (wd p.w) t2, .int p.o t3, .str (wd p.t) t4] := by
  cases r with
  | cons r1 rv =>
    cases rv with
    | cons r2 rv =>
      cases rv with
      | cons r3 rv =>
        cases rv with
        | cons r4 rv =>
          cases rv
          obtain ⟨t1, rfl⟩ := r1
          obtain ⟨t2, rfl⟩ := r2
          obtain ⟨t3, rfl⟩ := r3
          obtain ⟨t4, rfl⟩ := r4
          exact ⟨t1, t2, t3, t4, rfl⟩
theorem beq_dec {α : Type} [BEq α] [LawfulBEq α] [DecidableEq α] (a b : α) : (a == b) = decide (a = b) := by
  by_cases q : a = b
  · rw [decide_eq_true q]; exact beq_iff_eq.mpr q
  · rw [decide_eq_false q]; exact beq_eq_false_iff_ne.mpr q
theorem wd_beq (a b : Bool) : ((wd a) == (wd b)) = decide (a = b) := by revert a b; decide +kernel
theorem op_leB {X : Cx} (hu : X.A.units < cLine) : OpR X (compareOp .LtE) (rLeB X.K) := by
  intro pins s σ H x y v u Q I rx ry h
  obtain ⟨a, b, p, q, rfl, rfl, ha, hb, hq⟩ := h
  cases rx
  cases ry
  obtain ⟨its, r1, p1, _⟩ := I.tuple ha
  obtain ⟨its2, r2, p2, _⟩ := I.tuple hb
  obtain ⟨t1, t2, t3, t4, rfl⟩ := four_of r1
  obtain ⟨u1, u2, u3, u4, rfl⟩ := four_of r2
  have R := Ob.RcOp.tuples_le (A := X.A) (s := s) (e := fun j => match j with | 0 => decide (p.d = q.d) | 1 => decide (p.w = q.w) | 2 => decide (p.o = q.o) | _ => decide (p.t = q.t))
    (r := fun j => match j with | 0 => decide (p.d ≤ q.d) | 1 => !(!q.w && p.w) | 2 => decide (p.o ≤ q.o) | _ => !(!q.t && p.t)) p1 p2 hu (fun j h1 h2 => by
      match j, h1, h2 with
      | 0, _, _ => show SeqAt.EqAt _ _ (.int p.d t1) (.int q.d u1) (decide (p.d = q.d)); rw [← beq_dec]; exact SeqAt.EqAt.int_int _ _ _ _
      | 1, _, _ => show SeqAt.EqAt _ _ (.str (wd p.w) t2) (.str (wd q.w) u2) (decide (p.w = q.w)); rw [← wd_beq]; exact SeqAt.EqAt.str_str _ _ _ _
      | 2, _, _ => show SeqAt.EqAt _ _ (.int p.o t3) (.int q.o u3) (decide (p.o = q.o)); rw [← beq_dec]; exact SeqAt.EqAt.int_int _ _ _ _
      | 3, _, _ => show SeqAt.EqAt _ _ (.str (wd p.t) t4) (.str (wd q.t) u4) (decide (p.t = q.t)); rw [← wd_beq]; exact SeqAt.EqAt.str_str _ _ _ _
      | n + 4, h1, _ => exact absurd (show n + 4 < 4 from h1) (by omega)) (fun j h1 h2 _ => by
      match j, h1, h2 with
      | 0, _, _ => exact Ob.RcOp.le_int _ _ _ _
      | 1, _, _ =>
        show Ob.RcOp .LtE _ _ (.str (wd p.w) t2) (.str (wd q.w) u2) (!(!q.w && p.w))
        rw [← wd_lt]
        exact fun _ _ _ _ h => PySem.P.le_str h
      | 2, _, _ => exact Ob.RcOp.le_int _ _ _ _
      | 3, _, _ =>
        show Ob.RcOp .LtE _ _ (.str (wd p.t) t4) (.str (wd q.t) u4) (!(!q.t && p.t))
        rw [← wd_lt]
        exact fun _ _ _ _ h => PySem.P.le_str h
      | n + 4, h1, _ => exact absurd (show n + 4 < 4 from h1) (by omega))
  have z : wpAny (model X.prog X.w) X.A (compareOp .LtE (.ref a) (.ref b)) (EP X pins σ Q) X.xe s := R X.prog X.w X.xe (EP X pins σ Q) (by
    refine ⟨.bl (p.leq q), H, I, ?_, hq⟩
    show Value.bool _ = Value.bool (p.leq q)
    have e : (Ob.lexAt (fun j => match j with | 0 => decide (p.d = q.d) | 1 => decide (p.w = q.w) | 2 => decide (p.o = q.o) | _ => decide (p.t = q.t))
      (fun j => match j with | 0 => decide (p.d ≤ q.d) | 1 => !(!q.w && p.w) | 2 => decide (p.o ≤ q.o) | _ => !(!q.t && p.t)) true 0 4) = p.leq q := by
      unfold Bar.leq
      simp only [Ob.lexAt, decide_eq_true_eq]
    exact congrArg Value.bool e)
  exact z
/-! ### for i, x in enumerate(t), t a tuple -/
def IteT (K : PySem.W.Frag) (a : Addr) : It :=
  ⟨fun i H => ∃ (xs : List V) (x : V), SqT K H a xs ∧ xs[i]? = some x, fun i H v H' => ∃ T x, v = .ref T ∧ H T = none ∧ H' = upd H T (.tup [.int (i : Nat), x]) ∧ ∀ xs, SqT K H a xs → xs[i]? = some x, fun i H => ∃ xs : List V, SqT K H a xs ∧ xs.length ≤ i⟩
theorem turn_enumT {P : Program} {w : World} {K : PySem.W.Frag} {elts : List Expr} {kk : Nat} {tpos : Pos} (a e it : Addr) (hai : a ≠ it) (hae : e ≠ a) :
    Turn P w K (.Tuple elts kk tpos) (IteT K a) [e, it] e (fun i h => (∃ old, IsEnum h e it ((i : Nat) : Int) old) ∧ h.IsTupleIter it a i ∧ e ≠ it) where
  mem := by simp
  obj := fun i h st b hb => by
    obtain ⟨⟨old, he⟩, ⟨o, ho, hc, hd⟩, _⟩ := st
    have e' : b = e ∨ b = it := by simpa using hb
    rcases e' with z | z
    · rw [z]; exact ⟨_, he, fun v q => nomatch q⟩
    · rw [z]; exact ⟨o, ho, fun v q => by rw [hd] at q; cases q⟩
  keep := fun i h h' st k => let ⟨⟨old, he⟩, hi, hne⟩ := st; ⟨⟨old, k e (by simp) _ he⟩, hi.at fun o q => k it (by simp) o q, hne⟩
  item := by
    intro X hP hw hK hc i pins s σ H E I hf st hg
    subst hP hw hK
    obtain ⟨⟨old, he⟩, hit, hne⟩ := st
    obtain ⟨xs, x, hq, hx⟩ := hg
    obtain ⟨its, rv, p, hz⟩ := I.tuple hq
    obtain ⟨u, hu, ru⟩ := rv.get hx
    have hel : e < s.heap.objs.size := Heap.lt_size he
    have hil : it < s.heap.objs.size := by obtain ⟨_, q, _⟩ := hit; exact Heap.lt_size q
    have hlt : i < its.toArray.size := by
      have := (List.getElem?_eq_some_iff.mp hu).1
      simpa using this
    refine wpAny_pyNext_enum_itemD (Draws.tuple (A := X.A.in1) (I.ok.hd hc) it a hai its.toArray) he ⟨hit, p⟩ hlt hne (by simp; exact ⟨hne, hae⟩) fun x1 h' tk hp ho hst' hT hsz hk => ?_
    have hx1 : x1 = u := by
      have q : its.toArray[i]? = some u := by simpa using hu
      rw [q] at hp
      exact (Option.some.inj hp).symm
    subst hx1
    refine ⟨_, rfl, wpAny_letOwnedTupleGo_enum (s := { s with heap := h', toks := tk + 1 }) ho fun h'' he' sb => ?_⟩
    have hT2 : h''.get? s.heap.objs.size = some { cls := .type "tuple", data := .seq #[.int i tk, x1] } := (sb.2 _ (Nat.ne_of_gt hel)).trans hT
    have new : ObjOk X.prog X.w (upd H s.heap.objs.size (.tup [.int (i : Nat), x])) h'' s.heap.objs.size (.tup [.int (i : Nat), x]) :=
      ⟨by show 2 ≤ sizeLine; decide, [.int i tk, x1], .cons ⟨_, rfl⟩ (.cons ru .nil), ⟨_, hT2, rfl, _, rfl⟩⟩
    have I1 : Inv X pins σ (upd H s.heap.objs.size (.tup [.int (i : Nat), x])) { s with heap := h'', toks := tk + 1 } :=
      I.turnedNew (ch := [e, it]) (fun b ob hb q => (sb.2 b (fun z => hb (by simp [z]))).trans (hk b ob (fun z => hb (by simp [z])) (fun z => hb (by simp [z])) q)) hf (Nat.le_refl _) new
    refine ⟨.ref s.heap.objs.size, _, I1, rfl, ⟨_, x, rfl, I.hok.fresh (Nat.le_refl _), rfl, fun ys hy => by rw [I.tuple_inj hy hq]; exact hx⟩, ⟨⟨x1, ?_⟩, hst'.1.at fun o q => (sb.2 it (Ne.symm hne)).trans q, hne⟩, fun b hb => ?_⟩
    · have e1 : ((i + 1 : Nat) : Int) = (i : Int) + 1 := by omega
      rw [e1]; exact he'
    · have hb' : b < s.heap.objs.size := by
        have e' : b = e ∨ b = it := by simpa using hb
        rcases e' with z | z
        · rw [z]; exact hel
        · rw [z]; exact hil
      rw [upd_ne (Nat.ne_of_lt hb')]
      exact (hf b hb).1
  done := by
    intro X hP hw hK hc i pins s σ H E I hf st hg
    subst hP hw hK
    obtain ⟨⟨old, he⟩, hit, hne⟩ := st
    obtain ⟨xs, hq, hx⟩ := hg
    obtain ⟨its, rv, p, hz⟩ := I.tuple hq
    obtain ⟨f0, f1, f2, f3, f4, f5⟩ := hf it (by simp)
    have hl := rv.length
    have D := Draws.tuple (prog := X.prog) (w := X.w) (A := X.A.in1) (I.ok.hd hc) it a hai its.toArray
    have go : ∀ {Q : Option Value → Shared → Prop}, (∀ h', Heap.ExtBut it s.heap h' → Q none { s with heap := h' }) → wpAny (model X.prog X.w) X.A (pyNext (.ref e)) Q E s := by
      intro Q hQ
      unfold pyNext
      have hT : s.TypeIs (.ref e) "enumerate" := ⟨_, he, rfl⟩
      refine wpAny_bind (wpAny_attempt (wpAny_callSpecial?_slot (name := Str.ofString "__next__") hT F.slot_enumerate_next
        (wpAny_call_entry F.slot_enumerate_next hT F.entry_enumerate_next ?_ (F.args_enumerate_next_1 _))))
      show wpAny _ _ (field (.ref e) 2 >>= _) _ _ _
      refine wpAny_bind (wpAny_field he rfl (x := .ref it) rfl ?_)
      refine wpAny_bind (wpAny_nextOf_tuple_end (I.ok.hd hc) hit p (by simp; omega) fun h' x he' hx' => ?_)
      obtain ⟨o, ho, hc⟩ := hx'
      refine wpAny_bind (wpAny_isInstance (T := "StopIteration") (b := true) ⟨o, ho, hc⟩ isSubtype_stop ?_)
      exact wpAny_pure (hQ _ he')
    exact go fun h' eb => ⟨rfl, I.turned (t' := s.toks) (fun b o hb q => eb b o hb q) f0 f1 f3 f4 f5⟩
  self := fun A i s Q E st h => let ⟨⟨_, he⟩, _⟩ := st; wpAny_pyIter_enum he h
def iEnumT (K : PySem.W.Frag) (ta : TA) : TI := fun σ H R => ta σ H fun vs H1 => ∃ a xs, vs = [.ref a] ∧ SqT K H1 a xs ∧ R (IteT K a) H1
end DL

set_option Elab.async false
set_option maxRecDepth 100000
namespace DL
open PySem PySem.Spec PyProof.Rows L2
open Sem (wp)
set_option maxHeartbeats 1000000 in
theorem meets_enumerate_newB1 {v : Value} {o : Obj} {H : Heap → Prop} (B : Begins v o H) :
    Meets (Builtin.«enumerate.__new__» ⟨[.type "enumerate", v], []⟩) (fun _ R s => H s.heap ∧
      R (.ok (.ret (.ref (s.heap.push o).objs.size))) { s with heap := (s.heap.push o).push { cls := .type "enumerate", data := .fields #[.none, .bool false, .ref s.heap.objs.size, rawInt 0, .none, .none] } }) :=
  .of_wp fun prog w A R s h => by
    obtain ⟨hp, g, d, tk, os⟩ := s; obtain ⟨h1, h⟩ := h
    have hsub := sub_enumerate
    have q1 : ∀ {A' : Around} {E : Value → Shared → Prop} {Q : Value → Shared → Prop}, Q (.ref hp.objs.size) ⟨hp.push o, g, d, tk, os⟩ → wpAny (model prog w) A' (pyIter v) Q E ⟨hp, g, d, tk, os⟩ :=
      fun q => B.iter prog w _ _ ⟨hp, g, d, tk, os⟩ _ h1 q
    wp_walk using q1
    refine wpAny_stack_any fun st => wpAny_pure ?_
    split
    · rename_i c _ _ _ _ _
      cases (c == Value.type "enumerate")
      · wp_walk using q1
        exact ⟨_, rfl, h⟩
      · wp_walk using q1
        exact ⟨_, rfl, h⟩
    · wp_walk using q1
      exact ⟨_, rfl, h⟩
section
variable {prog : Program} {w : World} {A : Around} {E : Value → Shared → Prop} {s : Shared}
theorem enum_begins1 {v : Value} {o : Obj} {H : Heap → Prop} {Q : Value → Shared → Prop} (B : Begins v o H) (h1 : H s.heap)
    (h : ∀ h', IsEnum h' (s.heap.objs.size + 1) s.heap.objs.size 0 .none → h'.get? s.heap.objs.size = some o → h'.objs.size = s.heap.objs.size + 2 →
      (∀ b o, s.heap.get? b = some o → h'.get? b = some o) → Q (.ref (s.heap.objs.size + 1)) { s with heap := h' }) :
    wpAny (model prog w) A (call (.type "enumerate") [v]) Q E s := by
  refine callType_new F.called_enumerate (by decide) (F.typeCall_enumerate_1 _) (F.newCall_enumerate_1 _) (fun obj => F.args_object_init_2 obj _) F.entry_enumerate_new
    (meets_enumerate_newB1 B) ⟨h1, ?_⟩
  have hz : (s.heap.push o).objs.size = s.heap.objs.size + 1 := Heap.size_push ..
  show _ ∧ _
  rw [hz]
  have he : IsEnum ((s.heap.push o).push { cls := .type "enumerate", data := .fields #[.none, .bool false, .ref s.heap.objs.size, rawInt 0, .none, .none] }) (s.heap.objs.size + 1) s.heap.objs.size 0 .none := by
    have := Heap.get?_push_size (s.heap.push o) (o := { cls := .type "enumerate", data := .fields #[.none, .bool false, .ref s.heap.objs.size, rawInt 0, .none, .none] }) rfl
    rw [hz] at this; exact this
  refine ⟨⟨_, he, rfl⟩, h _ he (Heap.get?_push_of_some _ (Heap.get?_push_size _ B.free)) (by rw [Heap.size_push, hz]) fun b o x => Heap.get?_push_of_some _ (Heap.get?_push_of_some _ x)⟩
end
theorem pi_enumT {X : Cx} {e : Expr} {ta : TA} {p pos tpos : Pos} {elts : List Expr} {kk : Nat} (hg : Gl X "enumerate") (hm : X.mg "enumerate" = none) (ha : PA X [e] ta) (hs : starEach [e] X.env = [(false, eval e X.env)] := by rfl) :
    PI X (.Tuple elts kk tpos) (.Call (.Name "enumerate" p) [e] [] pos) (iEnumT X.K ta) := by
  refine ⟨fun pins s σ H R I h => ?_⟩
  refine Call_ (ld_blt I hg hm boot_enumerate (PyProof.Rows.callWith_type1 (thn (ha.run pos pins s σ H _ I h) fun us s1 ⟨vs, H1, I1, r1, q1⟩ => ?_) hs rfl))
  obtain ⟨a, xs, ex, hq, q⟩ := q1
  subst ex
  cases r1 with
  | cons r rr =>
    cases rr
    cases r
    obtain ⟨its, rv, p', hz⟩ := I1.tuple hq
    have hal : a < s1.heap.objs.size := by obtain ⟨o, ho, _⟩ := id p'; exact Heap.lt_size ho
    refine enum_begins1 (begins_tuple a its.toArray) (show s1.heap.IsTuple a its.toArray from p') fun h' he hit hsz hk => wpAny_pyIter_enum he ?_
    have I2 : Inv X pins σ H1 { s1 with heap := h' } := I1.kept (t' := s1.toks) hk
    refine ⟨s1.heap.objs.size + 1, [s1.heap.objs.size + 1, s1.heap.objs.size], _, _, H1, rfl, I2, turn_enumT a (s1.heap.objs.size + 1) s1.heap.objs.size (Nat.ne_of_lt hal) (Nat.ne_of_gt (Nat.lt_succ_of_lt hal)),
      ⟨⟨.none, he⟩, ⟨_, hit, rfl, rfl⟩, Nat.succ_ne_self _⟩, fun b hb => ?_, q⟩
    have e' : b = s1.heap.objs.size + 1 ∨ b = s1.heap.objs.size := by simpa using hb
    have hle : s1.heap.objs.size ≤ b := by
      rcases e' with z | z
      · rw [z]; exact Nat.le_add_right _ _
      · rw [z]; exact Nat.le_refl _
    exact I1.fpOk hle (I1.hok.fresh hle)
theorem walk_enumT {K : PySem.W.Frag} {a : Addr} {xs : List V} : Walk (IteT K a) xs.length (fun H => SqT K H a xs) (YPair (fun i => some (.int (i : Nat))) (fun i => xs[i]?)) := by
  refine ⟨fun i _ hi q => ⟨xs, xs[i], q, by simp [hi]⟩, fun _ q => ⟨xs, q, Nat.le_refl _⟩, fun i H v H' _ q y => ?_⟩
  obtain ⟨T, x, h1, h2, h3, h4⟩ := y
  exact ⟨T, .int (i : Nat), x, h1, h2, h3, rfl, h4 xs q⟩
end DL

set_option Elab.async false
set_option maxRecDepth 100000
namespace DL
open PySem L2
def top (i : Nat) : Stmt := PySem.Challenge.pw_drawerlocks_k23_whole_desks.main.body.getD i (.Pass ⟨0, 0, 0, 0⟩)
abbrev sIsInt : Stmt := top 10
abbrev sIsCount : Stmt := top 11
abbrev sIsDrawer : Stmt := top 12
abbrev sIsBar : Stmt := top 13
abbrev s_first_standing : Stmt := top 14
abbrev s_hinders : Stmt := top 15
abbrev s_moved : Stmt := top 16
abbrev sInit : Stmt := inClass (top 18) 0
abbrev sDrawers : Stmt := inClass (top 18) 1
abbrev sBars : Stmt := inClass (top 18) 2
abbrev sEq : Stmt := inClass (top 18) 3
abbrev s_free_drawers : Stmt := top 19
abbrev s_goes : Stmt := top 20
abbrev s_bars_against : Stmt := top 21
abbrev sCheckDrawers : Stmt := top 22
abbrev sCheckBars : Stmt := top 23
abbrev s_check_cabinet : Stmt := top 24
abbrev s_check_drawer : Stmt := top 25
abbrev s_Desk__init_ : Stmt := inClass (top 27) 0
abbrev s_Desk_cabinet : Stmt := inClass (top 27) 1
abbrev s_Desk_standing : Stmt := inClass (top 27) 2
abbrev s_Desk_pulls : Stmt := inClass (top 27) 3
abbrev s_Desk__len_ : Stmt := inClass (top 27) 4
abbrev s_Desk_pull : Stmt := inClass (top 27) 5
abbrev s_Desk_free : Stmt := inClass (top 27) 6
abbrev s_Desk_undo : Stmt := inClass (top 27) 7
abbrev s_Desk_copy : Stmt := inClass (top 27) 8
abbrev sTaken : Stmt := top 29
abbrev sParts : Stmt := top 30
abbrev sMade : Stmt := top 31
abbrev s__law_hold : Stmt := top 32
abbrev s__law_free : Stmt := top 33
abbrev s__law_moved : Stmt := top 34
abbrev s__law_is_desk : Stmt := top 35
abbrev s_law : Stmt := top 36
end DL

set_option Elab.async false
set_option maxRecDepth 100000
namespace DL
open PySem L2
/-! ### the facts of the top -/
structure Bt (mg : Str → Option Value) : Prop where
  isinstance : mg "isinstance" = none
  int : mg "int" = none
  bool : mg "bool" = none
  tuple : mg "tuple" = none
  len : mg "len" = none
  enumerate : mg "enumerate" = none
  range : mg "range" = none
  sorted : mg "sorted" = none
/-! ### is_integer -/
structure spIsInt (K : PySem.W.Frag) (vs : List V) (H : Hp) (Q : VK) (_ : XK) : Prop where
  h : ∃ (v : V) (t : Value) (b1 b2 : Bool), vs = [v] ∧ TyX K H v t ∧ PySem.W.kitOne K t (.type "int") = some b1 ∧ PySem.W.kitOne K t (.type "bool") = some b2 ∧ Q (.bl (b1 && !b2)) H
section
variable {P : Program} {w : World} {K : PySem.W.Frag} {mg : Str → Option Value} {base : Heap}
theorem scIsInt : FnScope ["value"] ["value"] (defScope sIsInt) := ⟨rfl, rfl, rfl, by decide +kernel, rfl, by decide +kernel, by decide +kernel⟩
theorem ok_isInt {f : Addr} {fd : FuncData} (F : Fun K "is_integer" "is_integer" sIsInt f fd) (T : Bt mg) : FnOk P w K mg base CX0 1 f fd ["value"] (spIsInt K) := by
  refine F.ok scIsInt (fun vs H Q E h => ?_) (fun cdv A outer s H vs Q E hr h => ?_)
  · obtain ⟨v, t, b1, b2, rfl, _⟩ := h.h
    rfl
  · obtain ⟨v, t, b1, b2, rfl, ty, k1, k2, k⟩ := h.h
    refine ⟨_, pss_one (ps_ret (pe_and (pe_callB call_isi (by rfl) T.isinstance (by decide +kernel) (pa_cons (pv 0) (pa_cons (pe_bltn (v := .ty "int") (by rfl) T.int (by decide +kernel) rfl) pa_nil)))
      (pe_one (pe_not (pe_callB call_isi (by rfl) T.isinstance (by decide +kernel) (pa_cons (pv 0) (pa_cons (pe_bltn (v := .ty "bool") (by rfl) T.bool (by decide +kernel) rfl) pa_nil))))))), ?_⟩
    refine ⟨_, rfl, _, _, t, _, b1, rfl, .ty "int", ty, k1, b1, rfl, ?_⟩
    cases b1 with
    | false => exact iteF k
    | true => exact iteT ⟨_, rfl, _, _, t, _, b2, rfl, .ty "bool", ty, k2, b2, rfl, k⟩
/-! ### is_drawer_count(value), is_drawer(drawers, value) -/
/-- an int as value: whether it is one; any other known thing: False -/
structure spIsCount (K : PySem.W.Frag) (vs : List V) (H : Hp) (Q : VK) (_ : XK) : Prop where
  h : (∃ n : Int, vs = [.int n] ∧ Q (.bl (decide (1 ≤ n) && decide (n ≤ 7))) H) ∨
  ∃ (v : V) (t : Value) (b1 b2 : Bool), vs = [v] ∧ TyX K H v t ∧ PySem.W.kitOne K t (.type "int") = some b1 ∧ PySem.W.kitOne K t (.type "bool") = some b2 ∧ (b1 && !b2) = false ∧ Q (.bl false) H
theorem scIsCount : FnScope ["value"] ["value"] (defScope sIsCount) := ⟨rfl, rfl, rfl, by decide +kernel, rfl, by decide +kernel, by decide +kernel⟩
theorem ok_isCount {f f1 : Addr} {fd fd1 : FuncData} (F : Fun K "is_drawer_count" "is_drawer_count" sIsCount f fd) (_T : Bt mg) (G : FnOk P w K mg base CX0 1 f1 fd1 ["value"] (spIsInt K)) (g1 : mg "is_integer" = some (.ref f1)) (k1 : PySem.W.keepIn K (.ref f1) = true) (b1 : Binds K fd1 ["value"] [])
    (gM : ∃ t, mg "MOST_DRAWERS" = some (.int 7 t)) : FnOk P w K mg base CX0 2 f fd ["value"] (spIsCount K) := by
  refine F.ok scIsCount (fun vs H Q E h => ?_) (fun cdv A outer s H vs Q E hr h => ?_)
  · rcases h.h with ⟨n, rfl, _⟩ | ⟨v, t, b1, b2, rfl, _⟩ <;> rfl
  · obtain ⟨tM, gM⟩ := gM
    refine ⟨_, pss_one (ps_ret (pe_and (pe_call G (hr.mono (by decide)) rfl g1 k1 b1 .nil pass0 (pa_cons (pv 0) pa_nil)) (pe_one (pe_chain op_le op_le pe_int (pv 0) (pe_glob (v := .int 7) rfl gM ⟨_, rfl⟩))))), ?_⟩
    rcases h.h with ⟨n, rfl, k⟩ | ⟨v, t, c1, c2, rfl, ty, e1, e2, e3, k⟩
    · refine ⟨_, rfl, ⟨.int n, .type "int", true, false, rfl, .base (.int n), kit_ty (by decide +kernel), kit_ty (by decide +kernel), true, rfl, iteT ?_⟩⟩
      refine ⟨_, rfl, _, _, rfl, rfl, _, rfl, ?_⟩
      by_cases h1 : 1 ≤ n
      · rw [decide_eq_true h1] at k ⊢
        exact iteT ⟨_, _, rfl, rfl, k⟩
      · rw [decide_eq_false h1] at k ⊢
        exact iteF k
    · refine ⟨_, rfl, ⟨v, t, c1, c2, rfl, ty, e1, e2, _, rfl, ?_⟩⟩
      rw [e3]
      exact iteF k
structure spIsDrawer (K : PySem.W.Frag) (vs : List V) (H : Hp) (Q : VK) (_ : XK) : Prop where
  h : ∃ n : Int, (∃ i : Int, vs = [.int n, .int i] ∧ Q (.bl (decide (0 ≤ i) && decide (i < n))) H) ∨
  ∃ (v : V) (t : Value) (b1 b2 : Bool), vs = [.int n, v] ∧ TyX K H v t ∧ PySem.W.kitOne K t (.type "int") = some b1 ∧ PySem.W.kitOne K t (.type "bool") = some b2 ∧ (b1 && !b2) = false ∧ Q (.bl false) H
theorem scIsDrawer : FnScope ["drawers", "value"] ["drawers", "value"] (defScope sIsDrawer) := ⟨rfl, rfl, rfl, by decide +kernel, rfl, by decide +kernel, by decide +kernel⟩
theorem ok_isDrawer {f f1 : Addr} {fd fd1 : FuncData} (F : Fun K "is_drawer" "is_drawer" sIsDrawer f fd) (_T : Bt mg) (G : FnOk P w K mg base CX0 1 f1 fd1 ["value"] (spIsInt K)) (g1 : mg "is_integer" = some (.ref f1)) (k1 : PySem.W.keepIn K (.ref f1) = true) (b1 : Binds K fd1 ["value"] []) :
    FnOk P w K mg base CX0 2 f fd ["drawers", "value"] (spIsDrawer K) := by
  refine F.ok scIsDrawer (fun vs H Q E h => ?_) (fun cdv A outer s H vs Q E hr h => ?_)
  · rcases h.h with ⟨n, ⟨i, rfl, _⟩ | ⟨v, t, b1, b2, rfl, _⟩⟩ <;> rfl
  · refine ⟨_, pss_one (ps_ret (pe_and (pe_call G (hr.mono (by decide)) rfl g1 k1 b1 .nil pass0 (pa_cons (pv 1) pa_nil)) (pe_one (pe_chain op_le op_lt pe_int (pv 1) (pv 0))))), ?_⟩
    rcases h.h with ⟨n, ⟨i, rfl, k⟩ | ⟨v, t, c1, c2, rfl, ty, e1, e2, e3, k⟩⟩
    · refine ⟨_, rfl, ⟨.int i, .type "int", true, false, rfl, .base (.int i), kit_ty (by decide +kernel), kit_ty (by decide +kernel), true, rfl, iteT ?_⟩⟩
      refine ⟨_, rfl, _, _, rfl, rfl, _, rfl, ?_⟩
      by_cases h1 : 0 ≤ i
      · rw [decide_eq_true h1] at k ⊢
        exact iteT ⟨_, rfl, _, _, rfl, rfl, k⟩
      · rw [decide_eq_false h1] at k ⊢
        exact iteF k
    · refine ⟨_, rfl, ⟨v, t, c1, c2, rfl, ty, e1, e2, _, rfl, ?_⟩⟩
      rw [e3]
      exact iteF k
end
end DL

set_option Elab.async false
set_option maxRecDepth 100000
namespace DL
open PySem L2
/-! ### is_bar -/
def scV : V → Bool
  | .non => true | .bl _ => true | .int _ => true | .str _ => true | _ => false
def isD (n : Int) : V → Bool
  | .int i => decide (0 ≤ i) && decide (i < n)
  | _ => false
def inW : V → Bool
  | .str z => decide (z = "open") || decide (z = "shut")
  | _ => false
def barB (n : Int) (x0 x1 x2 x3 : V) : Bool := isD n x0 && (isD n x2 && (!decide (x0 = x2) && (inW x1 && inW x3)))
theorem inW_in (x : V) (h : scV x = true) : inV x [.str "open", .str "shut"] = inW x ∧ flatV x = true := by
  have z1 : ∀ z : Str, ((("open" : Str) == z) || ((("shut" : Str) == z) || false)) = (decide (z = "open") || decide (z = "shut")) := fun z => by
    rw [beq_dec, beq_dec, Bool.or_false]
    congr 1
    · exact decide_eq_decide.mpr ⟨Eq.symm, Eq.symm⟩
    · exact decide_eq_decide.mpr ⟨Eq.symm, Eq.symm⟩
  cases x with
  | str z => exact ⟨z1 z, rfl⟩
  | non => exact ⟨rfl, rfl⟩
  | bl b => exact ⟨rfl, rfl⟩
  | int i => exact ⟨rfl, rfl⟩
  | _ => cases h
theorem spIsDrawer_sc {K : PySem.W.Frag} {n : Int} {x : V} {H : Hp} {Q : VK} {E : XK} (hx : scV x = true) (k : Q (.bl (isD n x)) H) : spIsDrawer K [.int n, x] H Q E := by
  cases x with
  | int i => exact ⟨⟨n, .inl ⟨i, rfl, k⟩⟩⟩
  | non => exact ⟨⟨n, .inr ⟨.non, .type "NoneType", false, false, rfl, .base .non, kit_ty (by decide +kernel), kit_ty (by decide +kernel), rfl, k⟩⟩⟩
  | bl b => exact ⟨⟨n, .inr ⟨.bl b, .type "bool", true, true, rfl, .base (.bl b), kit_ty (by decide +kernel), kit_ty (by decide +kernel), rfl, k⟩⟩⟩
  | str z => exact ⟨⟨n, .inr ⟨.str z, .type "str", false, false, rfl, .base (.str z), kit_ty (by decide +kernel), kit_ty (by decide +kernel), rfl, k⟩⟩⟩
  | _ => cases hx
theorem tyT {K : PySem.W.Frag} {H : Hp} {a : Addr} {xs : List V} (h : SqT K H a xs) : TyX K H (.ref a) (.type "tuple") := by
  rcases h with (h | ⟨o, h⟩) | ⟨o, its, n, h1, h2, _⟩
  · exact .base (.tup h)
  · exact .fTuple h
  · exact .kTuple h1 h2
structure spIsBar (K : PySem.W.Frag) (vs : List V) (H : Hp) (Q : VK) (_ : XK) : Prop where
  h : ∃ n : Int, (∃ (v : V) (t : Value), vs = [.int n, v] ∧ TyX K H v t ∧ PySem.W.kitOne K t (.type "tuple") = some false ∧ Q (.bl false) H) ∨
  (∃ (a : Addr) (xs : List V), vs = [.int n, .ref a] ∧ SqT K H a xs ∧ xs.length ≠ 4 ∧ Q (.bl false) H) ∨
  ∃ (a : Addr) (x0 x1 x2 x3 : V), vs = [.int n, .ref a] ∧ SqT K H a [x0, x1, x2, x3] ∧ scV x0 = true ∧ scV x1 = true ∧ scV x2 = true ∧ scV x3 = true ∧ Q (.bl (barB n x0 x1 x2 x3)) H
section
variable {P : Program} {w : World} {K : PySem.W.Frag} {mg : Str → Option Value} {base : Heap}
theorem scIsBar : FnScope ["drawers", "value", "drawer", "way", "other", "stand"] ["drawers", "value"] (defScope sIsBar) := ⟨rfl, rfl, rfl, by decide +kernel, rfl, by decide +kernel, by decide +kernel⟩
theorem ok_isBar {f f1 : Addr} {fd fd1 : FuncData} (F : Fun K "is_bar" "is_bar" sIsBar f fd) (T : Bt mg) (G : FnOk P w K mg base CX0 2 f1 fd1 ["drawers", "value"] (spIsDrawer K)) (g1 : mg "is_drawer" = some (.ref f1)) (k1 : PySem.W.keepIn K (.ref f1) = true) (b1 : Binds K fd1 ["drawers", "value"] [])
    (gW : ∃ aW, mg "WORDS" = some (.ref aW) ∧ ∀ H, SqT K H aW [.str "open", .str "shut"]) : FnOk P w K mg base CX0 3 f fd ["drawers", "value"] (spIsBar K) := by
  refine F.ok scIsBar (fun vs H Q E h => ?_) (fun cdv A outer s H vs Q E hr h => ?_)
  · rcases h.h with ⟨n, ⟨v, t, rfl, _⟩ | ⟨a, xs, rfl, _⟩ | ⟨a, x0, x1, x2, x3, rfl, _⟩⟩ <;> rfl
  · obtain ⟨aW, gW, hW⟩ := gW
    refine ⟨_, pss_cons (ps_if (PW.pt (pw_or (pt_not (pt_val (pe_callB call_isi (by rfl) T.isinstance (by decide +kernel) (pa_cons (pv 1) (pa_cons (pe_bltn (v := .ty "tuple") (by rfl) T.tuple (by decide +kernel) rfl) pa_nil)))))
        (pw_or1 (pt_cmpR op_ne (pe_callB call_len_seq (by rfl) T.len PySem.boot_len (pa_cons (pv 1) pa_nil)) pe_int (nomark _))))) (pss_one (ps_ret pe_bl)) pss_nil)
      (pss_cons (ps_asg (pv 1) (pg_tup (by rfl) (pgs_cons (pg_name (i := 2) scIsBar.nd rfl (.inl rfl)) (pgs_cons (pg_name (i := 3) scIsBar.nd rfl (.inl rfl)) (pgs_cons (pg_name (i := 4) scIsBar.nd rfl (.inl rfl)) (pgs_cons (pg_name (i := 5) scIsBar.nd rfl (.inl rfl)) pgs_nil))))))
      (pss_cons (ps_if (PW.pt (pw_or (pt_not (pt_val (pe_call G (hr.mono (by decide)) rfl g1 k1 b1 .nil pass0 (pa_cons (pv 0) (pa_cons (pv 2) pa_nil))))) (pw_or1 (pt_not (pt_val (pe_call G (hr.mono (by decide)) rfl g1 k1 b1 .nil pass0 (pa_cons (pv 0) (pa_cons (pv 4) pa_nil)))))))) (pss_one (ps_ret pe_bl)) pss_nil)
      (pss_one (ps_ret (pe_and (pe_cmpR op_ne (pv 2) (pv 4) (nomark _)) (pe_and (pe_cmpR op_in_seq (pv 3) (pe_glob (v := .ref aW) rfl gW rfl) (by rfl)) (pe_one (pe_cmpR op_in_seq (pv 5) (pe_glob (v := .ref aW) rfl gW rfl) (by rfl))))))))), ?_⟩
    rcases h.h with ⟨n, ⟨v, t, rfl, ty, e, k⟩ | ⟨a, xs, rfl, hq, hl, k⟩ | ⟨a, x0, x1, x2, x3, rfl, hq, c0, c1, c2, c3, k⟩⟩
    · exact ⟨_, rfl, _, _, t, _, false, rfl, .ty "tuple", ty, e, _, rfl, iteT (iteT k)⟩
    · refine ⟨_, rfl, _, _, _, _, true, rfl, .ty "tuple", tyT hq, kit_ty (by decide +kernel), _, rfl, iteF ?_⟩
      refine ⟨_, rfl, a, xs, rfl, .inr hq, rfl, _, rfl, ?_⟩
      refine ite2 (fun _ => k) (fun z => ?_)
      exact absurd (show (.int (xs.length : Int) : V) = .int 4 by simpa using z) (fun q => hl (by injection q with q; omega))
    · refine ⟨_, rfl, _, _, _, _, true, rfl, .ty "tuple", tyT hq, kit_ty (by decide +kernel), _, rfl, iteF ?_⟩
      refine ⟨_, rfl, a, _, rfl, .inr hq, rfl, _, rfl, iteF ?_⟩
      refine ⟨_, rfl, a, _, rfl, hq, rfl, x0, _, rfl, x1, _, rfl, x2, _, rfl, x3, _, rfl, rfl, ?_⟩
      refine ⟨_, rfl, _, rfl, ?_⟩
      refine spIsDrawer_sc c0 ⟨_, rfl, ?_⟩
      unfold barB at k
      cases d0 : isD n x0 with
      | false => rw [d0] at k; exact iteT (iteT k)
      | true =>
        rw [d0] at k
        refine iteF ⟨_, rfl, _, rfl, ?_⟩
        refine spIsDrawer_sc c2 ⟨_, rfl, ?_⟩
        cases d2 : isD n x2 with
        | false => rw [d2] at k; exact iteT k
        | true =>
          rw [d2] at k
          refine iteF ?_
          obtain ⟨i0, rfl⟩ : ∃ i, x0 = .int i := by cases x0 <;> first | exact ⟨_, rfl⟩ | cases d0
          obtain ⟨i2, rfl⟩ : ∃ i, x2 = .int i := by cases x2 <;> first | exact ⟨_, rfl⟩ | cases d2
          refine ⟨_, rfl, _, rfl, rfl, _, rfl, ?_⟩
          have k' : Q (.bl (!decide ((.int i0 : V) = .int i2) && (inW x1 && inW x3))) H := k
          cases e : decide ((.int i0 : V) = .int i2) with
          | true => rw [e] at k'; exact iteF k'
          | false =>
            rw [e] at k'
            refine iteT ⟨_, rfl, aW, _, rfl, .inr (hW H), (inW_in x1 c1).2, rfl, _, rfl, ?_⟩
            show if inV x1 _ = true then _ else _
            rw [(inW_in x1 c1).1]
            have k'' : Q (.bl (inW x1 && inW x3)) H := k'
            cases e1 : inW x1 with
            | false => rw [e1] at k''; exact iteF k''
            | true =>
              rw [e1] at k''
              refine iteT ⟨_, rfl, aW, _, rfl, .inr (hW H), (inW_in x3 c3).2, rfl, ?_⟩
              show Q (.bl (inV x3 _)) H
              rw [(inW_in x3 c3).1]
              exact k''
end
end DL

set_option Elab.async false
set_option maxRecDepth 100000
namespace DL
open PySem L2
/-! ### bars of the heap -/
structure BarsAt (H : Hp) (t : Addr) (ks : List (Addr × Bar)) : Prop where
  tu : H t = some (.tup (ks.map fun k => V.ref k.1))
  el : ∀ k ∈ ks, H k.1 = some (.tup k.2.vs)
theorem BarsAt.same {H H' : Hp} {t : Addr} {ks : List (Addr × Bar)} (B : BarsAt H t ks) (s : Same H H') : BarsAt H' t ks := ⟨s _ _ B.tu, fun k hk => s _ _ (B.el k hk)⟩
def Bar.ok (n : Int) (b : Bar) : Prop := 0 ≤ b.d ∧ b.d < n ∧ 0 ≤ b.o ∧ b.o < n ∧ b.d ≠ b.o
theorem Bar.ok.low {n : Int} {b : Bar} (h : b.ok n) (hn : n ≤ 7) : b.low := by
  obtain ⟨h1, h2, h3, h4, _⟩ := h
  exact ⟨h1, by omega, h3, by omega⟩
structure OkBars (n : Int) (bs : List Bar) : Prop where
  ok : ∀ b ∈ bs, b.ok n
  asc : bs.Pairwise fun x y => x.code < y.code
theorem inW_wd (b : Bool) : inW (.str (wd b)) = true := by revert b; decide +kernel
theorem barB_ok {n : Int} {b : Bar} (h : b.ok n) : barB n (.int b.d) (.str (wd b.w)) (.int b.o) (.str (wd b.t)) = true := by
  obtain ⟨h1, h2, h3, h4, h5⟩ := h
  unfold barB
  rw [inW_wd, inW_wd]
  show ((decide (0 ≤ b.d) && decide (b.d < n)) && ((decide (0 ≤ b.o) && decide (b.o < n)) && (!decide ((.int b.d : V) = .int b.o) && true))) = true
  have e : decide ((.int b.d : V) = .int b.o) = false := decide_eq_false fun q => h5 (by injection q)
  rw [decide_eq_true h1, decide_eq_true h2, decide_eq_true h3, decide_eq_true h4, e]
  rfl
theorem spIsBar_ok {K : PySem.W.Frag} {n : Int} {a : Addr} {b : Bar} {H : Hp} {Q : VK} {E : XK} (h : b.ok n) (ha : SqT K H a b.vs) (k : Q (.bl true) H) : spIsBar K [.int n, .ref a] H Q E :=
  ⟨⟨n, .inr (.inr ⟨a, _, _, _, _, rfl, ha, rfl, rfl, rfl, rfl, by rw [barB_ok h]; exact k⟩)⟩⟩
theorem SqT.of' {K : PySem.W.Frag} {H : Hp} {a : Addr} {xs : List V} (h : H a = some (.tup xs)) : SqT K H a xs := .inl (.inl h)
theorem same_upd {H : Hp} {p : Addr} {o : HO} (h : H p = none) : Same H (upd H p o) := fun b u e => by rw [upd_ne (ne_of_none e h)]; exact e
theorem at_prev {α : Type} {xs : List α} {i : Nat} {v : α} (h0 : 0 < i) (h : xs[i - 1]? = some v) : atI xs ((i : Int) - 1) = some v := by
  have e : (i : Int) - 1 = ((i - 1 : Nat) : Int) := by omega
  rw [e]
  exact atI_nat h
theorem pw_prev {bs : List Bar} (h : bs.Pairwise fun x y => x.code < y.code) {i : Nat} (h0 : 0 < i) {x y : Bar} (hx : bs[i - 1]? = some x) (hy : bs[i]? = some y) : x.code < y.code := by
  obtain ⟨l1, e1⟩ := List.getElem?_eq_some_iff.mp hx
  obtain ⟨l2, e2⟩ := List.getElem?_eq_some_iff.mp hy
  have := List.pairwise_iff_getElem.mp h (i - 1) i l1 l2 (by omega)
  rw [e1, e2] at this
  exact this
theorem not_leq {n : Int} {x y : Bar} (hn : n ≤ 7) (hx : x.ok n) (hy : y.ok n) (h : x.code < y.code) : y.leq x = false := by
  rw [Bar.leq_code (hy.low hn) (hx.low hn)]
  exact decide_eq_false (by omega)
/-! ### check_drawers, check_bars, __init__ of what is right -/
structure spCheckDrawers (vs : List V) (H : Hp) (Q : VK) (_ : XK) : Prop where
  h : ∃ n : Int, vs = [.int n] ∧ 1 ≤ n ∧ n ≤ 7 ∧ Q .non H
structure spCheckBars (vs : List V) (H : Hp) (Q : VK) (_ : XK) : Prop where
  h : ∃ (n : Int) (t : Addr) (ks : List (Addr × Bar)), vs = [.int n, .ref t] ∧ n ≤ 7 ∧ BarsAt H t ks ∧ OkBars n (ks.map (·.2)) ∧ ∀ H', Same H H' → Q .non H'
theorem kd_ : ¬ (("_drawers" : Str) = "_bars") := by decide +kernel
def cfl (n : Int) (t : Addr) : List (Str × V) := putF "_bars" (.ref t) (putF "_drawers" (.int n) [])
theorem cfl_d (n : Int) (t : Addr) : (cfl n t).lookup ("_drawers" : Str) = some (.int n) := by
  unfold cfl
  rw [lookup_putF, if_neg kd_, lookup_putF, if_pos rfl]
theorem cfl_b (n : Int) (t : Addr) : (cfl n t).lookup ("_bars" : Str) = some (.ref t) := by
  unfold cfl
  rw [lookup_putF, if_pos rfl]
/-- a Cabinet stands at c -/
def CabAt (C : Addr) (H : Hp) (c : Addr) (n : Int) (t : Addr) : Prop := ∃ dx, H c = some (.ins C dx (cfl n t))
structure spInit (C : Addr) (vs : List V) (H : Hp) (Q : VK) (_ : XK) : Prop where
  h : ∃ (p dx : Addr) (n : Int) (t : Addr) (ks : List (Addr × Bar)), vs = [.ref p, .int n, .ref t] ∧ H p = some (.ins C dx []) ∧ 1 ≤ n ∧ n ≤ 7 ∧ BarsAt H t ks ∧ OkBars n (ks.map (·.2)) ∧
    ∀ H', H' p = some (.ins C dx (cfl n t)) → (∀ b o, b ≠ p → H b = some o → H' b = some o) → Q .non H'
/-- the class -/
structure CabT (K : PySem.W.Frag) (mg : Str → Option Value) (C : Addr) : Prop where
  cl : Cls K C
  nD : NoAttr K C "_drawers"
  nB : NoAttr K C "_bars"
  mgC : mg "Cabinet" = some (.ref C)
section
variable {P : Program} {w : World} {K : PySem.W.Frag} {mg : Str → Option Value} {base : Heap}
theorem scCheckDrawers : FnScope ["drawers"] ["drawers"] (defScope sCheckDrawers) := ⟨rfl, rfl, rfl, by decide +kernel, rfl, by decide +kernel, by decide +kernel⟩
theorem ok_checkDrawers {f f1 : Addr} {fd fd1 : FuncData} (F : Fun K "check_drawers" "check_drawers" sCheckDrawers f fd) (G : FnOk P w K mg base CX0 2 f1 fd1 ["value"] (spIsCount K)) (g1 : mg "is_drawer_count" = some (.ref f1)) (k1 : PySem.W.keepIn K (.ref f1) = true) (b1 : Binds K fd1 ["value"] []) :
    FnOk P w K mg base CX0 3 f fd ["drawers"] spCheckDrawers := by
  refine F.ok scCheckDrawers (fun vs H Q E h => ?_) (fun cdv A outer s H vs Q E hr h => ?_)
  · obtain ⟨n, rfl, _⟩ := h.h
    rfl
  · obtain ⟨n, rfl, h1, h2, k⟩ := h.h
    refine ⟨_, pss_one (ps_if (pt_not (pt_val (pe_call G (hr.mono (by decide)) rfl g1 k1 b1 .nil pass0 (pa_cons (pv 0) pa_nil)))) (pss_one ps_never) pss_nil), ?_⟩
    refine ⟨_, rfl, ⟨.inl ⟨n, rfl, _, rfl, ?_⟩⟩⟩
    rw [decide_eq_true h1, decide_eq_true h2]
    exact iteF k
theorem scCheckBars : FnScope ["drawers", "bars", "index", "bar"] ["drawers", "bars"] (defScope sCheckBars) := ⟨rfl, rfl, rfl, by decide +kernel, rfl, by decide +kernel, by decide +kernel⟩
theorem ok_checkBars {f f1 : Addr} {fd fd1 : FuncData} (F : Fun K "check_bars" "check_bars" sCheckBars f fd) (T : Bt mg) (G : FnOk P w K mg base CX0 3 f1 fd1 ["drawers", "value"] (spIsBar K)) (g1 : mg "is_bar" = some (.ref f1)) (k1 : PySem.W.keepIn K (.ref f1) = true) (b1 : Binds K fd1 ["drawers", "value"] []) :
    FnOk P w K mg base CX0 4 f fd ["drawers", "bars"] spCheckBars := by
  refine F.ok scCheckBars (fun vs H Q E h => ?_) (fun cdv A outer s H vs Q E hr h => ?_)
  · obtain ⟨n, t, ks, rfl, _⟩ := h.h
    rfl
  · obtain ⟨n, t, ks, rfl, hn, B, O, k⟩ := h.h
    have hu : _ < cLine := hr.units0
    refine ⟨_, pss_cons (ps_if (pt_not (pt_val (pe_callB call_isi (by rfl) T.isinstance (by decide +kernel) (pa_cons (pv 1) (pa_cons (pe_bltn (v := .ty "tuple") (by rfl) T.tuple (by decide +kernel) rfl) pa_nil))))) (pss_one ps_never) pss_nil)
      (pss_one (ps_for PassesOwn.never rfl (pi_enumT (by rfl) T.enumerate (pa_cons (pv 1) pa_nil)) (pg_tup (by rfl) (pgs_cons (pg_name (i := 2) scCheckBars.nd rfl (.inl rfl)) (pgs_cons (pg_name (i := 3) scCheckBars.nd rfl (.inl rfl)) pgs_nil)))
        (pss_cons (ps_if (pt_not (pt_val (pe_call G (hr.mono (by decide)) rfl g1 k1 b1 .nil pass0 (pa_cons (pv 0) (pa_cons (pv 3) pa_nil))))) (pss_one ps_never) pss_nil)
        (pss_one (ps_if (PW.pt (pw_and (pt_cmpR op_gt (pv 2) pe_int (nomark _)) (pw_and1 (pt_cmpR (op_leB hu) (pv 3) (pe_ix ix_tup (pv 1) (pe_op op_sub (pv 2) pe_int) (fun _ _ => rfl)) (nomark _))))) (pss_one ps_never) pss_nil))))), ?_⟩
    refine ⟨_, rfl, _, _, _, _, true, rfl, .ty "tuple", tyT (SqT.of' B.tu), kit_ty (by decide +kernel), _, rfl, iteF ?_⟩
    refine ⟨_, rfl, t, _, rfl, SqT.of' B.tu, ?_⟩
    refine for_it walk_enumT (fun i σ H' => ∃ v2 v3, σ = [some (.int n), some (.ref t), v2, v3] ∧ Same H H') ⟨_, _, rfl, Same.refl H⟩ (fun i σ H' _ ⟨_, _, _, s1⟩ => SqT.of' (s1 _ _ B.tu)) ?_ ?_
    · rintro i x σ H1 H2 hi ⟨v2, v3, rfl, s1⟩ ⟨T, x1, x2, rfl, hT, rfl, e1, e2⟩
      have e1' : V.int (i : Nat) = x1 := Option.some.inj e1
      subst e1'
      have e2 : (ks.map fun k => V.ref k.1)[i]? = some x2 := e2
      rw [List.getElem?_map] at e2
      cases ek : ks[i]? with
      | none => rw [ek] at e2; cases e2
      | some kk =>
        rw [ek] at e2
        have e2' : V.ref kk.1 = x2 := Option.some.inj e2
        subst e2'
        have s2 : Same H (upd H1 T (.tup [.int (i : Nat), .ref kk.1])) := s1.trans (same_upd hT)
        have hm : kk ∈ ks := List.mem_of_getElem? ek
        have hok : kk.2.ok n := O.ok _ (List.mem_map.mpr ⟨kk, hm, rfl⟩)
        refine ⟨T, _, rfl, SqT.of' upd_same, rfl, _, _, rfl, _, _, rfl, rfl, ?_⟩
        refine ⟨_, rfl, _, rfl, spIsBar_ok hok (SqT.of' (s2 _ _ (B.el kk hm))) ⟨_, rfl, iteF ?_⟩⟩
        refine ⟨_, rfl, _, _, rfl, rfl, _, rfl, ?_⟩
        refine ite2 (fun z => ?_) (fun z => iteF ⟨_, _, rfl, s2⟩)
        have h0 : 0 < i := by have := of_decide_eq_true z; omega
        obtain ⟨kp, ep⟩ : ∃ kp, ks[i - 1]? = some kp := by
          have := (List.getElem?_eq_some_iff.mp ek).1
          exact ⟨ks[i - 1]'(by omega), List.getElem?_eq_getElem (by omega)⟩
        have hmp : kp ∈ ks := List.mem_of_getElem? ep
        have hokp : kp.2.ok n := O.ok _ (List.mem_map.mpr ⟨kp, hmp, rfl⟩)
        refine ⟨_, rfl, _, rfl, _, rfl, _, _, rfl, rfl, t, _, _, .ref kp.1, rfl, rfl, SqT.of' (s2 _ _ B.tu), at_prev h0 (by rw [List.getElem?_map, ep]; rfl), ?_⟩
        refine ⟨kk.1, kp.1, kk.2, kp.2, rfl, rfl, SqT.of' (s2 _ _ (B.el kk hm)), SqT.of' (s2 _ _ (B.el kp hmp)), _, rfl, ?_⟩
        have hlt : kp.2.code < kk.2.code := pw_prev O.asc h0 (by rw [List.getElem?_map, ep]; rfl) (by rw [List.getElem?_map, ek]; rfl)
        rw [not_leq hn hokp hok hlt]
        exact iteF ⟨_, _, rfl, s2⟩
    · rintro σ H' ⟨v2, v3, rfl, s1⟩
      exact k H' s1
theorem scInit : FnScope ["self", "drawers", "bars"] ["self", "drawers", "bars"] (defScope sInit) := ⟨rfl, rfl, rfl, by decide +kernel, rfl, by decide +kernel, by decide +kernel⟩
theorem ok_init {f f1 f2 C : Addr} {fd fd1 fd2 : FuncData} (F : Fun K "__init__" "Cabinet.__init__" sInit f fd) (T : CabT K mg C) (G1 : FnOk P w K mg base CX0 3 f1 fd1 ["drawers"] spCheckDrawers) (g1 : mg "check_drawers" = some (.ref f1)) (k1 : PySem.W.keepIn K (.ref f1) = true) (b1 : Binds K fd1 ["drawers"] [])
    (G2 : FnOk P w K mg base CX0 4 f2 fd2 ["drawers", "bars"] spCheckBars) (g2 : mg "check_bars" = some (.ref f2)) (k2 : PySem.W.keepIn K (.ref f2) = true) (b2 : Binds K fd2 ["drawers", "bars"] []) : FnOk P w K mg base CX0 5 f fd ["self", "drawers", "bars"] (spInit C) := by
  refine F.ok scInit (fun vs H Q E h => ?_) (fun cdv A outer s H vs Q E hr h => ?_)
  · obtain ⟨p, dx, n, t, ks, rfl, _⟩ := h.h
    rfl
  · obtain ⟨p, dx, n, t, ks, rfl, hp, h1, h7, B, O, k⟩ := h.h
    refine ⟨_, pss_cons (ps_expr (pe_call G1 (hr.mono (by decide)) rfl g1 k1 b1 .nil pass0 (pa_cons (pv 1) pa_nil))) (pss_cons (ps_expr (pe_call G2 (hr.mono (by decide)) rfl g2 k2 b2 .nil pass0 (pa_cons (pv 1) (pa_cons (pv 2) pa_nil))))
      (pss_cons (ps_fld (pv 0) (pv 1) rfl) (pss_one (ps_fld (pv 0) (pv 2) rfl)))), ?_⟩
    refine ⟨_, rfl, ⟨n, rfl, h1, h7, ?_⟩⟩
    refine ⟨_, rfl, _, rfl, ⟨n, t, ks, rfl, h7, B, O, fun H1 s1 => ?_⟩⟩
    refine ⟨_, rfl, _, rfl, p, C, dx, _, rfl, s1 _ _ hp, T.cl, T.nD, (by show 0 < 1000; decide), _, rfl, _, rfl, p, C, dx, _, rfl, upd_same, T.cl, T.nB, (by show 1 < 1000; decide), ?_⟩
    refine k _ upd_same fun b o hb e => ?_
    rw [upd_ne hb, upd_ne hb]
    exact s1 _ _ e
end
end DL

set_option Elab.async false
set_option maxRecDepth 100000
set_option maxHeartbeats 1000000

set_option Elab.async false
set_option maxRecDepth 100000
set_option maxHeartbeats 1000000

set_option Elab.async false
set_option maxRecDepth 100000
set_option maxHeartbeats 1000000
namespace DL
open PySem L2
/-! ### the checks with what they raise -/
/-- what is_bar says False of -/
def NoBar (K : PySem.W.Frag) (H : Hp) (n : Int) (v : V) : Prop := (∃ t : Value, TyX K H v t ∧ PySem.W.kitOne K t (.type "tuple") = some false) ∨
  (∃ (a : Addr) (xs : List V), v = .ref a ∧ SqT K H a xs ∧ xs.length ≠ 4) ∨
  ∃ (a : Addr) (x0 x1 x2 x3 : V), v = .ref a ∧ SqT K H a [x0, x1, x2, x3] ∧ scV x0 = true ∧ scV x1 = true ∧ scV x2 = true ∧ scV x3 = true ∧ barB n x0 x1 x2 x3 = false
theorem NoBar.sp {K : PySem.W.Frag} {H : Hp} {n : Int} {v : V} {Q : VK} {E : XK} (h : NoBar K H n v) (k : Q (.bl false) H) : spIsBar K [.int n, v] H Q E := by
  rcases h with ⟨t, h1, h2⟩ | ⟨a, xs, rfl, h1, h2⟩ | ⟨a, x0, x1, x2, x3, rfl, h1, c0, c1, c2, c3, h2⟩
  · exact ⟨⟨n, .inl ⟨v, t, rfl, h1, h2, k⟩⟩⟩
  · exact ⟨⟨n, .inr (.inl ⟨a, xs, rfl, h1, h2, k⟩)⟩⟩
  · exact ⟨⟨n, .inr (.inr ⟨a, x0, x1, x2, x3, rfl, h1, c0, c1, c2, c3, by rw [h2]; exact k⟩)⟩⟩
end DL

set_option Elab.async false
set_option maxRecDepth 100000
namespace DL
open PySem L2
/-! ### drawing: the row of draws stands at r, the script at sc -/
def But (r : Addr) (H H' : Hp) : Prop := ∀ b o, b ≠ r → H b = some o → H' b = some o
theorem But.refl (r : Addr) (H : Hp) : But r H H := fun _ _ _ h => h
theorem But.trans {r : Addr} {H H1 H2 : Hp} (a : But r H H1) (b : But r H1 H2) : But r H H2 := fun c o hc h => b c o hc (a c o hc h)
theorem sbut {r : Addr} {H H' : Hp} (s : Same H H') : But r H H' := fun c o _ h => s c o h
theorem but_upd {r : Addr} {H : Hp} {o : HO} : But r H (upd H r o) := fun c u hc h => by rw [upd_ne hc]; exact h
theorem But.seq {K : PySem.W.Frag} {r : Addr} {H H' : Hp} {a : Addr} {xs : List V} (s : But r H H') (ha : a ≠ r) (h : SqL K H a xs) : SqL K H' a xs := by
  rcases h with (h | ⟨o, h⟩) | h
  · exact .inl (.inl (s _ _ ha h))
  · exact .inl (.inr ⟨o, s _ _ ha h⟩)
  · exact .inr h
theorem But.tup {r : Addr} {H H' : Hp} {a : Addr} {xs : List V} {ys : List V} (s : But r H H') (hr : H r = some (.lst ys)) (h : H a = some (.tup xs)) : H' a = some (.tup xs) :=
  s _ _ (ne_of h hr (by intro z; cases z)) h
structure RowOk (H : Hp) (r sc : Addr) : Prop where
  h : ∃ i m e : Int, H r = some (.lst [.ref sc, .int i, .int m, .int e]) ∧ 0 ≤ i ∧ 0 ≤ m ∧ m < 2147483647 ∧ 0 ≤ e
theorem RowOk.same {H H' : Hp} {r sc : Addr} (R : RowOk H r sc) (s : Same H H') : RowOk H' r sc := by
  obtain ⟨i, m, e, h, q⟩ := R.h
  exact ⟨⟨i, m, e, s _ _ h, q⟩⟩
theorem But.seqR {K : PySem.W.Frag} {r sc : Addr} {H H' : Hp} {a : Addr} {ns : List Int} (s : But r H H') (R : RowOk H r sc) (h : SqL K H a (ns.map V.int)) : SqL K H' a (ns.map V.int) := by
  obtain ⟨i, m, e, hR, _⟩ := R.h
  have nd : ∀ u : HO, H a = some u → u ≠ .lst [.ref sc, .int i, .int m, .int e] → a ≠ r := fun u hu hn z => by
    rw [z, hR] at hu
    exact hn (Option.some.inj hu).symm
  rcases h with (h | ⟨o, h⟩) | h
  · refine .inl (.inl (s _ _ (nd _ h fun z => ?_) h))
    injection z with z
    cases ns with
    | nil => cases z
    | cons n ns => injection z with z _; cases z
  · exact .inl (.inr ⟨o, s _ _ (nd _ h fun z => by cases z) h⟩)
  · exact .inr h
structure spTaken (K : PySem.W.Frag) (vs : List V) (H : Hp) (Q : VK) (_ : XK) : Prop where
  h : ∃ (r sc : Addr) (ns : List Int) (many : Int), vs = [.ref r, .int many] ∧ RowOk H r sc ∧ SqL K H sc (ns.map V.int) ∧ 1 ≤ many ∧ many ≤ 1000 ∧
    ∀ (v : Int) (H' : Hp), 0 ≤ v → v < many → RowOk H' r sc → But r H H' → Q (.int v) H'
section
variable {P : Program} {w : World} {K : PySem.W.Frag} {mg : Str → Option Value} {base : Heap}
theorem scTaken : FnScope ["_law_row", "_law_many", "_law_found", "_law_cell"] ["_law_row", "_law_many"] (defScope sTaken) := ⟨rfl, rfl, rfl, by decide +kernel, rfl, by decide +kernel, by decide +kernel⟩
theorem ok_taken {f : Addr} {fd : FuncData} (F : Fun K "_law_taken" "_law_taken" sTaken f fd) (T : Bt mg) : FnOk P w K mg base CX0 1 f fd ["_law_row", "_law_many"] (spTaken K) := by
  refine F.ok scTaken (fun vs H Q E h => ?_) (fun cdv A outer s H vs Q E hr h => ?_)
  · obtain ⟨r, sc, ns, many, rfl, _⟩ := h.h
    rfl
  · obtain ⟨r, sc, ns, many, rfl, R, S, h1, h2, k⟩ := h.h
    obtain ⟨i, m, e, hR, hi, hm0, hm, he⟩ := R.h
    have dv : CDivW e many := wide_div (b := 10) (by omega) (by omega) (by decide) (by decide)
    refine ⟨_, pss_cons (ps_if (pt_cmpR op_gt (pe_ix ix_list (pv 0) pe_int (fun _ _ => rfl)) pe_int (nomark _))
        (pss_cons (ps_set (i := 2) scTaken.nd rfl (.inl rfl) (pe_op op_mod (pe_callTy call_int1 (by rfl) T.int (by decide +kernel) (pa_cons (pe_ix ix_list (pv 0) pe_int (fun _ _ => rfl)) pa_nil)) (pv 1)))
        (pss_cons (ps_asg (pe_op op_fdivW (pe_ix ix_list (pv 0) pe_int (fun _ _ => rfl)) (pv 1)) (pg_sub (pv 0) pe_int set_list))
        (pss_one (ps_ret (pv 2))))) pss_nil)
      (pss_cons (ps_asg (pe_op op_add (pe_ix ix_list (pv 0) pe_int (fun _ _ => rfl)) pe_int) (pg_sub (pv 0) pe_int set_list))
      (pss_cons (ps_if (pt_cmpR op_gt (pe_ix ix_list (pv 0) pe_int (fun _ _ => rfl)) (pe_callB call_len_seq (by rfl) T.len PySem.boot_len (pa_cons (pe_ix ix_list (pv 0) pe_int (fun _ _ => rfl)) pa_nil)) (nomark _))
        (pss_cons (ps_asg (pe_op op_mod (pe_callTy call_int1 (by rfl) T.int (by decide +kernel) (pa_cons (pe_op op_add (pe_op op_mul (pe_ix ix_list (pv 0) pe_int (fun _ _ => rfl)) pe_int) pe_int) pa_nil)) pe_int) (pg_sub (pv 0) pe_int set_list))
        (pss_one (ps_ret (pe_op op_mod (pe_callTy call_int1 (by rfl) T.int (by decide +kernel) (pa_cons (pe_op op_fdiv (pe_ix ix_list (pv 0) pe_int (fun _ _ => rfl)) pe_int) pa_nil)) (pv 1))))) pss_nil)
      (pss_cons (ps_set (i := 3) scTaken.nd rfl (.inl rfl) (pe_ix ix_list (pe_ix ix_list (pv 0) pe_int (fun _ _ => rfl)) (pe_op op_sub (pe_ix ix_list (pv 0) pe_int (fun _ _ => rfl)) pe_int) (fun _ _ => rfl)))
      (pss_cons (ps_asg (pe_op op_mod (pe_callTy call_int1 (by rfl) T.int (by decide +kernel) (pa_cons (pe_op op_add (pe_op op_add (pe_op op_mul (pe_ix ix_list (pv 0) pe_int (fun _ _ => rfl)) pe_int) (pv 3)) pe_int) pa_nil)) pe_int) (pg_sub (pv 0) pe_int set_list))
      (pss_cons (ps_if (pt_cmpR op_ge (pv 3) (pe_op op_pow pe_int pe_int) (nomark _)) (pss_one (ps_asg (pe_op op_fdivW (pv 3) (pv 1)) (pg_sub (pv 0) pe_int set_list))) pss_nil)
      (pss_one (ps_ret (pe_op op_mod (pe_callTy call_int1 (by rfl) T.int (by decide +kernel) (pa_cons (pv 3) pa_nil)) (pv 1))))))))), ?_⟩
    refine ⟨_, rfl, r, _, _, .int e, rfl, rfl, SqL.of hR, rfl, _, _, rfl, rfl, _, rfl, ?_⟩
    refine ite2 (fun z => ?_) (fun _ => ?_)
    · refine ⟨_, rfl, r, _, _, .int e, rfl, rfl, SqL.of hR, rfl, .inl ⟨_, rfl, _, rfl, _, _, rfl, rfl, (by omega), ?_⟩⟩
      refine ⟨_, rfl, r, _, _, .int e, rfl, rfl, SqL.of hR, rfl, _, rfl, _, _, rfl, rfl, dv, ?_⟩
      refine ⟨_, rfl, r, _, _, 3, rfl, rfl, hR, rfl, _, rfl, ?_⟩
      exact k _ _ (Int.emod_nonneg _ (by omega)) (Int.emod_lt_of_pos _ (by omega)) ⟨⟨i, m, e / many, upd_same, hi, hm0, hm, Int.ediv_nonneg he (by omega)⟩⟩ but_upd
    · refine ⟨_, rfl, r, _, _, .int i, rfl, rfl, SqL.of hR, rfl, _, _, rfl, rfl, ?_⟩
      refine ⟨_, rfl, r, _, _, 1, rfl, rfl, hR, rfl, ?_⟩
      have S1 : SqL K (upd H r (.lst [.ref sc, .int (i + 1), .int m, .int e])) sc (ns.map V.int) := but_upd.seqR R S
      refine ⟨_, rfl, r, _, _, .int (i + 1), rfl, rfl, SqL.of upd_same, rfl, ?_⟩
      refine ⟨_, rfl, r, _, _, .ref sc, rfl, rfl, SqL.of upd_same, rfl, sc, _, rfl, .inl S1, _, _, rfl, rfl, _, rfl, ?_⟩
      refine ite2 (fun z => ?_) (fun z => ?_)
      · refine ⟨_, rfl, r, _, _, .int m, rfl, rfl, SqL.of upd_same, rfl, _, _, rfl, rfl, .inl ⟨by omega, by omega⟩, _, _, rfl, rfl, .inl ⟨_, rfl, _, _, rfl, rfl, (by show (0 : Int) < 2147483647; decide), ?_⟩⟩
        refine ⟨_, rfl, r, _, _, 2, rfl, rfl, upd_same, rfl, ?_⟩
        refine ⟨_, rfl, r, _, _, .int ((m * 48271 + 11) % 2147483647), rfl, rfl, SqL.of upd_same, rfl, _, _, rfl, rfl, ⟨by decide, by decide⟩, .inl ⟨_, rfl, _, rfl, _, _, rfl, rfl, (by omega), ?_⟩⟩
        refine k _ _ (Int.emod_nonneg _ (by omega)) (Int.emod_lt_of_pos _ (by omega)) ⟨⟨i + 1, (m * 48271 + 11) % 2147483647, e, upd_same, by omega, Int.emod_nonneg _ (by decide), Int.emod_lt_of_pos _ (by decide), he⟩⟩ (but_upd.trans but_upd)
      · have hlt : i < ns.length := by
          have := of_decide_eq_false (by simpa using z : decide ((ns.map V.int).length < i + 1) = false)
          rw [List.length_map] at this
          omega
        have hc : ∃ c, ns[i.toNat]? = some c := ⟨ns[i.toNat]'(by omega), List.getElem?_eq_getElem (by omega)⟩
        obtain ⟨c, hc⟩ := hc
        have hat : atI (ns.map V.int) ((i + 1) - 1) = some (.int c) := by
          have e1 : (i + 1) - 1 = ((i.toNat : Nat) : Int) := by omega
          rw [e1]
          exact atI_nat (by rw [List.getElem?_map, hc]; rfl)
        refine ⟨_, rfl, r, _, _, .ref sc, rfl, rfl, SqL.of upd_same, rfl, _, rfl, r, _, _, .int (i + 1), rfl, rfl, SqL.of upd_same, rfl, _, _, rfl, rfl, sc, _, _, .int c, rfl, rfl, S1, hat, ?_⟩
        refine ⟨_, rfl, r, _, _, .int m, rfl, rfl, SqL.of upd_same, rfl, _, _, rfl, rfl, .inl ⟨by omega, by omega⟩, _, rfl, _, _, rfl, rfl, _, _, rfl, rfl, .inl ⟨_, rfl, _, _, rfl, rfl, (by show (0 : Int) < 2147483647; decide), ?_⟩⟩
        refine ⟨_, rfl, r, _, _, 2, rfl, rfl, upd_same, rfl, ?_⟩
        refine ⟨_, rfl, _, _, rfl, rfl, ⟨by decide, by decide, by decide⟩, _, _, rfl, rfl, _, rfl, ?_⟩
        have m1 := Int.emod_nonneg (m * 48271 + c + 11) (show (2147483647 : Int) ≠ 0 by decide)
        have m2 := Int.emod_lt_of_pos (m * 48271 + c + 11) (show (0 : Int) < 2147483647 by decide)
        have v1 := Int.emod_nonneg c (show many ≠ 0 by omega)
        have v2 := Int.emod_lt_of_pos c (show 0 < many by omega)
        refine ite2 (fun z => ?_) (fun _ => ?_)
        · have hc0 : (10 : Int) ^ (18 : Int).toNat ≤ c := of_decide_eq_true z
          have hc1 : 0 ≤ c := by
            have : (0 : Int) ≤ (10 : Int) ^ (18 : Int).toNat := by decide
            omega
          refine ⟨_, rfl, _, rfl, _, _, rfl, rfl, wide_div (b := 10) (by omega) (by omega) (by decide) (by decide), ?_⟩
          refine ⟨_, rfl, r, _, _, 3, rfl, rfl, upd_same, rfl, ?_⟩
          refine ⟨_, rfl, .inl ⟨_, rfl, _, rfl, _, _, rfl, rfl, (by omega), ?_⟩⟩
          exact k _ _ v1 v2 ⟨⟨i + 1, _, c / many, upd_same, by omega, m1, m2, Int.ediv_nonneg hc1 (by omega)⟩⟩ ((but_upd.trans but_upd).trans but_upd)
        · refine ⟨_, rfl, .inl ⟨_, rfl, _, rfl, _, _, rfl, rfl, (by omega), ?_⟩⟩
          exact k _ _ v1 v2 ⟨⟨i + 1, _, e, upd_same, by omega, m1, m2, he⟩⟩ (but_upd.trans but_upd)
end
end DL

set_option Elab.async false
set_option maxRecDepth 100000
namespace DL
open PySem L2
theorem keys_put {kvs : List (List Key × V)} {bs : List Bar} {b : Bar} (v : V) (h : kvs.map (·.1) = bs.map Bar.key) (hn : bs.Nodup) :
    ∃ bs' : List Bar, (putK kvs b.key v).map (·.1) = bs'.map Bar.key ∧ bs'.Nodup ∧ (∀ x ∈ bs', x = b ∨ x ∈ bs) ∧ bs'.length ≤ bs.length + 1 := by
  unfold putK
  by_cases e : (kvs.any fun kv => decide (kv.1 = b.key)) = true
  · rw [if_pos e]
    refine ⟨bs, ?_, hn, fun x hx => .inr hx, Nat.le_succ _⟩
    rw [← h, List.map_map]
    refine List.map_congr_left fun kv _ => ?_
    show (if kv.1 = b.key then (kv.1, v) else kv).1 = kv.1
    by_cases q : kv.1 = b.key
    · rw [if_pos q]
    · rw [if_neg q]
  · rw [if_neg e]
    have hnot : b ∉ bs := fun hm => e (by
      rw [List.any_eq_true]
      have : b.key ∈ kvs.map (·.1) := by rw [h]; exact List.mem_map.mpr ⟨b, hm, rfl⟩
      obtain ⟨kv, hkv, q⟩ := List.mem_map.mp this
      exact ⟨kv, hkv, decide_eq_true q⟩)
    refine ⟨bs ++ [b], by rw [List.map_append, List.map_append, h]; rfl, ?_, fun x hx => ?_, by simp⟩
    · rw [List.nodup_append]
      refine ⟨hn, List.nodup_cons.mpr ⟨by simp, List.nodup_nil⟩, fun x hx y hy => ?_⟩
      rw [List.mem_singleton.mp hy]
      exact fun q => hnot (q ▸ hx)
    · rcases List.mem_append.mp hx with hx | hx
      · exact .inr hx
      · exact .inl (List.mem_singleton.mp hx)
theorem asc_of {n : Int} (hn : n ≤ 7) {xs bs : List Bar} (hp : xs.Perm bs) (hs : xs.Pairwise fun x y => x.code ≤ y.code) (hd : bs.Nodup) (ho : ∀ b ∈ bs, b.ok n) : OkBars n xs := by
  have hx : ∀ b ∈ xs, b.ok n := fun b hb => ho b (hp.mem_iff.mp hb)
  refine ⟨hx, ?_⟩
  have hd' : xs.Nodup := hp.nodup_iff.mpr hd
  have := hs.and hd'
  refine List.Pairwise.imp_of_mem (fun {a b} ha hb q => ?_) this
  obtain ⟨q1, q2⟩ := q
  rcases Int.lt_or_eq_of_le q1 with z | z
  · exact z
  · exact absurd (Bar.code_inj ((hx a ha).low hn) ((hx b hb).low hn) z) q2
structure spParts (K : PySem.W.Frag) (vs : List V) (H : Hp) (Q : VK) (_ : XK) : Prop where
  h : ∃ (r sc : Addr) (ns : List Int) (most : Int), vs = [.ref r, .int most] ∧ RowOk H r sc ∧ SqL K H sc (ns.map V.int) ∧ 1 ≤ most ∧ most ≤ 7 ∧
    ∀ (p t : Addr) (n : Int) (ks : List (Addr × Bar)) (H' : Hp), H p = none → H t = none → 1 ≤ n → n ≤ most → H' p = some (.lst [.int n, .ref t]) → BarsAt H' t ks → OkBars n (ks.map (·.2)) → ks.length ≤ 13 → RowOk H' r sc → But r H H' → Q (.ref p) H'
theorem three_at {v : Int} (h0 : 0 ≤ v) (h3 : v < 3) : ∃ c : Int, atI [V.int 3, V.int 6, V.int 14] v = some (.int c) ∧ 1 ≤ c ∧ c ≤ 14 := by
  have : v = 0 ∨ v = 1 ∨ v = 2 := by omega
  rcases this with rfl | rfl | rfl
  · exact ⟨3, rfl, by decide, by decide⟩
  · exact ⟨6, rfl, by decide, by decide⟩
  · exact ⟨14, rfl, by decide, by decide⟩
theorem two_at {v : Int} (h0 : 0 ≤ v) (h3 : v < 2) : ∃ c : Bool, atI [V.str "open", V.str "shut"] v = some (.str (wd c)) := by
  have : v = 0 ∨ v = 1 := by omega
  rcases this with rfl | rfl
  · exact ⟨false, rfl⟩
  · exact ⟨true, rfl⟩
section
variable {P : Program} {w : World} {K : PySem.W.Frag} {mg : Str → Option Value} {base : Heap}
theorem scParts : FnScope ["_law_row", "_law_most", "_law_many", "_law_found", "_law_k", "_law_drawer", "_law_other", "_law_way", "_law_stand"] ["_law_row", "_law_most"] (defScope sParts) := ⟨rfl, rfl, rfl, by decide +kernel, rfl, by decide +kernel, by decide +kernel⟩
theorem ok_parts {f f1 : Addr} {fd fd1 : FuncData} (F : Fun K "_law_parts" "_law_parts" sParts f fd) (T : Bt mg) (G : FnOk P w K mg base CX0 1 f1 fd1 ["_law_row", "_law_many"] (spTaken K)) (g1 : mg "_law_taken" = some (.ref f1)) (k1 : PySem.W.keepIn K (.ref f1) = true) (b1 : Binds K fd1 ["_law_row", "_law_many"] []) :
    FnOk P w K mg base CX0 2 f fd ["_law_row", "_law_most"] (spParts K) := by
  refine F.ok scParts (fun vs H Q E h => ?_) (fun cdv A outer s H vs Q E hr h => ?_)
  · obtain ⟨r, sc, ns, most, rfl, _⟩ := h.h
    rfl
  · obtain ⟨r, sc, ns, most, rfl, R, S, h1, h7, k⟩ := h.h
    have hu := hu_of hr
    obtain ⟨i0, m0, e0, hR0, _⟩ := id R.h
    refine ⟨_, pss_cons (ps_par (i := 2) (j := 3) (by rfl) scParts.nd rfl rfl (by decide) rfl rfl (pa_cons (pe_op op_add pe_int (pe_call G (hr.mono (by decide)) rfl g1 k1 b1 .nil pass0 (pa_cons (pv 0) (pa_cons (pv 1) pa_nil)))) (pa_cons pe_dnewT pa_nil)) (by rfl))
      (pss_cons (ps_for PassesOwn.never rfl (pi_range1 (by rfl) T.range (pa_cons (pe_call G (hr.mono (by decide)) rfl g1 k1 b1 .nil pass0 (pa_cons (pv 0) (pa_cons (pe_ix ix_list (pe_lst (pa_cons pe_int (pa_cons pe_int (pa_cons pe_int pa_nil)))) (pe_call G (hr.mono (by decide)) rfl g1 k1 b1 .nil pass0 (pa_cons (pv 0) (pa_cons pe_int pa_nil))) (fun _ _ => rfl)) pa_nil))) pa_nil)) (pg_name (i := 4) scParts.nd rfl (.inl rfl))
        (pss_cons (ps_par (i := 5) (j := 6) (by rfl) scParts.nd rfl rfl (by decide) rfl rfl (pa_cons (pe_call G (hr.mono (by decide)) rfl g1 k1 b1 .nil pass0 (pa_cons (pv 0) (pa_cons (pv 2) pa_nil))) (pa_cons (pe_call G (hr.mono (by decide)) rfl g1 k1 b1 .nil pass0 (pa_cons (pv 0) (pa_cons (pv 2) pa_nil))) pa_nil)) (by rfl))
        (pss_one (ps_if (pt_cmpR op_ne (pv 5) (pv 6) (nomark _))
          (pss_cons (ps_par (i := 7) (j := 8) (by rfl) scParts.nd rfl rfl (by decide) rfl rfl (pa_cons (pe_ix ix_list (pe_lst (pa_cons pe_str (pa_cons pe_str pa_nil))) (pe_op op_fdiv (pe_call G (hr.mono (by decide)) rfl g1 k1 b1 .nil pass0 (pa_cons (pv 0) (pa_cons pe_int pa_nil))) pe_int) (fun _ _ => rfl))
            (pa_cons (pe_ix ix_list (pe_lst (pa_cons pe_str (pa_cons pe_str pa_nil))) (pe_call G (hr.mono (by decide)) rfl g1 k1 b1 .nil pass0 (pa_cons (pv 0) (pa_cons pe_int pa_nil))) (fun _ _ => rfl)) pa_nil)) (by rfl))
          (pss_one (ps_dput hu (pv 3) (pe_tup (pa_cons (pv 5) (pa_cons (pv 7) (pa_cons (pv 6) (pa_cons (pv 8) pa_nil))))) pe_bl rfl))) pss_nil))))
      (pss_one (ps_ret (pe_lst (pa_cons (pv 2) (pa_cons (pe_callTy call_tuple_of (by rfl) T.tuple (by decide +kernel) (pa_cons (pe_callB (cr_sortB (by rfl)) (by rfl) T.sorted (by decide +kernel) (pa_cons (pv 3) pa_nil)) pa_nil)) pa_nil)))))), ?_⟩
    -- many, found
    refine ⟨_, rfl, _, rfl, ⟨⟨r, sc, ns, most, rfl, R, S, h1, by omega, fun v H1 v0 v1 R1 B1 => ?_⟩⟩⟩
    refine ⟨_, _, rfl, rfl, fun d hd => ⟨_, _, rfl, ?_⟩⟩
    obtain ⟨i1, m1, e1, hR1, _⟩ := id R1.h
    have ndr : d ≠ r := (ne_of_none hR1 hd).symm
    have hd0 : H d = none := by
      cases q : H d with
      | none => rfl
      | some o =>
        rw [B1 d o ndr q] at hd
        cases hd
    have R2 : RowOk (upd H1 d (.dT [])) r sc := R1.same (same_upd hd)
    have B2 : But r H (upd H1 d (.dT [])) := B1.trans (sbut (same_upd hd))
    -- range(..)
    refine ⟨_, rfl, (by show 3 ≤ sizeLine; decide), fun l hl => ?_⟩
    have nlr : l ≠ r := by
      obtain ⟨_, _, _, q, _⟩ := id R2.h
      exact (ne_of_none q hl).symm
    have R3 := R2.same (same_upd (o := .lst [V.int 3, V.int 6, V.int 14]) hl)
    have B3 : But r H _ := B2.trans (sbut (same_upd (o := .lst [V.int 3, V.int 6, V.int 14]) hl))
    refine ⟨_, rfl, ⟨⟨r, sc, ns, 3, rfl, R3, B3.seqR R S, by decide, by decide, fun v2 H3 w0 w1 R4 B4 => ?_⟩⟩⟩
    obtain ⟨c, hc, c1, c14⟩ := three_at w0 w1
    refine ⟨l, _, v2, .int c, rfl, rfl, SqL.of (B4 _ _ nlr upd_same), hc, ?_⟩
    have B5 : But r H H3 := B3.trans B4
    refine ⟨⟨r, sc, ns, c, rfl, R4, B5.seqR R S, c1, by omega, fun v3 H4 x0 x1 R5 B6 => ?_⟩⟩
    refine ⟨v3, rfl, by omega, by omega, ?_⟩
    have B7 : But r H H4 := B5.trans B6
    have hd4 : H4 d = some (.dT []) := B6 _ _ ndr (B4 _ _ ndr (by rw [upd_ne (ne_of_none (upd_same (H := H1) (a := d)) hl)]; exact upd_same))
    refine for_range (lo := 0) (n := v3.toNat) (fun i σ H5 => ∃ (kvs : List (List Key × V)) (bs : List Bar) (u4 u5 u6 u7 u8 : Option V), σ = [some (.ref r), some (.int most), some (.int (1 + v)), some (.ref d), u4, u5, u6, u7, u8] ∧ H5 d = some (.dT kvs) ∧ kvs.map (·.1) = bs.map Bar.key ∧ bs.Nodup ∧ (∀ b ∈ bs, b.ok (1 + v)) ∧ bs.length ≤ i ∧ RowOk H5 r sc ∧ But r H H5)
      ⟨[], [], _, _, _, _, _, rfl, hd4, rfl, List.nodup_nil, fun b hb => by simp at hb, Nat.le_refl _, R5, B7⟩ ?_ ?_
    · rintro i σ H5 hi ⟨kvs, bs, u4, u5, u6, u7, u8, rfl, hD, hk, hnd, hok, hlen, R6, B8⟩
      refine ⟨_, rfl, _, rfl, ⟨⟨r, sc, ns, 1 + v, rfl, R6, B8.seqR R S, by omega, by omega, fun a H6 a0 a1 R7 B9 => ?_⟩⟩⟩
      refine ⟨_, rfl, _, rfl, ⟨⟨r, sc, ns, 1 + v, rfl, R7, (B8.trans B9).seqR R S, by omega, by omega, fun o H7 o0 o1 R8 B10 => ?_⟩⟩⟩
      have hD7 : H7 d = some (.dT kvs) := B10 _ _ ndr (B9 _ _ ndr hD)
      have B11 : But r H H7 := (B8.trans B9).trans B10
      refine ⟨_, _, rfl, _, rfl, _, rfl, rfl, _, rfl, ?_⟩
      refine ite2 (fun z => ?_) (fun _ => ?_)
      · have hao : a ≠ o := fun q => by subst q; simp at z
        refine ⟨(by show 2 ≤ sizeLine; decide), fun l1 hl1 => ?_⟩
        have R9 := R8.same (same_upd (o := .lst [V.str "open", V.str "shut"]) hl1)
        have nl1 : l1 ≠ r := by
          obtain ⟨_, _, _, q, _⟩ := id R8.h
          exact (ne_of_none q hl1).symm
        refine ⟨_, rfl, ⟨⟨r, sc, ns, 3, rfl, R9, (B11.trans (sbut (same_upd hl1))).seqR R S, by decide, by decide, fun y H8 y0 y1 R10 B12 => ?_⟩⟩⟩
        obtain ⟨cw, hcw⟩ := two_at (v := y / 2) (by omega) (by omega)
        refine ⟨_, _, rfl, rfl, ⟨by decide, by decide⟩, l1, _, _, _, rfl, rfl, SqL.of (B12 _ _ nl1 upd_same), hcw, ?_⟩
        refine ⟨(by show 2 ≤ sizeLine; decide), fun l2 hl2 => ?_⟩
        have R11 := R10.same (same_upd (o := .lst [V.str "open", V.str "shut"]) hl2)
        have nl2 : l2 ≠ r := by
          obtain ⟨_, _, _, q, _⟩ := id R10.h
          exact (ne_of_none q hl2).symm
        have B13 : But r H7 (upd H8 l2 (.lst [V.str "open", V.str "shut"])) := ((sbut (same_upd hl1)).trans B12).trans (sbut (same_upd hl2))
        refine ⟨_, rfl, ⟨⟨r, sc, ns, 2, rfl, R11, (B11.trans B13).seqR R S, by decide, by decide, fun y2 H9 z0 z1 R12 B14 => ?_⟩⟩⟩
        obtain ⟨ct, hct⟩ := two_at z0 z1
        refine ⟨l2, _, _, _, rfl, rfl, SqL.of (B14 _ _ nl2 upd_same), hct, ?_⟩
        have B15 : But r H7 H9 := B13.trans B14
        have hD9 : H9 d = some (.dT kvs) := B15 _ _ ndr hD7
        refine ⟨_, _, rfl, _, rfl, _, rfl, _, rfl, _, rfl, _, rfl, (by show 4 ≤ sizeLine; decide), fun q hq => ?_⟩
        have hlen2 : kvs.length = bs.length := by
          have := congrArg List.length hk
          rw [List.length_map, List.length_map] at this
          exact this
        refine ⟨d, _, rfl, DPut.t (k := (⟨a, cw, o, ct⟩ : Bar).key) (by rw [upd_ne (ne_of_none hD9 hq)]; exact hD9) upd_same (by rw [hlen2]; exact small1000 (by omega)), ?_⟩
        obtain ⟨bs', g1', g2', g3', g4'⟩ := keys_put (b := ⟨a, cw, o, ct⟩) (.bl true) hk hnd
        have nqr : q ≠ r := by
          obtain ⟨_, _, _, q', _⟩ := id R12.h
          exact (ne_of_none q' hq).symm
        refine ⟨_, bs', _, _, _, _, _, rfl, upd_same, g1', g2', fun b hb => ?_, by omega, ?_, ?_⟩
        · rcases g3' b hb with rfl | hb
          · exact ⟨a0, a1, o0, o1, hao⟩
          · exact hok b hb
        · obtain ⟨i', m', e', q1, q2⟩ := (R12.same (same_upd (o := .tup (⟨a, cw, o, ct⟩ : Bar).vs) hq)).h
          exact ⟨⟨i', m', e', by rw [upd_ne (Ne.symm ndr)]; exact q1, q2⟩⟩
        · refine fun c u hc hH => ?_
          have hcd : c ≠ d := fun z' => by rw [z', hd0] at hH; cases hH
          rw [upd_ne hcd]
          exact same_upd hq _ _ (B15 _ _ hc (B11 _ _ hc hH))
      · exact ⟨kvs, bs, _, _, _, _, _, rfl, hD7, hk, hnd, hok, by omega, R8, B11⟩
    · rintro σ H5 ⟨kvs, bs, u4, u5, u6, u7, u8, rfl, hD, hk, hnd, hok, hlen, R6, B8⟩
      refine ⟨_, rfl, _, rfl, d, kvs, bs, rfl, .inl hD, hk, fun b hb => (hok b hb).low (by omega), fun ks p g1' g2' g3' hp => ?_⟩
      refine ⟨p, _, rfl, .inl ⟨SqL.of upd_same, fun t ht => ?_⟩⟩
      refine ⟨(by show 2 ≤ sizeLine; decide), fun q hq => ?_⟩
      have sp : Same H5 (upd H5 p (.lst (ks.map fun k => V.ref k.1))) := same_upd hp
      have st : Same H5 (upd (upd H5 p (.lst (ks.map fun k => V.ref k.1))) t (.tup (ks.map fun k => V.ref k.1))) := sp.trans (same_upd ht)
      have sq : Same H5 _ := st.trans (same_upd (o := .lst [.int (1 + v), .ref t]) hq)
      obtain ⟨i', m', e', qR, _⟩ := id R6.h
      have nfree : ∀ {c : Addr}, H5 c = none → H c = none := fun {c} hc => by
        cases q' : H c with
        | none => rfl
        | some o =>
          have ncr : c ≠ r := fun z => by rw [z, qR] at hc; cases hc
          rw [B8 c o ncr q'] at hc
          cases hc
      refine k q t (1 + v) ks _ (nfree (st.free hq)) (nfree (sp.free ht)) (by omega) (by omega) upd_same ⟨by rw [upd_ne (ne_of_none upd_same hq)]; exact upd_same, fun kk hkk => sq _ _ (g1' kk hkk)⟩
        (asc_of (by omega) g2' g3' hnd hok) ?_ (R6.same sq) (B8.trans (sbut sq))
      have := g2'.length_eq
      rw [List.length_map] at this
      omega
/-! ### the cabinet of a draw -/
structure spMade (C : Addr) (vs : List V) (H : Hp) (Q : VK) (_ : XK) : Prop where
  h : ∃ (p t : Addr) (n : Int) (ks : List (Addr × Bar)) (zs : List V), vs = [.ref p] ∧ H p = some (.lst (.int n :: .ref t :: zs)) ∧ 1 ≤ n ∧ n ≤ 7 ∧ BarsAt H t ks ∧ OkBars n (ks.map (·.2)) ∧
    ∀ (c : Addr) (H' : Hp), H c = none → CabAt C H' c n t → Same H H' → Q (.ref c) H'
theorem scMade : FnScope ["_law_d"] ["_law_d"] (defScope sMade) := ⟨rfl, rfl, rfl, by decide +kernel, rfl, by decide +kernel, by decide +kernel⟩
theorem ok_made {f fI C : Addr} {fd fdI : FuncData} (F : Fun K "_law_made" "_law_made" sMade f fd) (T : CabT K mg C) (M : Mk K C fI) (G : FnOk P w K mg base CX0 5 fI fdI ["self", "drawers", "bars"] (spInit C)) (bI : Binds K fdI ["self", "drawers", "bars"] []) :
    FnOk P w K mg base CX0 7 f fd ["_law_d"] (spMade C) := by
  refine F.ok scMade (fun vs H Q E h => ?_) (fun cdv A outer s H vs Q E hr h => ?_)
  · obtain ⟨p, t, n, ks, zs, rfl, _⟩ := h.h
    rfl
  · obtain ⟨p, t, n, ks, zs, rfl, hp, h1, h7, B, O, k⟩ := h.h
    refine ⟨_, pss_one (ps_ret (pe_make M G hr rfl T.mgC bI .nil pass0 (pa_cons (pe_ix ix_list (pv 0) pe_int (fun _ _ => rfl)) (pa_cons (pe_ix ix_list (pv 0) pe_int (fun _ _ => rfl)) pa_nil)))), ?_⟩
    refine ⟨_, rfl, p, _, 0, .int n, rfl, rfl, SqL.of hp, atI_nat (j := 0) rfl, _, rfl, p, _, 1, .ref t, rfl, rfl, SqL.of hp, atI_nat (j := 1) rfl, ?_⟩
    intro x dx nx ndx nex
    have s0 : Same H (upd (upd H dx (.own x)) x (.ins C dx [])) := fun b o e => by
      rw [upd_ne (ne_of_none e nx), upd_ne (ne_of_none e ndx)]
      exact e
    refine ⟨⟨x, dx, n, t, ks, rfl, upd_same, h1, h7, B.same s0, O, fun H' hx kp => ⟨rfl, ?_⟩⟩⟩
    exact k x H' nx ⟨dx, hx⟩ fun b o e => kp b o (ne_of_none e nx) (s0 b o e)
end
end DL

set_option Elab.async false
set_option maxRecDepth 100000
namespace DL
open PySem L2
/-! ### rules with the written part named, for blocks within blocks -/
theorem cr_anyK {X : Cx} {K : PySem.W.Frag} (hK : X.K = K) (hc : X.calm = true) : CallR X (.builtin "any") (rAny K) := by subst hK; exact cr_any hc
theorem pi_tupK {X : Cx} {K : PySem.W.Frag} {tg l : Expr} {tl : TE} (hK : X.K = K) (hl : PE X l tl) : PI X tg l (iTup K tl) := by subst hK; exact pi_tup hl
theorem ix_listK {X : Cx} {K : PySem.W.Frag} (hK : X.K = K) : IxR X (rIxL K) := by subst hK; exact ix_list
theorem pe_bmK {X : Cx} {K : PySem.W.Frag} {T : String} {name : Str} {id : String} {r : V → List V → Hp → VK → Prop} {o e : Expr} {es : List Expr} {to : TE} {t : TA} {apos cpos : Pos} (hK : X.K = K) (pa : PlainAttrs T) (slot : Slot T name id) (hty : typeOf (.builtin id) = pure (.type "method_descriptor")) (hm : MtR X id r) (ho : PE X o to) (ha : PA X (e :: es) t)
    (hbase : attributeBase o name X.env (eval o X.env) = eval o X.env := by rfl)
    (hfew : ((backTo cpos (starEach (e :: es) X.env)).all (fun x => !x.1) && (backToKw cpos (keywordEach [] X.env)).all (fun x => x.1.isSome)
      && decide ((e :: es).length + ([] : List Keyword).length + (if ([] : List Keyword).isEmpty then 0 else 1) < 30)) = true := by rfl)
    (hline : (apos.endLine == cpos.line) = true := by rfl) (hs : starEach (e :: es) X.env = (false, eval e X.env) :: starEach es X.env := by rfl) (hplain : (backTo cpos (starEach es X.env)).any (·.1) = false := by rfl) :
    PE X (.Call (.Attribute o name apos) (e :: es) [] cpos) (tBM K T r to t) := by subst hK; exact pe_bm pa slot hty hm ho ha hbase hfew hline hs hplain
theorem boot_any_ : bootBuiltins ("any" : Str) = some (.builtin "any") := by decide +kernel
end DL

set_option Elab.async false
set_option maxRecDepth 100000
namespace DL
open PySem L2 HT TL
/-! ### standings: a truth value a drawer (true: open) -/
def sg (b : Bool) : Nat := if b = true then 111 else 115
def sgs (b : Bool) : Str := ⟨#[sg b]⟩
def sstr (st : List Bool) : Str := ⟨(st.map sg).toArray⟩
theorem sstr_tl (st : List Bool) : (sstr st).cps.toList = st.map sg := by simp [sstr]
theorem sstr_len (st : List Bool) : (sstr st).length = st.length := by
  show (sstr st).cps.size = st.length
  rw [← Array.length_toList, sstr_tl, List.length_map]
def sat (st : List Bool) (i : Int) : Bool := st.getD i.toNat false
theorem sstr_at {st : List Bool} {i : Int} (h0 : 0 ≤ i) (h1 : i < st.length) : atI (sstr st).cps.toList i = some (sg (sat st i)) := by
  have e : i = ((i.toNat : Nat) : Int) := by omega
  have hl : i.toNat < st.length := by omega
  rw [e]
  refine atI_nat ?_
  rw [sstr_tl, List.getElem?_map]
  unfold sat
  rw [Int.toNat_natCast, List.getD_eq_getElem?_getD, List.getElem?_eq_getElem hl]
  rfl
def sgn (b : Bool) : Str := if b = true then "s" else "o"
theorem sgs_sgn (x b : Bool) : decide ((V.str ⟨#[sg x]⟩) = V.str (sgn b)) = (x != b) := by revert x b; decide +kernel
theorem sgs_o (x : Bool) : decide ((V.str ⟨#[sg x]⟩) = V.str "o") = x := by revert x; decide +kernel
theorem sgs_s (x : Bool) : decide ((V.str ⟨#[sg x]⟩) = V.str "s") = !x := by revert x; decide +kernel
theorem wd_ne (a b : Bool) : decide ((V.str (wd a)) = V.str (wd b)) = (a == b) := by revert a b; decide +kernel
/-- whether the bar stands against the pull -/
def hind (b : Bar) (st : List Bool) (d : Int) : Bool := decide (b.d = d) && ((sat st d == b.w) && (sat st b.o == b.t))
def goesB (bs : List Bar) (st : List Bool) (d : Int) : Bool := !(bs.any fun b => hind b st d)
def flip (st : List Bool) (d : Int) : List Bool := st.set d.toNat (!sat st d)
theorem flip_len (st : List Bool) (d : Int) : (flip st d).length = st.length := by unfold flip; rw [List.length_set]
def drs (n : Nat) : List Int := (List.range n).map fun (i : Nat) => (i : Int)
def freeL (bs : List Bar) (st : List Bool) : List Int := (drs st.length).filter fun d => goesB bs st d
/-- the table of signs -/
structure SgT (K : PySem.W.Frag) (w : World) (mg : Str → Option Value) (aS : Addr) : Prop where
  g : mg "SIGNS" = some (.ref aS)
  o : KDct K w aS "open" (.str "o")
  s : KDct K w aS "shut" (.str "s")
theorem SgT.at {K : PySem.W.Frag} {w : World} {mg : Str → Option Value} {aS : Addr} (T : SgT K w mg aS) (b : Bool) : KDct K w aS (wd b) (.str (sgn b)) := by
  cases b
  · exact T.o
  · exact T.s
structure spHold (K : PySem.W.Frag) (vs : List V) (H : Hp) (Q : VK) (_ : XK) : Prop where
  h : ∃ (a : Addr) (b : Bar) (st : List Bool) (d : Int), vs = [.ref a, .str (sstr st), .int d] ∧ SqT K H a b.vs ∧ b.ok st.length ∧ st.length ≤ 7 ∧ 0 ≤ d ∧ d < st.length ∧ Q (.bl (hind b st d)) H
structure spMoved (vs : List V) (H : Hp) (Q : VK) (_ : XK) : Prop where
  h : ∃ (st : List Bool) (d : Int), vs = [.str (sstr st), .int d] ∧ st.length ≤ 7 ∧ 0 ≤ d ∧ d < st.length ∧ ∀ H', Same H H' → Q (.str (sstr (flip st d))) H'
theorem str_small {st : List Bool} (h : st.length ≤ 7) : (sstr st).length ≤ sizeLine := by rw [sstr_len]; exact Nat.le_of_lt (small1000 (by omega))
theorem cut_flip (st : List Bool) (d : Int) (h0 : 0 ≤ d) (h1 : d < st.length) (x : Str) (hx : x.cps.toList = [sg (!sat st d)]) : (cutS (sstr st) none (some d) ++ x) ++ cutS (sstr st) (some (d + 1)) none = sstr (flip st d) := by
  refine PyProof.Rows.ext_toList ?_
  obtain ⟨k, rfl⟩ : ∃ k : Nat, d = (k : Int) := ⟨d.toNat, by omega⟩
  have hk : k < st.length := by omega
  have e1 : ((k : Int) + 1) = ((k + 1 : Nat) : Int) := by omega
  have t1 : tl (cutS (sstr st) none (some (k : Int))) = (st.map sg).take k := by
    unfold tl cutS
    rw [HT.sIx_none, HT.sIx_nat, sstr_len, sstr_tl]
    simp [Nat.min_eq_left (Nat.le_of_lt hk)]
  have t2 : tl (cutS (sstr st) (some ((k : Int) + 1)) none) = (st.map sg).drop (k + 1) := by
    unfold tl cutS
    rw [e1, HT.sIx_none, HT.sIx_nat, sstr_len, sstr_tl]
    simp only [Nat.min_eq_left (show k + 1 ≤ st.length by omega)]
    rw [List.take_of_length_le (by rw [List.length_drop, List.length_map]; omega)]
  show tl _ = tl _
  rw [tl_append, tl_append, t1, t2, show tl x = _ from hx, show tl (sstr (flip st (k : Int))) = _ from sstr_tl _]
  unfold flip
  rw [Int.toNat_natCast, List.map_set, List.set_eq_take_append_cons_drop, if_pos (by rw [List.length_map]; exact hk)]
  simp
section
variable {P : Program} {w : World} {K : PySem.W.Frag} {mg : Str → Option Value} {base : Heap}
theorem scHinders : FnScope ["bar", "standing", "drawer", "barred", "way", "other", "stand"] ["bar", "standing", "drawer"] (defScope s_hinders) := ⟨rfl, rfl, rfl, by decide +kernel, rfl, by decide +kernel, by decide +kernel⟩
theorem ok_hinders {f aS : Addr} {fd : FuncData} (F : Fun K "hinders" "hinders" s_hinders f fd) (T : SgT K w mg aS) : FnOk P w K mg base CX0 1 f fd ["bar", "standing", "drawer"] (spHold K) := by
  refine F.ok scHinders (fun vs H Q E h => ?_) (fun cdv A outer s H vs Q E hr h => ?_)
  · obtain ⟨a, b, st, d, rfl, _⟩ := h.h
    rfl
  · obtain ⟨a, b, st, d, rfl, hq, hb, h7, d0, d1, k⟩ := h.h
    obtain ⟨b1, b2, b3, b4, b5⟩ := hb
    refine ⟨_, pss_cons (ps_asg (pv 0) (pg_tup (by rfl) (pgs_cons (pg_name (i := 3) scHinders.nd rfl (.inl rfl)) (pgs_cons (pg_name (i := 4) scHinders.nd rfl (.inl rfl)) (pgs_cons (pg_name (i := 5) scHinders.nd rfl (.inl rfl)) (pgs_cons (pg_name (i := 6) scHinders.nd rfl (.inl rfl)) pgs_nil))))))
      (pss_cons (ps_if (PW.pt (pw_or (pt_cmpR op_ne (pv 3) (pv 2) (nomark _)) (pw_or1 (pt_cmpR op_eq (pe_ix ix_str (pv 1) (pv 2) (fun _ _ => rfl)) (pe_ix ix_kdict (pe_glob (v := .ref aS) rfl T.g rfl) (pv 4) (fun _ _ => rfl)) (nomark _))))) (pss_one (ps_ret pe_bl)) pss_nil)
      (pss_one (ps_ret (pe_cmpR op_ne (pe_ix ix_str (pv 1) (pv 5) (fun _ _ => rfl)) (pe_ix ix_kdict (pe_glob (v := .ref aS) rfl T.g rfl) (pv 6) (fun _ _ => rfl)) (nomark _))))), ?_⟩
    refine ⟨_, rfl, a, _, rfl, hq, rfl, _, _, rfl, _, _, rfl, _, _, rfl, _, _, rfl, rfl, ?_⟩
    refine ⟨_, rfl, _, rfl, rfl, _, rfl, ?_⟩
    have e0 : decide ((V.int b.d) = V.int d) = decide (b.d = d) := decide_eq_decide.mpr ⟨fun z => by injection z, fun z => by rw [z]⟩
    show if (!decide ((V.int b.d) = V.int d)) = true then _ else _
    rw [e0]
    by_cases q : b.d = d
    · rw [decide_eq_true q]
      refine iteF ?_
      refine ⟨_, rfl, _, rfl, _, d, _, rfl, rfl, str_small h7, sstr_at d0 d1, _, rfl, aS, wd b.w, _, rfl, rfl, T.at b.w, rfl, _, rfl, ?_⟩
      show if decide ((V.str ⟨#[sg (sat st d)]⟩) = V.str (sgn b.w)) = true then _ else _
      rw [sgs_sgn]
      unfold hind at k
      rw [decide_eq_true q] at k
      cases e : (sat st d != b.w) with
      | true =>
        have e' : (sat st d == b.w) = false := by rw [bne, Bool.not_eq_true'] at e; exact e
        rw [e'] at k
        exact iteT k
      | false =>
        have e' : (sat st d == b.w) = true := by rw [bne, Bool.not_eq_false'] at e; exact e
        rw [e'] at k
        refine iteF ?_
        refine ⟨_, rfl, _, rfl, _, b.o, _, rfl, rfl, str_small h7, sstr_at b3 b4, _, rfl, aS, wd b.t, _, rfl, rfl, T.at b.t, rfl, ?_⟩
        show Q (.bl (!decide ((V.str ⟨#[sg (sat st b.o)]⟩) = V.str (sgn b.t)))) H
        rw [sgs_sgn, bne, Bool.not_not]
        exact k
    · rw [decide_eq_false q]
      unfold hind at k
      rw [decide_eq_false q] at k
      exact iteT k
theorem scMoved : FnScope ["standing", "drawer", "word"] ["standing", "drawer"] (defScope s_moved) := ⟨rfl, rfl, rfl, by decide +kernel, rfl, by decide +kernel, by decide +kernel⟩
theorem ok_moved {f aS : Addr} {fd : FuncData} (F : Fun K "moved" "moved" s_moved f fd) (T : SgT K w mg aS) : FnOk P w K mg base CX0 1 f fd ["standing", "drawer"] spMoved := by
  refine F.ok scMoved (fun vs H Q E h => ?_) (fun cdv A outer s H vs Q E hr h => ?_)
  · obtain ⟨st, d, rfl, _⟩ := h.h
    rfl
  · obtain ⟨st, d, rfl, h7, d0, d1, k⟩ := h.h
    refine ⟨_, pss_cons (ps_set (i := 2) scMoved.nd rfl (.inl rfl) (pe_ifExp (pt_cmpR op_eq (pe_ix ix_str (pv 0) (pv 1) (fun _ _ => rfl)) (pe_ix ix_kdict (pe_glob (v := .ref aS) rfl T.g rfl) pe_str (fun _ _ => rfl)) (nomark _)) pe_str pe_str))
      (pss_one (ps_ret (pe_op op_add_str (pe_op op_add_str (pe_slice sl_str (pv 0) po_none (po_some (pv 1))) (pe_ix ix_kdict (pe_glob (v := .ref aS) rfl T.g rfl) (pv 2) (fun _ _ => rfl))) (pe_slice sl_str (pv 0) (po_some (pe_op op_add (pv 1) pe_int)) po_none)))), ?_⟩
    refine ⟨_, rfl, _, rfl, _, d, _, rfl, rfl, str_small h7, sstr_at d0 d1, aS, _, _, rfl, rfl, T.s, rfl, _, rfl, ?_⟩
    show if decide ((V.str ⟨#[sg (sat st d)]⟩) = V.str "s") = true then _ else _
    rw [sgs_s]
    have fin : ∀ x : Bool, x = sat st d → (∃ v, ((L2.start ["standing", "drawer", "word"] [.str (sstr st), .int d]).set 2 (some (.str (wd x))))[0]? = some (some v) ∧ (∃ z, v = .str z ∧ ∃ i, i = d ∧ True)) → True := fun _ _ _ => trivial
    have small : ∀ a b : Str, a.length ≤ 7 → b.length ≤ 7 → a.length + b.length ≤ sizeLine := fun a b ha hb => Nat.le_of_lt (small1000 (by omega))
    have c7 : ∀ lo hi, (cutS (sstr st) lo hi).length ≤ 7 := fun lo hi => by
      show (cutS (sstr st) lo hi).cps.size ≤ 7
      unfold cutS
      rw [List.size_toArray, List.length_take, List.length_drop, sstr_tl, List.length_map]
      omega
    have one : ∀ b : Bool, (sgn b).length ≤ 7 ∧ (sgn b).cps.toList = [sg (!b)] := by decide +kernel
    have app : ∀ a b : Str, (a ++ b).length = a.length + b.length := fun a b => by
      show (a ++ b).cps.size = a.cps.size + b.cps.size
      rw [← Array.length_toList, ← Array.length_toList, ← Array.length_toList]
      exact (congrArg List.length (tl_append a b)).trans (List.length_append ..)
    cases e : sat st d with
    | false =>
      refine iteT ?_
      refine ⟨_, rfl, _, rfl, _, rfl, _, rfl, str_small h7, _, rfl, aS, wd false, _, rfl, rfl, T.at false, _, _, rfl, rfl, small _ _ (c7 _ _) (one false).1, ?_⟩
      refine ⟨_, rfl, _, rfl, _, _, rfl, rfl, _, rfl, _, rfl, str_small h7, _, _, rfl, rfl, ?_, ?_⟩
      · have h1 := c7 none (some d)
        have h2 := (one false).1
        have h3 := c7 (some (d + 1)) none
        have h4 := app (cutS (sstr st) none (some d)) (sgn false)
        exact Nat.le_of_lt (small1000 (by omega))
      · have := k H (Same.refl H)
        rw [← cut_flip st d d0 d1 (sgn false) (by rw [(one false).2, e])] at this
        exact this
    | true =>
      refine iteF ?_
      refine ⟨_, rfl, _, rfl, _, rfl, _, rfl, str_small h7, _, rfl, aS, wd true, _, rfl, rfl, T.at true, _, _, rfl, rfl, small _ _ (c7 _ _) (one true).1, ?_⟩
      refine ⟨_, rfl, _, rfl, _, _, rfl, rfl, _, rfl, _, rfl, str_small h7, _, _, rfl, rfl, ?_, ?_⟩
      · have h1 := c7 none (some d)
        have h2 := (one true).1
        have h3 := c7 (some (d + 1)) none
        have h4 := app (cutS (sstr st) none (some d)) (sgn true)
        exact Nat.le_of_lt (small1000 (by omega))
      · have := k H (Same.refl H)
        rw [← cut_flip st d d0 d1 (sgn true) (by rw [(one true).2, e])] at this
        exact this
end
end DL

set_option Elab.async false
set_option maxRecDepth 100000
namespace DL
open PySem L2 HT TL
theorem new_at {H : Hp} {a : Addr} {o : HO} (h : H a = none) : Same H (upd H a o) ∧ (upd H a o) a = some o := ⟨same_upd h, upd_same⟩
/-! ### comprehensions that pick, in one word -/
theorem take_pick {α : Type} (p : α → Bool) (v : α → V) {l : List α} {i : Nat} {z : α} (h : l[i]? = some z) :
    ((l.take (i + 1)).filter p).map v = if p z = true then ((l.take i).filter p).map v ++ [v z] else ((l.take i).filter p).map v := by
  obtain ⟨hl, e⟩ := List.getElem?_eq_some_iff.mp h
  rw [List.take_succ_eq_append_getElem hl, List.filter_append, e]
  by_cases q : p z = true
  · rw [if_pos q, List.filter_cons_of_pos q, List.filter_nil, List.map_append]
    rfl
  · rw [if_neg q, List.filter_cons_of_neg q, List.filter_nil, List.append_nil]
theorem lc_pick {α : Type} {J : It} {n : Nat} {G : Hp → Prop} {Y : Nat → Hp → V → Hp → Prop} (wk : Walk J n G Y) (l : List α) (hl : l.length = n) (hn : n ≤ 3000) (p : α → Bool) (v : α → V) {g : TG} {tt : TT} {te : TE} {vs : List Nat} {σ : L2.St} {H1 : Hp} {D : Addr} {Qd : Hp → Prop}
    (hD : H1 D = none) (hG : ∀ H, Same H1 H → G H)
    (hs : ∀ i x z H H' (Tk : V → Hp → Prop) (Nk : Hp → Prop), l[i]? = some z → Same H1 H → Y i H x H' → (∀ H4, p z = true → Same H H4 → Tk (v z) H4) → (∀ H4, p z = false → Same H H4 → Nk H4) →
      g x (wipe σ vs) H' fun σ2 H2 => wipe σ2 vs = wipe σ vs ∧ tt σ2 H2 fun b H3 => if b = true then te σ2 H3 Tk else Nk H3)
    (hd : ∀ H, Same H1 H → H D = some (.lst ((l.filter p).map v)) → Qd H) :
    ∃ W : Nat → Nat → Hp → Prop, (∃ m, W 0 m (upd H1 D (.lst []))) ∧ ∀ i m H, W i m H →
      (J.stop i H ∧ Qd H) ∨ (J.go i H ∧ ∃ Nx : Hp → Prop, (∀ H', Nx H' → ∃ m', m' < m ∧ W (i + 1) m' H') ∧ ∀ x H', J.yld i H x H' → g x (wipe σ vs) H' fun σ2 H2 => wipe σ2 vs = wipe σ vs ∧ tt σ2 H2 fun b H3 =>
        if b = true then te σ2 H3 fun y H4 => ∃ acc, H4 D = some (.lst acc) ∧ acc.length < sizeLine ∧ Nx (upd H4 D (.lst (acc ++ [y]))) else Nx H3) := by
  refine lc_it wk (fun i H' => Same H1 H' ∧ H' D = some (.lst (((l.take i).filter p).map v))) ⟨same_upd hD, upd_same⟩ (fun i H' _ q => hG H' q.1) ?_ ?_
  · rintro i x H H' hi ⟨s1, hD1⟩ y
    have hi' : i < l.length := by omega
    have ez : l[i]? = some l[i] := List.getElem?_eq_getElem hi'
    refine hs i x l[i] H H' _ _ ez s1 y (fun H4 hp s4 => ?_) (fun H4 hp s4 => ?_)
    · refine ⟨_, s4 _ _ hD1, ?_, fun b o e => ?_, ?_⟩
      · rw [List.length_map]
        have h1 := List.length_filter_le p (l.take i)
        rw [List.length_take] at h1
        have h2 : (3000 : Nat) < sizeLine := by decide
        omega
      · rw [upd_ne (ne_of_none e hD)]
        exact s4 _ _ (s1 b o e)
      · rw [upd_same, take_pick p v ez, if_pos hp]
    · refine ⟨s1.trans s4, ?_⟩
      rw [take_pick p v ez, if_neg (by rw [hp]; exact Bool.false_ne_true)]
      exact s4 _ _ hD1
  · rintro H ⟨s1, hD1⟩
    rw [← hl, List.take_length] at hD1
    exact hd H s1 hD1
/-! ### walks over the bars of a tuple -/
theorem walk_bars {K : PySem.W.Frag} {a : Addr} {α : Type} {l : List α} {f : α → V} : Walk (Itt K a) l.length (fun H => SqT K H a (l.map f)) (fun i H x H' => H' = H ∧ ∃ z, l[i]? = some z ∧ x = f z) := by
  have e : l.length = (l.map f).length := by rw [List.length_map]
  rw [e]
  refine (walk_tup (K := K) (a := a) (xs := l.map f)).mono (fun H h => h) fun i H x H' _ _ y => ⟨y.1, ?_⟩
  have h := y.2
  rw [List.getElem?_map] at h
  cases q : l[i]? with
  | none => rw [q] at h; cases h
  | some z => rw [q] at h; cases h; exact ⟨z, rfl, rfl⟩
end DL

set_option Elab.async false
set_option maxRecDepth 100000
namespace DL
open PySem L2 HT TL
structure CabOk (C : Addr) (H : Hp) (c : Addr) (n : Int) (bs : List Bar) : Prop where
  h : ∃ (t : Addr) (ks : List (Addr × Bar)), CabAt C H c n t ∧ BarsAt H t ks ∧ ks.map (·.2) = bs ∧ OkBars n bs ∧ 1 ≤ n ∧ n ≤ 7 ∧ bs.length ≤ 100
theorem tYes_of {σ : L2.St} {H : Hp} {Q : Bool → Hp → Prop} (h : Q true H) : tYes σ H Q := h
theorem CabOk.same {C : Addr} {H H' : Hp} {c : Addr} {n : Int} {bs : List Bar} (B : CabOk C H c n bs) (s : Same H H') : CabOk C H' c n bs := by
  obtain ⟨t, ks, ⟨dx, h1⟩, h2, h3⟩ := B.h
  exact ⟨⟨t, ks, ⟨dx, s _ _ h1⟩, h2.same s, h3⟩⟩
structure spGetD (C : Addr) (vs : List V) (H : Hp) (Q : VK) (_ : XK) : Prop where
  h : ∃ (c dx : Addr) (n : Int) (t : Addr), vs = [.ref c] ∧ H c = some (.ins C dx (cfl n t)) ∧ Q (.int n) H
structure spGetB (C : Addr) (vs : List V) (H : Hp) (Q : VK) (_ : XK) : Prop where
  h : ∃ (c dx : Addr) (n : Int) (t : Addr), vs = [.ref c] ∧ H c = some (.ins C dx (cfl n t)) ∧ Q (.ref t) H
/-- the two properties of the class -/
structure CabP (P : Program) (w : World) (K : PySem.W.Frag) (mg : Str → Option Value) (base : Heap) (C : Addr) : Prop where
  cl : Cls K C
  d : ∃ p g fd, PropOf K C "drawers" p g ∧ FnOk P w K mg base CX0 1 g fd ["self"] (spGetD C) ∧ Binds K fd ["self"] []
  b : ∃ p g fd, PropOf K C "bars" p g ∧ FnOk P w K mg base CX0 1 g fd ["self"] (spGetB C) ∧ Binds K fd ["self"] []
structure spGoes (C : Addr) (vs : List V) (H : Hp) (Q : VK) (_ : XK) : Prop where
  h : ∃ (c : Addr) (bs : List Bar) (st : List Bool) (d : Int), vs = [.ref c, .str (sstr st), .int d] ∧ CabOk C H c st.length bs ∧ 0 ≤ d ∧ d < st.length ∧ ∀ H', Same H H' → Q (.bl (goesB bs st d)) H'
structure spBarring (C : Addr) (vs : List V) (H : Hp) (Q : VK) (_ : XK) : Prop where
  h : ∃ (c t : Addr) (ks : List (Addr × Bar)) (st : List Bool) (d : Int), vs = [.ref c, .str (sstr st), .int d] ∧ CabAt C H c st.length t ∧ BarsAt H t ks ∧ OkBars st.length (ks.map (·.2)) ∧ st.length ≤ 7 ∧ ks.length ≤ 100 ∧ 0 ≤ d ∧ d < st.length ∧
    ∀ (p : Addr) (H' : Hp), H p = none → Same H H' → H' p = some (.lst ((ks.filter fun k => hind k.2 st d).map fun k => V.ref k.1)) → Q (.ref p) H'
structure spFreeDrawers (C : Addr) (vs : List V) (H : Hp) (Q : VK) (_ : XK) : Prop where
  h : ∃ (c : Addr) (bs : List Bar) (st : List Bool), vs = [.ref c, .str (sstr st)] ∧ CabOk C H c st.length bs ∧ ∀ (p : Addr) (H' : Hp), H p = none → Same H H' → H' p = some (.lst ((freeL bs st).map V.int)) → Q (.ref p) H'
theorem take_succ_map {α β : Type} (f : α → β) {l : List α} {i : Nat} {x : α} (h : l[i]? = some x) : (l.take i).map f ++ [f x] = (l.take (i + 1)).map f := by
  obtain ⟨hl, e⟩ := List.getElem?_eq_some_iff.mp h
  rw [List.take_succ_eq_append_getElem hl, List.map_append, ← e]
  rfl
theorem any_take {ks : List (Addr × Bar)} {bs : List Bar} (e : ks.map (·.2) = bs) (f : Bar → Bool) : ((ks.take (ks.map fun k => V.ref k.1).length).map fun k => f k.2).any id = bs.any f := by
  rw [List.length_map, List.take_length, ← e, List.any_map, List.any_map]
  rfl
section
variable {P : Program} {w : World} {K : PySem.W.Frag} {mg : Str → Option Value} {base : Heap}
theorem scDrawers : FnScope ["self"] ["self"] (defScope sDrawers) := ⟨rfl, rfl, rfl, by decide +kernel, rfl, by decide +kernel, by decide +kernel⟩
theorem ok_getD {f C : Addr} {fd : FuncData} (F : Fun K "drawers" "Cabinet.drawers" sDrawers f fd) (T : CabT K mg C) : FnOk P w K mg base CX0 1 f fd ["self"] (spGetD C) := by
  refine F.ok scDrawers (fun vs H Q E h => ?_) (fun cdv A outer s H vs Q E hr h => ?_)
  · obtain ⟨c, dx, n, t, rfl, _⟩ := h.h
    rfl
  · obtain ⟨c, dx, n, t, rfl, hc, k⟩ := h.h
    exact ⟨_, pss_one (ps_ret (pe_fld (pv 0) rfl)), ⟨_, rfl, c, C, dx, _, _, rfl, hc, T.cl, T.nD, cfl_d n t, k⟩⟩
theorem scBars : FnScope ["self"] ["self"] (defScope sBars) := ⟨rfl, rfl, rfl, by decide +kernel, rfl, by decide +kernel, by decide +kernel⟩
theorem ok_getB {f C : Addr} {fd : FuncData} (F : Fun K "bars" "Cabinet.bars" sBars f fd) (T : CabT K mg C) : FnOk P w K mg base CX0 1 f fd ["self"] (spGetB C) := by
  refine F.ok scBars (fun vs H Q E h => ?_) (fun cdv A outer s H vs Q E hr h => ?_)
  · obtain ⟨c, dx, n, t, rfl, _⟩ := h.h
    rfl
  · obtain ⟨c, dx, n, t, rfl, hc, k⟩ := h.h
    exact ⟨_, pss_one (ps_ret (pe_fld (pv 0) rfl)), ⟨_, rfl, c, C, dx, _, _, rfl, hc, T.cl, T.nB, cfl_b n t, k⟩⟩
abbrev nGoes : List Str := ["cabinet", "standing", "drawer", "bar"]
theorem scAg : FnScope nGoes ["cabinet", "standing", "drawer"] (defScope s_bars_against) := ⟨rfl, rfl, rfl, by decide +kernel, rfl, by decide +kernel, by decide +kernel⟩
theorem ok_against {f f1 C : Addr} {fd fd1 : FuncData} (F : Fun K "bars_against" "bars_against" s_bars_against f fd) (CP : CabP P w K mg base C) (G : FnOk P w K mg base CX0 1 f1 fd1 ["bar", "standing", "drawer"] (spHold K)) (g1 : mg "hinders" = some (.ref f1)) (k1 : PySem.W.keepIn K (.ref f1) = true) (b1 : Binds K fd1 ["bar", "standing", "drawer"] []) :
    FnOk P w K mg base CX0 4 f fd ["cabinet", "standing", "drawer"] (spBarring C) := by
  refine F.ok scAg (fun vs H Q E h => ?_) (fun cdv A outer s H vs Q E hr h => ?_)
  · obtain ⟨c, t, ks, st, d, rfl, _⟩ := h.h
    rfl
  · obtain ⟨c, t, ks, st, d, rfl, ⟨dx, hc⟩, B, O, n7, n100, d0, d1, k⟩ := h.h
    obtain ⟨pB, gB, fdB, hpB, GB, bB⟩ := CP.b
    refine ⟨_, pss_one (ps_ret (pe_lc (own := [("bar", 3)]) (g := gName 3) (by rfl) scAg.nd (pi_tup (pe_prop (pv 0) CP.cl hpB GB (hr.mono (by decide)) bB .nil pass0 rfl)) (blkOk_by (N := nGoes) (sc := defScope s_bars_against) (by decide +kernel)) (fun _ _ _ _ _ => pg_name (i := 3) scAg.nd rfl (Or.inl rfl))
        (fun _ _ _ _ _ => pts_one (pt_val (pe_call G (hr.mono (by decide)) rfl g1 k1 b1 .nil pass0 (pa_cons (pv 3) (pa_cons (pv 1) (pa_cons (pv 2) pa_nil)))))) (fun _ _ _ _ _ => pv 3))), ?_⟩
    refine ⟨_, rfl, c, dx, _, rfl, hc, ⟨⟨c, dx, _, t, rfl, hc, ?_⟩⟩⟩
    refine ⟨t, rfl, ⟨_, SqT.of' B.tu⟩, fun D hD => ?_⟩
    refine lc_pick (walk_bars (K := K) (a := t) (l := ks) (f := fun k => V.ref k.1)) ks rfl (by omega) (fun k => hind k.2 st d) (fun k => V.ref k.1) hD (fun H' s1 => SqT.of' (s1 _ _ B.tu)) ?_ (fun H' s1 hD1 => k D H' hD s1 hD1)
    rintro i x kk H1 H1' Tk Nk ek s1 ⟨rfl, z, ez, rfl⟩ kT kF
    rw [ek] at ez
    cases ez
    have hm : kk ∈ ks := List.mem_of_getElem? ek
    have hok : kk.2.ok st.length := O.ok _ (List.mem_map.mpr ⟨kk, hm, rfl⟩)
    refine ⟨rfl, ?_⟩
    refine ⟨_, rfl, _, rfl, _, rfl, ⟨⟨kk.1, kk.2, st, d, rfl, SqT.of' (s1 _ _ (B.el kk hm)), hok, by omega, d0, d1, _, rfl, ?_⟩⟩⟩
    cases e : hind kk.2 st d with
    | true => exact iteT ⟨_, rfl, kT _ e (Same.refl _)⟩
    | false => exact iteF (kF _ e (Same.refl _))
theorem goes_empty {ks : List (Addr × Bar)} {bs : List Bar} (e : ks.map (·.2) = bs) (st : List Bool) (d : Int) : ((ks.filter fun k => hind k.2 st d).map fun k => V.ref k.1).isEmpty = goesB bs st d := by
  subst e
  unfold goesB
  induction ks with
  | nil => rfl
  | cons k ks ih =>
    rw [List.map_cons, List.any_cons]
    by_cases q : hind k.2 st d = true
    · rw [List.filter_cons, if_pos q, q]
      rfl
    · rw [List.filter_cons, if_neg q]
      have q' : hind k.2 st d = false := by simpa using q
      rw [q', Bool.false_or]
      exact ih
theorem scGoes : FnScope ["cabinet", "standing", "drawer"] ["cabinet", "standing", "drawer"] (defScope s_goes) := ⟨rfl, rfl, rfl, by decide +kernel, rfl, by decide +kernel, by decide +kernel⟩
theorem ok_goes {f f1 C : Addr} {fd fd1 : FuncData} (F : Fun K "goes" "goes" s_goes f fd) (G : FnOk P w K mg base CX0 4 f1 fd1 ["cabinet", "standing", "drawer"] (spBarring C)) (g1 : mg "bars_against" = some (.ref f1)) (k1 : PySem.W.keepIn K (.ref f1) = true) (b1 : Binds K fd1 ["cabinet", "standing", "drawer"] []) :
    FnOk P w K mg base CX0 6 f fd ["cabinet", "standing", "drawer"] (spGoes C) := by
  refine F.ok scGoes (fun vs H Q E h => ?_) (fun cdv A outer s H vs Q E hr h => ?_)
  · obtain ⟨c, bs, st, d, rfl, _⟩ := h.h
    rfl
  · obtain ⟨c, bs, st, d, rfl, B, d0, d1, k⟩ := h.h
    obtain ⟨t, ks, hc, hB, ebs, O, n1, n7, n100⟩ := B.h
    refine ⟨_, pss_one (ps_ret (pe_notT (pe_call G (hr.mono (by decide)) rfl g1 k1 b1 .nil pass0 (pa_cons (pv 0) (pa_cons (pv 1) (pa_cons (pv 2) pa_nil)))))), ?_⟩
    refine ⟨_, rfl, _, rfl, _, rfl, ⟨⟨c, t, ks, st, d, rfl, hc, hB, by rw [ebs]; exact O, by omega, by rw [← ebs, List.length_map] at n100; exact n100, d0, d1, fun p H' hp s1 h1 => ?_⟩⟩⟩
    refine ⟨_, .inl ⟨_, SqL.of h1, rfl⟩, ?_⟩
    rw [Bool.not_not, goes_empty ebs]
    exact k H' s1
end
end DL

set_option Elab.async false
set_option maxRecDepth 100000
namespace DL
open PySem L2 HT TL
theorem drs_get {n i : Nat} (h : i < n) : (drs n)[i]? = some (i : Int) := by
  unfold drs
  rw [List.getElem?_map, List.getElem?_range h]
  rfl
theorem take_succ_filter {α : Type} (f : α → Bool) {l : List α} {i : Nat} {x : α} (h : l[i]? = some x) : (l.take (i + 1)).filter f = if f x = true then (l.take i).filter f ++ [x] else (l.take i).filter f := by
  obtain ⟨hl, e⟩ := List.getElem?_eq_some_iff.mp h
  rw [List.take_succ_eq_append_getElem hl, List.filter_append, e]
  by_cases q : f x = true
  · rw [if_pos q, List.filter_cons_of_pos q, List.filter_nil]
  · rw [if_neg q, List.filter_cons_of_neg q, List.filter_nil, List.append_nil]
theorem drs_len (n : Nat) : (drs n).length = n := by unfold drs; rw [List.length_map, List.length_range]
/-- a drawn cabinet's parts: the list at p -/
structure DrOk (H : Hp) (p : Addr) (n : Int) (bs : List Bar) : Prop where
  h : ∃ (t : Addr) (ks : List (Addr × Bar)) (zs : List V), H p = some (.lst (.int n :: .ref t :: zs)) ∧ BarsAt H t ks ∧ ks.map (·.2) = bs ∧ OkBars n bs ∧ 1 ≤ n ∧ n ≤ 7 ∧ bs.length ≤ 100
theorem DrOk.same {H H' : Hp} {p : Addr} {n : Int} {bs : List Bar} (B : DrOk H p n bs) (s : Same H H') : DrOk H' p n bs := by
  obtain ⟨t, ks, zs, h1, h2, h3⟩ := B.h
  exact ⟨⟨t, ks, zs, s _ _ h1, h2.same s, h3⟩⟩
structure spLawFree (vs : List V) (H : Hp) (Q : VK) (_ : XK) : Prop where
  h : ∃ (p : Addr) (bs : List Bar) (st : List Bool), vs = [.ref p, .str (sstr st)] ∧ DrOk H p st.length bs ∧ ∀ (q : Addr) (H' : Hp), H q = none → Same H H' → H' q = some (.lst ((freeL bs st).map V.int)) → Q (.ref q) H'
theorem occ_so (b : Bool) : Builtin.Str.occurrences ("so" : Str) ⟨#[sg b]⟩ 0 ("so" : Str).length 1 = [if b = true then 1 else 0] := by revert b; decide +kernel
theorem os_at (b : Bool) : atI ("os" : Str).cps.toList (((if b = true then 1 else 0 : Nat) : Int)) = some (sg (!b)) := by revert b; decide +kernel
theorem join_codes (cs : List Nat) : Txt.join "" (cs.map fun c => (⟨#[c]⟩ : Str)) = ⟨cs.toArray⟩ := by
  rw [join_eq]
  refine PyProof.Rows.ext_toList ?_
  show tl _ = cs
  rw [tl_join]
  have z : tl ("" : Str) = [] := by decide +kernel
  rw [z]
  have : ∀ l : List Nat, joinL [] ((l.map fun c => (⟨#[c]⟩ : Str)).map tl) = l := by
    intro l
    induction l with
    | nil => rfl
    | cons a l ih =>
      cases l with
      | nil => rfl
      | cons b l =>
        show [a] ++ ([] ++ joinL [] (((b :: l).map fun c => (⟨#[c]⟩ : Str)).map tl)) = _
        rw [ih]
        rfl
  exact this cs
theorem sum_ones (cs : List Nat) : ((cs.map fun c => (⟨#[c]⟩ : Str)).map (·.length)).sum = cs.length := by
  induction cs with
  | nil => rfl
  | cons a l ih =>
    rw [List.map_cons, List.map_cons, List.sum_cons, ih, List.length_cons]
    show 1 + l.length = _
    omega
theorem flip_sat {st : List Bool} {d : Int} {i : Nat} (h : i < st.length) (d0 : 0 ≤ d) : (flip st d)[i]? = some (if (i : Int) = d then !sat st d else sat st i) := by
  unfold flip sat
  rw [Int.toNat_natCast]
  by_cases q : (i : Int) = d
  · subst q
    rw [if_pos rfl, Int.toNat_natCast, List.getElem?_set_self h]
  · rw [if_neg q, List.getElem?_set_ne (by omega), List.getD_eq_getElem?_getD, List.getElem?_eq_getElem h]
    rfl
section
variable {P : Program} {w : World} {K : PySem.W.Frag} {mg : Str → Option Value} {base : Heap}
abbrev nFD : List Str := ["cabinet", "standing", "drawer"]
theorem scFD : FnScope nFD ["cabinet", "standing"] (defScope s_free_drawers) := ⟨rfl, rfl, rfl, by decide +kernel, rfl, by decide +kernel, by decide +kernel⟩
theorem ok_freeDrawers {f f1 C : Addr} {fd fd1 : FuncData} (F : Fun K "free_drawers" "free_drawers" s_free_drawers f fd) (T : Bt mg) (CP : CabP P w K mg base C) (G : FnOk P w K mg base CX0 6 f1 fd1 ["cabinet", "standing", "drawer"] (spGoes C)) (g1 : mg "goes" = some (.ref f1)) (k1 : PySem.W.keepIn K (.ref f1) = true) (b1 : Binds K fd1 ["cabinet", "standing", "drawer"] []) :
    FnOk P w K mg base CX0 8 f fd ["cabinet", "standing"] (spFreeDrawers C) := by
  refine F.ok scFD (fun vs H Q E h => ?_) (fun cdv A outer s H vs Q E hr h => ?_)
  · obtain ⟨c, bs, st, rfl, _⟩ := h.h
    rfl
  · obtain ⟨c, bs, st, rfl, B, k⟩ := h.h
    obtain ⟨t, ks, ⟨dx, hc⟩, hB, ebs, O, n1, n7, n100⟩ := id B.h
    obtain ⟨pD, gD, fdD, hpD, GD, bD⟩ := CP.d
    refine ⟨_, pss_one (ps_ret
      (pe_lc (own := [("drawer", 2)]) (g := gName 2) (by rfl) scFD.nd (pi_range1 (by rfl) T.range (pa_cons (pe_prop (pv 0) CP.cl hpD GD (hr.mono (by decide)) bD .nil pass0 rfl) pa_nil)) (blkOk_by (N := nFD) (sc := defScope s_free_drawers) (by decide +kernel)) (fun _ _ _ _ _ => pg_name (i := 2) scFD.nd rfl (by first | exact Or.inl rfl | exact Or.inr rfl))
        (fun _ _ _ _ _ => pts_one (pt_val (pe_call G (hr.mono (by decide)) rfl g1 k1 b1 .nil pass0 (pa_cons (pv 0) (pa_cons (pv 1) (pa_cons (pv 2) pa_nil)))))) (fun _ _ _ _ _ => pv 2))), ?_⟩
    refine ⟨_, rfl, c, dx, _, rfl, hc, ⟨⟨c, dx, _, t, rfl, hc, ?_⟩⟩⟩
    refine ⟨_, rfl, by omega, by omega, fun D hD => ?_⟩
    refine lc_range (lo := 0) (n := st.length) (fun i H' => Same H H' ∧ H' D = some (.lst ((((drs st.length).take i).filter fun d => goesB bs st d).map V.int))) ⟨same_upd hD, upd_same⟩ ?_ ?_
    · rintro i H' hi ⟨s1, hD1⟩
      refine ⟨rfl, ?_⟩
      have ei : (0 : Int) + (i : Nat) = (i : Int) := by omega
      refine ⟨_, rfl, _, rfl, _, rfl, ⟨⟨c, bs, st, (0 : Int) + (i : Nat), rfl, B.same s1, by omega, by omega, fun H2 s2 => ⟨_, rfl, ?_⟩⟩⟩⟩
      rw [take_succ_filter (fun d => goesB bs st d) (drs_get hi), ei]
      cases e : goesB bs st i with
      | true =>
        refine iteT ⟨_, rfl, _, s2 _ _ hD1, ?_, fun b o eb => ?_, ?_⟩
        · rw [List.length_map]
          have := List.length_filter_le (fun d => goesB bs st d) ((drs st.length).take i)
          rw [List.length_take, drs_len] at this
          exact small1000 (by omega)
        · rw [upd_ne (ne_of_none eb hD)]
          exact s2 _ _ (s1 _ _ eb)
        · rw [upd_same, if_pos rfl, List.map_append]
          rfl
      | false =>
        refine iteF ⟨fun b o eb => s2 _ _ (s1 _ _ eb), ?_⟩
        rw [if_neg Bool.false_ne_true]
        exact s2 _ _ hD1
    · rintro H' ⟨s1, hD1⟩
      refine k D H' hD s1 ?_
      rw [List.take_of_length_le (by rw [drs_len]; exact Nat.le_refl _)] at hD1
      exact hD1
theorem scLHold : FnScope ["_law_bar", "_law_standing", "_law_drawer"] ["_law_bar", "_law_standing", "_law_drawer"] (defScope s__law_hold) := ⟨rfl, rfl, rfl, by decide +kernel, rfl, by decide +kernel, by decide +kernel⟩
theorem ok_lawHold {f : Addr} {fd : FuncData} (F : Fun K "_law_hold" "_law_hold" s__law_hold f fd) : FnOk P w K mg base CX0 1 f fd ["_law_bar", "_law_standing", "_law_drawer"] (spHold K) := by
  refine F.ok scLHold (fun vs H Q E h => ?_) (fun cdv A outer s H vs Q E hr h => ?_)
  · obtain ⟨a, b, st, d, rfl, _⟩ := h.h
    rfl
  · obtain ⟨a, b, st, d, rfl, hq, hb, h7, d0, d1, k⟩ := h.h
    obtain ⟨b1, b2, b3, b4, b5⟩ := hb
    refine ⟨_, pss_cons (ps_if (PW.pt (pw_or (pt_cmpR op_ne (pe_ix ix_tup (pv 0) pe_int (fun _ _ => rfl)) (pv 2) (nomark _)) (pw_or1 (pt_cmpR op_ne (pe_ix ix_tup (pv 0) pe_int (fun _ _ => rfl)) (pe_ifExp (pt_cmpR op_eq (pe_ix ix_str (pv 1) (pv 2) (fun _ _ => rfl)) pe_str (nomark _)) pe_str pe_str) (nomark _))))) (pss_one (ps_ret pe_bl)) pss_nil)
      (pss_one (ps_ret (pe_cmpR op_ne (pe_ix ix_tup (pv 0) pe_int (fun _ _ => rfl)) (pe_ifExp (pt_cmpR op_eq (pe_ix ix_str (pv 1) (pe_ix ix_tup (pv 0) pe_int (fun _ _ => rfl)) (fun _ _ => rfl)) pe_str (nomark _)) pe_str pe_str) (nomark _)))), ?_⟩
    refine ⟨_, rfl, a, _, 0, .int b.d, rfl, rfl, hq, atI_nat (j := 0) rfl, _, rfl, rfl, _, rfl, ?_⟩
    have e0 : decide ((V.int b.d) = V.int d) = decide (b.d = d) := decide_eq_decide.mpr ⟨fun z => by injection z, fun z => by rw [z]⟩
    show if (!decide ((V.int b.d) = V.int d)) = true then _ else _
    rw [e0]
    unfold hind at k
    by_cases q : b.d = d
    · rw [decide_eq_true q] at k ⊢
      refine iteF ?_
      refine ⟨_, rfl, a, _, 1, .str (wd b.w), rfl, rfl, hq, atI_nat (j := 1) rfl, ?_⟩
      refine ⟨_, rfl, _, rfl, _, d, _, rfl, rfl, str_small h7, sstr_at d0 d1, rfl, _, rfl, ?_⟩
      show if decide ((V.str ⟨#[sg (sat st d)]⟩) = V.str "s") = true then _ else _
      rw [sgs_s]
      have second : ∀ H0 : Hp, H0 = H → (sat st d == b.w) = true → (tRet (tOp rNe (tOp (rIxT K) (tVar 0) (tC (.int 3))) (tIf (tTest (tOp rEq (tOp rIxS (tVar 1) (tOp (rIxT K) (tVar 0) (tC (.int 2)))) (tC (.str "o")))) (tC (.str "open")) (tC (.str "shut"))))
          { nx := fun _ H' => Q .non H', rt := Q } (L2.start ["_law_bar", "_law_standing", "_law_drawer"] [.ref a, .str (sstr st), .int d]) H0) := by
        intro H0 e0 e1
        subst e0
        rw [e1] at k
        refine ⟨_, rfl, a, _, 3, .str (wd b.t), rfl, rfl, hq, atI_nat (j := 3) rfl, ?_⟩
        refine ⟨_, rfl, _, rfl, a, _, 2, .int b.o, rfl, rfl, hq, atI_nat (j := 2) rfl, _, b.o, _, rfl, rfl, str_small h7, sstr_at b3 b4, rfl, _, rfl, ?_⟩
        show if decide ((V.str ⟨#[sg (sat st b.o)]⟩) = V.str "o") = true then _ else _
        rw [sgs_o]
        cases e : sat st b.o with
        | true =>
          rw [e] at k
          refine iteT ⟨rfl, ?_⟩
          show Q (.bl (!decide ((V.str (wd b.t)) = V.str (wd false)))) H0
          rw [wd_ne]
          revert k; cases b.t <;> exact id
        | false =>
          rw [e] at k
          refine iteF ⟨rfl, ?_⟩
          show Q (.bl (!decide ((V.str (wd b.t)) = V.str (wd true)))) H0
          rw [wd_ne]
          revert k; cases b.t <;> exact id
      cases e : sat st d with
      | false =>
        refine iteT ⟨rfl, _, rfl, ?_⟩
        show if (!decide ((V.str (wd b.w)) = V.str (wd false))) = true then _ else _
        rw [wd_ne]
        cases ew : b.w with
        | false => exact iteF (second H rfl (by rw [e, ew]; rfl))
        | true =>
          rw [e, ew] at k
          exact iteT k
      | true =>
        refine iteF ⟨rfl, _, rfl, ?_⟩
        show if (!decide ((V.str (wd b.w)) = V.str (wd true))) = true then _ else _
        rw [wd_ne]
        cases ew : b.w with
        | true => exact iteF (second H rfl (by rw [e, ew]; rfl))
        | false =>
          rw [e, ew] at k
          exact iteT k
    · rw [decide_eq_false q] at k ⊢
      exact iteT k
end
end DL

set_option Elab.async false
set_option maxRecDepth 100000
namespace DL
open PySem L2 HT TL
section
variable {P : Program} {w : World} {K : PySem.W.Frag} {mg : Str → Option Value} {base : Heap}
abbrev nLF : List Str := ["_law_d", "_law_standing", "_law_drawer", "_law_bar"]
theorem scLF : FnScope nLF ["_law_d", "_law_standing"] (defScope s__law_free) := ⟨rfl, rfl, rfl, by decide +kernel, rfl, by decide +kernel, by decide +kernel⟩
theorem ok_lawFree {f f1 : Addr} {fd fd1 : FuncData} (F : Fun K "_law_free" "_law_free" s__law_free f fd) (T : Bt mg) (G : FnOk P w K mg base CX0 1 f1 fd1 ["_law_bar", "_law_standing", "_law_drawer"] (spHold K)) (g1 : mg "_law_hold" = some (.ref f1)) (k1 : PySem.W.keepIn K (.ref f1) = true)
    (b1 : Binds K fd1 ["_law_bar", "_law_standing", "_law_drawer"] []) (zA : mg "any" = none) : FnOk P w K mg base CX0 2 f fd ["_law_d", "_law_standing"] spLawFree := by
  refine F.ok scLF (fun vs H Q E h => ?_) (fun cdv A outer s H vs Q E hr h => ?_)
  · obtain ⟨p, bs, st, rfl, _⟩ := h.h
    rfl
  · obtain ⟨p, bs, st, rfl, B, k⟩ := h.h
    obtain ⟨t, ks, zs, hp, hB, ebs, O, n1, n7, n100⟩ := id B.h
    refine ⟨_, pss_one (ps_ret
      (pe_lc (own := [("_law_drawer", 2)]) (g := gName 2) (by rfl) scLF.nd (pi_range1 (by rfl) T.range (pa_cons (pe_ix ix_list (pv 0) pe_int (fun _ _ => rfl)) pa_nil)) (blkOk_by (N := nLF) (sc := defScope s__law_free) (by decide +kernel)) (fun _ _ _ _ _ => pg_name (i := 2) scLF.nd rfl (by first | exact Or.inl rfl | exact Or.inr rfl))
        (fun _ _ _ _ _ => pts_one (pt_not (pt_val (pe_callB (cr_anyK (K := K) rfl rfl) (by rfl) zA boot_any_ (pa_cons
          (by exact (pe_lc (own := [("_law_bar", 3)]) (g := gName 3) (tt := tYes) (by rfl) scLF.nd (pi_tupK (K := K) rfl (pe_ix (ix_listK (K := K) rfl) (pv 0) pe_int (fun _ _ => rfl))) (blkOk_by (N := nLF) (by rfl)) (fun _ _ _ _ _ => pg_name (i := 3) scLF.nd rfl (Or.inl rfl)) (fun _ _ _ _ _ => pts_nil)
            (fun _ _ _ _ _ => pe_call G (hr.mono (by decide)) rfl g1 k1 b1 .nil pass0 (pa_cons (pv 3) (pa_cons (pv 1) (pa_cons (pv 2) pa_nil)))))) pa_nil))))) (fun _ _ _ _ _ => pv 2))), ?_⟩
    refine ⟨_, rfl, p, _, 0, .int _, rfl, rfl, SqL.of hp, atI_nat (j := 0) rfl, _, rfl, by omega, by omega, fun D hD => ?_⟩
    refine lc_range (lo := 0) (n := st.length) (fun i H' => Same H H' ∧ H' D = some (.lst ((((drs st.length).take i).filter fun d => goesB bs st d).map V.int))) ⟨same_upd hD, upd_same⟩ ?_ ?_
    · rintro i H' hi ⟨s1, hD1⟩
      refine ⟨rfl, ?_⟩
      have ei : (0 : Int) + (i : Nat) = (i : Int) := by omega
      refine ⟨_, rfl, p, _, 1, .ref t, rfl, rfl, SqL.of (s1 _ _ hp), atI_nat (j := 1) rfl, t, rfl, ⟨_, SqT.of' (s1 _ _ hB.tu)⟩, fun D2 hD2 => ?_⟩
      refine lc_tup (K := K) (a := t) (xs := ks.map fun k => V.ref k.1) (fun j H2 => Same H' H2 ∧ H2 D2 = some (.lst (((ks.take j).map fun k => hind k.2 st i).map V.bl))) ⟨same_upd hD2, upd_same⟩ (fun j H2 _ q => SqT.of' (q.1 _ _ (s1 _ _ hB.tu))) ?_ ?_
      · rintro j x H2 hj ⟨s2, hD3⟩
        rw [List.getElem?_map] at hj
        cases ek : ks[j]? with
        | none => rw [ek] at hj; cases hj
        | some kk =>
          rw [ek] at hj
          cases hj
          have hm : kk ∈ ks := List.mem_of_getElem? ek
          have hok : kk.2.ok st.length := O.ok _ (by rw [← ebs]; exact List.mem_map.mpr ⟨kk, hm, rfl⟩)
          refine ⟨rfl, tYes_of (iteT ?_)⟩
          refine ⟨_, rfl, _, rfl, _, rfl, ⟨⟨kk.1, kk.2, st, (0 : Int) + (i : Nat), rfl, SqT.of' (s2 _ _ (s1 _ _ (hB.el kk hm))), hok, by omega, by omega, by omega, ?_⟩⟩⟩
          refine ⟨_, hD3, ?_, fun b o e => ?_, ?_⟩
          · rw [List.length_map, List.length_map, List.length_take]
            have h2 : ks.length ≤ 100 := by rw [← ebs, List.length_map] at n100; exact n100
            exact small1000 (by omega)
          · rw [upd_ne (ne_of_none e hD2)]
            exact s2 b o e
          · rw [upd_same, ei]
            congr 2
            rw [List.map_map, List.map_map]
            exact take_succ_map (V.bl ∘ fun k => hind k.2 st i) ek
      · rintro H2 ⟨s2, hD3⟩
        refine ⟨D2, _, rfl, SqL.of hD3, _, rfl, ?_⟩
        rw [any_take ebs fun b => hind b st i]
        rw [take_succ_filter (fun d => goesB bs st d) (drs_get hi)]
        show if (goesB bs st i) = true then _ else _
        cases e : goesB bs st i with
        | true =>
          refine iteT ⟨_, rfl, _, s2 _ _ hD1, ?_, fun b o eb => ?_, ?_⟩
          · rw [List.length_map]
            have := List.length_filter_le (fun d => goesB bs st d) ((drs st.length).take i)
            rw [List.length_take, drs_len] at this
            exact small1000 (by omega)
          · rw [upd_ne (ne_of_none eb hD)]
            exact s2 _ _ (s1 _ _ eb)
          · rw [upd_same, if_pos rfl, List.map_append, ei]
            rfl
        | false =>
          refine iteF ⟨fun b o eb => s2 _ _ (s1 _ _ eb), ?_⟩
          rw [if_neg Bool.false_ne_true]
          exact s2 _ _ hD1
    · rintro H' ⟨s1, hD1⟩
      refine k D H' hD s1 ?_
      rw [List.take_of_length_le (by rw [drs_len]; exact Nat.le_refl _)] at hD1
      exact hD1
abbrev nLM : List Str := ["_law_standing", "_law_drawer", "_law_at"]
theorem scLM : FnScope nLM ["_law_standing", "_law_drawer"] (defScope s__law_moved) := ⟨rfl, rfl, rfl, by decide +kernel, rfl, by decide +kernel, by decide +kernel⟩
theorem ok_lawMoved {f : Addr} {fd : FuncData} (F : Fun K "_law_moved" "_law_moved" s__law_moved f fd) (T : Bt mg) : FnOk P w K mg base CX0 1 f fd ["_law_standing", "_law_drawer"] spMoved := by
  refine F.ok scLM (fun vs H Q E h => ?_) (fun cdv A outer s H vs Q E hr h => ?_)
  · obtain ⟨st, d, rfl, _⟩ := h.h
    rfl
  · obtain ⟨st, d, rfl, h7, d0, d1, k⟩ := h.h
    refine ⟨_, pss_one (ps_ret (pe_join pe_str
      (pe_lc (own := [("_law_at", 2)]) (g := gName 2) (tt := tYes) (by rfl) scLM.nd (pi_range1 (by rfl) T.range (pa_cons (pe_callB call_len_str (by rfl) T.len PySem.boot_len (pa_cons (pv 0) pa_nil)) pa_nil)) (blkOk_by (N := nLM) (sc := defScope s__law_moved) (by decide +kernel)) (fun _ _ _ _ _ => pg_name (i := 2) scLM.nd rfl (by first | exact Or.inl rfl | exact Or.inr rfl)) (fun _ _ _ _ _ => pts_nil)
        (fun _ _ _ _ _ => pe_ifExp (pt_cmpR op_ne (pv 2) (pv 1) (nomark _)) (pe_ix ix_str (pv 0) (pv 2) (fun _ _ => rfl)) (pe_ix ix_str pe_str (pe_bmK (K := K) rfl PySem.F.plainAttrs_str PySem.F.slot_str_index PySem.F.type_str_index mt_sindex pe_str (pa_cons (pe_ix ix_str (pv 0) (pv 2) (fun _ _ => rfl)) pa_nil)) (fun _ _ => rfl)))))), ?_⟩
    refine ⟨⟨_, rfl⟩, ?_⟩
    refine ⟨_, rfl, _, rfl, str_small h7, _, rfl, ?_⟩
    rw [sstr_len]
    refine ⟨by omega, by omega, fun D hD => ?_⟩
    refine lc_range (lo := 0) (n := st.length) (fun i H' => Same H H' ∧ H' D = some (.lst ((((flip st d).take i).map fun b => sgs b).map V.str))) ⟨same_upd hD, upd_same⟩ ?_ ?_
    · rintro i H' hi ⟨s1, hD1⟩
      refine ⟨rfl, tYes_of (iteT ?_)⟩
      have ei : (0 : Int) + (i : Nat) = (i : Int) := by omega
      have small : ((((flip st d).take i).map fun b => sgs b).map V.str).length < sizeLine := by
        rw [List.length_map, List.length_map, List.length_take, flip_len]
        exact small1000 (by omega)
      have fin : ∀ b : Bool, (flip st d)[i]? = some b → ∃ acc, H' D = some (.lst acc) ∧ acc.length < sizeLine ∧ Same H (upd H' D (.lst (acc ++ [.str ⟨#[sg b]⟩]))) ∧ (upd H' D (.lst (acc ++ [.str ⟨#[sg b]⟩]))) D = some (.lst ((((flip st d).take (i + 1)).map fun b => sgs b).map V.str)) := by
        intro b hb
        refine ⟨_, hD1, small, fun c o e => ?_, ?_⟩
        · rw [upd_ne (ne_of_none e hD)]
          exact s1 c o e
        · rw [upd_same, List.map_map, List.map_map, ← take_succ_map (V.str ∘ fun b => sgs b) hb]
          rfl
      refine ⟨_, rfl, _, rfl, rfl, _, rfl, ?_⟩
      have e0 : decide ((V.int ((0 : Int) + (i : Nat))) = V.int d) = decide ((i : Int) = d) := decide_eq_decide.mpr ⟨fun z => by injection z with z; omega, fun z => by rw [ei, z]⟩
      show if (!decide ((V.int ((0 : Int) + (i : Nat))) = V.int d)) = true then _ else _
      rw [e0]
      have fs := flip_sat (st := st) (d := d) hi d0
      by_cases q : (i : Int) = d
      · rw [decide_eq_true q]
        rw [if_pos q] at fs
        refine iteF ⟨rfl, ?_⟩
        refine ⟨_, rfl, _, rfl, _, (0 : Int) + (i : Nat), _, rfl, rfl, str_small h7, sstr_at (by omega) (by omega), ?_⟩
        refine ⟨_, _, _, [], rfl, rfl, occ_so _, _, _, _, rfl, rfl, (by decide +kernel), os_at _, ?_⟩
        rw [ei, q]
        exact fin _ fs
      · rw [decide_eq_false q]
        rw [if_neg q] at fs
        refine iteT ?_
        refine ⟨_, rfl, _, rfl, _, (0 : Int) + (i : Nat), _, rfl, rfl, str_small h7, sstr_at (by omega) (by omega), ?_⟩
        rw [ei]
        exact fin _ fs
    · rintro H' ⟨s1, hD1⟩
      rw [List.take_of_length_le (by rw [flip_len]; exact Nat.le_refl _)] at hD1
      have em : ((flip st d).map fun b => sgs b) = ((flip st d).map sg).map fun c => (⟨#[c]⟩ : Str) := by rw [List.map_map]; rfl
      rw [em] at hD1
      refine ⟨_, D, _, rfl, rfl, .inl (SqL.of hD1), ?_, ?_⟩
      · rw [sum_ones, List.length_map, List.length_map, flip_len]
        have z : ("" : Str).length = 0 := by decide +kernel
        rw [z]
        omega
      · rw [join_codes]
        exact k H' s1
end
end DL

set_option Elab.async false
set_option maxRecDepth 100000
namespace DL
open PySem L2 HT TL
/-! ### plain data: what == sees -/
/-- data of so many levels at most, whose texts are texts -/
def dok (k : Nat) (d : PyData) : Prop := d.canLay0 = true ∧ d.depth ≤ k
theorem dok_shaped {k : Nat} {d : PyData} (h : dok k d) (hk : k ≤ 64) : SeqAt.shaped d = true := by
  unfold SeqAt.shaped
  rw [h.1, decide_eq_true (Nat.le_trans h.2 hk)]
  rfl
theorem dok_all {k : Nat} : ∀ {ds : List PyData}, (∀ d ∈ ds, dok k d) → PyData.canLayAll0 ds = true ∧ PyData.depthAll ds ≤ k
  | [], _ => ⟨by simp [PyData.canLayAll0], by simp [PyData.depthAll]⟩
  | d :: ds, h => by
    obtain ⟨h1, h2⟩ := dok_all (ds := ds) fun e he => h e (List.mem_cons_of_mem _ he)
    obtain ⟨h3, h4⟩ := h d List.mem_cons_self
    refine ⟨by simp [PyData.canLayAll0, h1, h3], ?_⟩
    simp only [PyData.depthAll]
    omega
theorem dok_list {k : Nat} {ds : List PyData} (h : ∀ d ∈ ds, dok k d) : dok (k + 1) (.list ds) := by
  obtain ⟨h1, h2⟩ := dok_all h
  exact ⟨by simpa [PyData.canLay0] using h1, by simp only [PyData.depth]; omega⟩
theorem dok_tuple {k : Nat} {ds : List PyData} (h : ∀ d ∈ ds, dok k d) : dok (k + 1) (.tuple ds) := by
  obtain ⟨h1, h2⟩ := dok_all h
  exact ⟨by simpa [PyData.canLay0] using h1, by simp only [PyData.depth]; omega⟩
theorem dok_int (i : Int) : dok 1 (.int i) := ⟨by simp [PyData.canLay0], by simp [PyData.depth]⟩
theorem dpAll_ints {K : PySem.W.Frag} {H : Hp} : ∀ l : List Int, DpAll K H (l.map V.int) (l.map PyData.int)
  | [] => .nil
  | i :: l => .cons (.int i) (dpAll_ints l)
end DL
namespace DL
open PySem L2 HT TL
theorem dok_str {z : Str} (h : PyData.strOk z = true) : dok 1 (.str z) := ⟨by simpa [PyData.canLay0] using h, by simp [PyData.depth]⟩
theorem wd_strOk (b : Bool) : PyData.strOk (wd b) = true := by revert b; decide +kernel
def barD (b : Bar) : PyData := .tuple [.int b.d, .str (wd b.w), .int b.o, .str (wd b.t)]
theorem dok_bar (b : Bar) : dok 2 (barD b) := dok_tuple fun d hd => by
  simp only [List.mem_cons, List.not_mem_nil, or_false] at hd
  rcases hd with rfl | rfl | rfl | rfl
  · exact dok_int _
  · exact dok_str (wd_strOk _)
  · exact dok_int _
  · exact dok_str (wd_strOk _)
theorem dp_bar {K : PySem.W.Frag} {H : Hp} {a : Addr} {b : Bar} (h : SqT K H a b.vs) : Dp K H (.ref a) (barD b) := .tup h (.cons (.int _) (.cons (.str _) (.cons (.int _) (.cons (.str _) .nil))))
theorem dpAll_bars {K : PySem.W.Frag} {H : Hp} : ∀ {ks : List (Addr × Bar)}, (∀ k ∈ ks, H k.1 = some (.tup k.2.vs)) → DpAll K H (ks.map fun k => V.ref k.1) (ks.map fun k => barD k.2)
  | [], _ => .nil
  | k :: ks, h => .cons (dp_bar (SqT.of' (h k List.mem_cons_self))) (dpAll_bars fun j hj => h j (List.mem_cons_of_mem _ hj))
theorem dok_bars (ks : List (Addr × Bar)) : ∀ d ∈ ks.map (fun k => barD k.2), dok 2 d := fun d hd => by
  obtain ⟨k, _, rfl⟩ := List.mem_map.mp hd
  exact dok_bar k.2
theorem dok_ints (l : List Int) : ∀ d ∈ l.map PyData.int, dok 1 d := fun d hd => by
  obtain ⟨i, _, rfl⟩ := List.mem_map.mp hd
  exact dok_int i
theorem eqv_self {k : Nat} {d : PyData} (h : dok k d) : PyData.eqv d d = true := SeqAt.eqv_refl d h.1
end DL

set_option Elab.async false
set_option maxRecDepth 100000
namespace DL
open PySem L2 HT TL
/-! ### the checks -/
/-- isinstance of a cabinet -/
structure CabI (K : PySem.W.Frag) (mg : Str → Option Value) (C : Addr) : Prop where
  cl : Cls K C
  mgC : mg "Cabinet" = some (.ref C)
  ha : PySem.W.findIn K (.ref C) "__class__" = some (some (.builtin "object.__class__"))
  hn : PySem.W.specialIn K (.builtin "object.__class__") "__get__" = some (some (.builtin "getset_descriptor.__get__"))
  htk : PySem.W.takesIn K (.builtin "object.__class__") = some true
  hm : PySem.W.mroIn K C (.type "object") = some true
  kk : PySem.W.kitOne K (.ref C) (.ref C) = some true
structure spCkCab (C : Addr) (vs : List V) (H : Hp) (Q : VK) (_ : XK) : Prop where
  h : ∃ (c : Addr) (n : Int) (t : Addr), vs = [.ref c] ∧ CabAt C H c n t ∧ Q .non H
structure spCkDrawer (C : Addr) (vs : List V) (H : Hp) (Q : VK) (_ : XK) : Prop where
  h : ∃ (c : Addr) (n d : Int) (t : Addr), vs = [.ref c, .int d] ∧ CabAt C H c n t ∧ 0 ≤ d ∧ d < n ∧ Q .non H
theorem CabOk.cab {C : Addr} {H : Hp} {c : Addr} {n : Int} {bs : List Bar} (B : CabOk C H c n bs) : ∃ t, CabAt C H c n t ∧ n ≤ 7 := by
  obtain ⟨t, ks, h1, h2, h3, h4, h5, h6, h7⟩ := B.h
  exact ⟨t, h1, h6⟩
section
variable {P : Program} {w : World} {K : PySem.W.Frag} {mg : Str → Option Value} {base : Heap}
theorem scCkCab : FnScope ["cabinet"] ["cabinet"] (defScope s_check_cabinet) := ⟨rfl, rfl, rfl, by decide +kernel, rfl, by decide +kernel, by decide +kernel⟩
theorem ok_ckCab {f C : Addr} {fd : FuncData} (F : Fun K "check_cabinet" "check_cabinet" s_check_cabinet f fd) (T : Bt mg) (I : CabI K mg C) : FnOk P w K mg base CX0 1 f fd ["cabinet"] (spCkCab C) := by
  refine F.ok scCkCab (fun vs H Q E h => ?_) (fun cdv A outer s H vs Q E hr h => ?_)
  · obtain ⟨c, n, t, rfl, _⟩ := h.h
    rfl
  · obtain ⟨c, n, t, rfl, ⟨dx, hc⟩, k⟩ := h.h
    refine ⟨_, pss_one (ps_if (pt_not (pt_val (pe_callB call_isi (by rfl) T.isinstance (by decide +kernel) (pa_cons (pv 0) (pa_cons (pe_glob (v := .ref C) rfl I.mgC rfl) pa_nil))))) (pss_one ps_never) pss_nil), ?_⟩
    exact ⟨_, rfl, _, _, _, _, true, rfl, .own C, .base (.ins hc I.cl I.ha I.hn I.htk I.hm), I.kk, _, rfl, iteF k⟩
theorem scCkDrawer : FnScope ["cabinet", "drawer"] ["cabinet", "drawer"] (defScope s_check_drawer) := ⟨rfl, rfl, rfl, by decide +kernel, rfl, by decide +kernel, by decide +kernel⟩
theorem ok_ckDrawer {f f1 C : Addr} {fd fd1 : FuncData} (F : Fun K "check_drawer" "check_drawer" s_check_drawer f fd) (CP : CabP P w K mg base C) (G : FnOk P w K mg base CX0 2 f1 fd1 ["drawers", "value"] (spIsDrawer K)) (g1 : mg "is_drawer" = some (.ref f1)) (k1 : PySem.W.keepIn K (.ref f1) = true) (b1 : Binds K fd1 ["drawers", "value"] []) :
    FnOk P w K mg base CX0 3 f fd ["cabinet", "drawer"] (spCkDrawer C) := by
  refine F.ok scCkDrawer (fun vs H Q E h => ?_) (fun cdv A outer s H vs Q E hr h => ?_)
  · obtain ⟨c, n, d, t, rfl, _⟩ := h.h
    rfl
  · obtain ⟨c, n, d, t, rfl, ⟨dx, hc⟩, d0, d1, k⟩ := h.h
    obtain ⟨pD, gD, fdD, hpD, GD, bD⟩ := CP.d
    refine ⟨_, pss_one (ps_if (pt_not (pt_val (pe_call G (hr.mono (by decide)) rfl g1 k1 b1 .nil pass0 (pa_cons (pe_prop (pv 0) CP.cl hpD GD (hr.mono (by decide)) bD .nil pass0 rfl) (pa_cons (pv 1) pa_nil))))) (pss_one ps_never) pss_nil), ?_⟩
    refine ⟨_, rfl, c, dx, _, rfl, hc, ⟨⟨c, dx, _, t, rfl, hc, _, rfl, ?_⟩⟩⟩
    refine spIsDrawer_sc (n := n) (x := .int d) rfl ⟨_, rfl, ?_⟩
    show if (!(decide (0 ≤ d) && decide (d < n))) = true then _ else _
    rw [decide_eq_true d0, decide_eq_true d1]
    exact iteF k
end
end DL

set_option Elab.async false
set_option maxRecDepth 100000
set_option maxHeartbeats 1000000
namespace DL
open PySem L2
/-! ### == of cabinets, by their own def -/
/-- x == y, x a plain instance, its def for == at g; what y is, is known -/
def rEqOwn (K : PySem.W.Frag) (C : Addr) (sp : Sp) (E : XK) : R2 := fun x y H Q => ∃ (a dx : Addr) (fs : List (Str × V)) (t : Value), x = .ref a ∧ H a = some (.ins C dx fs) ∧ TyX K H y t ∧ PySem.W.notFirst K C t = true ∧ sp [x, y] H Q E
theorem op_eqOwn {X : Cx} {CX : CXT} {C g : Addr} {fd : FuncData} {n : Nat} {ps : List Str} {sp : Sp} {E : XK} (hs : PySem.W.findIn X.K (.ref C) "__eq__" = some (some (.ref g))) (hf : PySem.W.isFn X.K (.ref g) = true)
    (F : FnOk X.prog X.w X.K X.mg X.base CX n g fd ps sp) (hb : Binds X.K fd ps []) (hr : Room n X.A) (hx : Passes CX X E) : OpR X (compareOp .Eq) (rEqOwn X.K C sp E) := by
  rintro pins s σ H _ y v u Q I rx ry ⟨a, dx, fs, t, rfl, ha, ty, hn, q⟩
  obtain rfl : v = Value.ref a := rx
  obtain ⟨_, O, _⟩ := ins_get I.hok ha
  obtain ⟨_, J, _⟩ := O.look
  obtain ⟨_, Z, p, _⟩ := kit_of I ry ty
  obtain ⟨_, hF⟩ := I.fr
  refine PySem.W.cmp_K (op := .Eq) hr.units0 hF I.ok.mod.kin J (Z.ty _ _ I.kIn p) hn hs hf ?_
  refine wpAny_mono (run_fn (Q := Q) (us := [.ref a, u]) (vs := [.ref a, y]) F hr hb .nil hx I (.cons rfl (.cons ry .nil)) (by simpa using q)) (fun c s' hh => ?_) fun _ _ x => x
  obtain ⟨z, H', I', rz, k⟩ := hh
  exact SlX.cmpback rz ⟨z, H', I', rz, k⟩
/-- the class's own == -/
structure spEqC (K : PySem.W.Frag) (C : Addr) (vs : List V) (H : Hp) (Q : VK) (_ : XK) : Prop where
  h : ∃ (a dx : Addr) (n : Int) (t : Addr) (y : V), vs = [.ref a, y] ∧ H a = some (.ins C dx (cfl n t)) ∧
    ((∃ u : Value, TyX K H y u ∧ PySem.W.kitOne K u (.ref C) = some false ∧ Q (.bl false) H) ∨
     (∃ (b dy : Addr) (m : Int) (r : Addr) (ks js : List (Addr × Bar)), y = .ref b ∧ H b = some (.ins C dy (cfl m r)) ∧ BarsAt H t ks ∧ BarsAt H r js ∧
       Q (.bl (decide (n = m) && PyData.eqv (.tuple (ks.map fun k => barD k.2)) (.tuple (js.map fun k => barD k.2)))) H))
section
variable {P : Program} {w : World} {K : PySem.W.Frag} {mg : Str → Option Value} {base : Heap}
theorem scEq : FnScope ["self", "other"] ["self", "other"] (defScope sEq) := ⟨rfl, rfl, rfl, by decide +kernel, rfl, by decide +kernel, by decide +kernel⟩
theorem ok_eqC {f C : Addr} {fd : FuncData} (F : Fun K "__eq__" "Cabinet.__eq__" sEq f fd) (T : Bt mg) (T2 : CabT K mg C) (I : CabI K mg C) : FnOk P w K mg base CX0 1 f fd ["self", "other"] (spEqC K C) := by
  refine F.ok scEq (fun vs H Q E h => ?_) (fun cdv A outer s H vs Q E hr h => ?_)
  · obtain ⟨a, dx, n, t, y, rfl, _⟩ := h.h
    rfl
  · obtain ⟨a, dx, n, t, y, rfl, ha, h⟩ := h.h
    have hu : _ + 64 < cLine := hr.units
    refine ⟨_, pss_one (ps_ret (pe_and (pe_callB call_isi (by rfl) T.isinstance (by decide +kernel) (pa_cons (pv 1) (pa_cons (pe_glob (v := .ref C) rfl I.mgC rfl) pa_nil)))
      (pe_and (pe_cmpR op_eq (pe_fld (pv 0) rfl) (pe_fld (pv 1) rfl) (nomark _)) (pe_one (pe_cmpR (op_eqD hu) (pe_fld (pv 0) rfl) (pe_fld (pv 1) rfl) (nomark _)))))), ?_⟩
    rcases h with ⟨u, ty, ku, k⟩ | ⟨b, dy, m, r, ks, js, rfl, hb, hB, hJ, k⟩
    · refine ⟨_, rfl, _, _, _, _, false, rfl, .own C, ty, ku, _, rfl, iteF k⟩
    · refine ⟨_, rfl, _, _, _, _, true, rfl, .own C, .base (.ins hb I.cl I.ha I.hn I.htk I.hm), I.kk, _, rfl, iteT ?_⟩
      refine ⟨_, rfl, a, C, dx, _, _, rfl, ha, I.cl, T2.nD, cfl_d n t, _, rfl, b, C, dy, _, _, rfl, hb, I.cl, T2.nD, cfl_d m r, rfl, _, rfl, ?_⟩
      have e : decide ((.int n : V) = .int m) = decide (n = m) := by rw [dec_int]; rfl
      rw [e]
      cases d : decide (n = m) with
      | false => rw [d] at k; exact iteF k
      | true =>
        rw [d] at k
        refine iteT ⟨_, rfl, a, C, dx, _, _, rfl, ha, I.cl, T2.nB, cfl_b n t, _, rfl, b, C, dy, _, _, rfl, hb, I.cl, T2.nB, cfl_b m r, ?_⟩
        exact ⟨_, _, .tup (SqT.of' hB.tu) (dpAll_bars hB.el), .tup (SqT.of' hJ.tu) (dpAll_bars hJ.el), dok_shaped (dok_tuple (dok_bars ks)) (by decide), dok_shaped (dok_tuple (dok_bars js)) (by decide), k⟩
end
end DL

set_option Elab.async false
set_option maxRecDepth 100000

set_option Elab.async false
set_option maxRecDepth 100000
set_option maxHeartbeats 1000000

set_option Elab.async false
set_option maxRecDepth 100000
namespace DL
open PySem PySem.Spec PyProof.Rows L2
/-! ### text * number -/
theorem op_mul_str {X : Cx} : OpR X (binaryOp .Mult) (fun x y H Q => ∃ (z : Str) (n : Int), x = .str z ∧ y = .int n ∧ MulOk z n ∧ Q (.str (Txt.mul z n)) H) := by
  intro pins s σ H x y v u Q I rx ry h
  obtain ⟨z, n, rfl, rfl, ok, q⟩ := h
  obtain ⟨t, rfl⟩ := rx
  obtain ⟨t', rfl⟩ := ry
  exact SB.mul ok fun t2 k => ⟨.str _, H, I.tok k, ⟨_, rfl⟩, q⟩
theorem mulOk_one {z : Str} {n : Int} (hz : z.length = 1) (h1 : 1 ≤ n) (h7 : n ≤ 7) : MulOk z n := by
  refine ⟨?_, fun _ _ => ?_, fun _ _ => ?_⟩
  · rw [decide_eq_false (by omega), decide_eq_false (by omega)]; rfl
  · rw [hz]
    have : n = 1 ∨ n = 2 ∨ n = 3 ∨ n = 4 ∨ n = 5 ∨ n = 6 ∨ n = 7 := by omega
    rcases this with rfl | rfl | rfl | rfl | rfl | rfl | rfl <;> decide
  · rw [hz]
    have : n = 1 ∨ n = 2 ∨ n = 3 ∨ n = 4 ∨ n = 5 ∨ n = 6 ∨ n = 7 := by omega
    rcases this with rfl | rfl | rfl | rfl | rfl | rfl | rfl <;> decide +kernel
/-! ### for a, b in zip(x, y), two texts -/
end DL

set_option Elab.async false
set_option maxRecDepth 100000
namespace DL
open PySem L2 HT TL
/-! ### patterns and rows -/
theorem SqT.same {K : PySem.W.Frag} {H H' : Hp} {a : Addr} {xs : List V} (s : Same H H') (h : SqT K H a xs) : SqT K H' a xs := by
  rcases h with (h | ⟨o, h⟩) | h
  · exact .inl (.inl (s _ _ h))
  · exact .inl (.inr ⟨o, s _ _ h⟩)
  · exact .inr h
def shutS (n : Nat) : List Bool := List.replicate n false
structure spFirst (vs : List V) (H : Hp) (Q : VK) (_ : XK) : Prop where
  h : ∃ n : Nat, vs = [.int n] ∧ 1 ≤ n ∧ n ≤ 7 ∧ Q (.str (sstr (shutS n))) H
theorem mul_shut {n : Nat} (h1 : 1 ≤ n) (h7 : n ≤ 7) : Txt.mul "s" (n : Int) = sstr (shutS n) := by
  have : n = 1 ∨ n = 2 ∨ n = 3 ∨ n = 4 ∨ n = 5 ∨ n = 6 ∨ n = 7 := by omega
  rcases this with rfl | rfl | rfl | rfl | rfl | rfl | rfl <;> decide +kernel
section
variable {P : Program} {w : World} {K : PySem.W.Frag} {mg : Str → Option Value} {base : Heap}
theorem scFirst : FnScope ["drawers"] ["drawers"] (defScope s_first_standing) := ⟨rfl, rfl, rfl, by decide +kernel, rfl, by decide +kernel, by decide +kernel⟩
theorem ok_first {f aS : Addr} {fd : FuncData} (F : Fun K "first_standing" "first_standing" s_first_standing f fd) (T : SgT K w mg aS) : FnOk P w K mg base CX0 1 f fd ["drawers"] spFirst := by
  refine F.ok scFirst (fun vs H Q E h => ?_) (fun cdv A outer s H vs Q E hr h => ?_)
  · obtain ⟨n, rfl, _⟩ := h.h
    rfl
  · obtain ⟨n, rfl, h1, h7, k⟩ := h.h
    refine ⟨_, pss_one (ps_ret (pe_op op_mul_str (pe_ix ix_kdict (pe_glob (v := .ref aS) rfl T.g rfl) pe_str (fun _ _ => rfl)) (pv 0))), ?_⟩
    refine ⟨aS, _, _, rfl, rfl, T.s, _, rfl, "s", (n : Int), rfl, rfl, mulOk_one (by decide +kernel) (by omega) (by omega), ?_⟩
    rw [mul_shut h1 h7]
    exact k
end
end DL

set_option Elab.async false
set_option maxRecDepth 100000
namespace DL
open PySem L2 HT TL
theorem inV_ints (i : Int) (l : List Int) : inV (.int i) (l.map V.int) = decide (i ∈ l) := by
  unfold inV
  induction l with
  | nil => rfl
  | cons a l ih =>
    rw [List.map_cons, List.any_cons, ih]
    show ((a == i) || decide (i ∈ l)) = decide (i ∈ a :: l)
    by_cases q : i = a
    · subst q
      simp
    · have q' : ¬ a = i := fun z => q z.symm
      simp [q, q']
theorem flat_ints (l : List Int) : (l.map V.int).all flatV = true := by
  rw [List.all_eq_true]
  intro x hx
  obtain ⟨i, _, rfl⟩ := List.mem_map.mp hx
  rfl
theorem mem_free {bs : List Bar} {st : List Bool} {d : Int} (d0 : 0 ≤ d) (d1 : d < st.length) : decide (d ∈ freeL bs st) = goesB bs st d := by
  unfold freeL
  have hm : d ∈ drs st.length := by
    unfold drs
    exact List.mem_map.mpr ⟨d.toNat, List.mem_range.mpr (by omega), by omega⟩
  cases e : goesB bs st d with
  | true => exact decide_eq_true (List.mem_filter.mpr ⟨hm, e⟩)
  | false => exact decide_eq_false fun q => by rw [(List.mem_filter.mp q).2] at e; cases e
end DL

set_option Elab.async false
set_option maxRecDepth 100000
namespace DL
open PySem L2 HT TL
/-! ### a drawn cabinet: its parts at p, itself at c; the row of draws at r -/
structure Lay (C r p c : Addr) (H : Hp) (n : Int) (bs : List Bar) : Prop where
  h : ∃ (t : Addr) (ks : List (Addr × Bar)) (zs : List V), H p = some (.lst (.int n :: .ref t :: zs)) ∧ CabAt C H c n t ∧ BarsAt H t ks ∧ ks.map (·.2) = bs ∧ OkBars n bs ∧ 1 ≤ n ∧ n ≤ 7 ∧ bs.length ≤ 100 ∧ p ≠ r
theorem Lay.cab {C r p c : Addr} {H : Hp} {n : Int} {bs : List Bar} (L : Lay C r p c H n bs) : CabOk C H c n bs := by
  obtain ⟨t, ks, zs, h1, h2, h3, h4, h5, h6, h7, h8, _⟩ := L.h
  exact ⟨⟨t, ks, h2, h3, h4, h5, h6, h7, h8⟩⟩
theorem Lay.but {C r sc p c : Addr} {H H' : Hp} {n : Int} {bs : List Bar} (L : Lay C r p c H n bs) (R : RowOk H r sc) (B : But r H H') : Lay C r p c H' n bs := by
  obtain ⟨t, ks, zs, h1, ⟨dx, h2⟩, h3, h4, h5, h6, h7, h8, h9⟩ := L.h
  obtain ⟨i, m, e, hR, _⟩ := R.h
  exact ⟨⟨t, ks, zs, B _ _ h9 h1, ⟨dx, B _ _ (ne_of h2 hR (by intro z; cases z)) h2⟩, ⟨B.tup hR h3.tu, fun k hk => B.tup hR (h3.el k hk)⟩, h4, h5, h6, h7, h8, h9⟩⟩
theorem Lay.same {C r p c : Addr} {H H' : Hp} {n : Int} {bs : List Bar} (L : Lay C r p c H n bs) (s : Same H H') : Lay C r p c H' n bs := by
  obtain ⟨t, ks, zs, h1, ⟨dx, h2⟩, h3, h4⟩ := L.h
  exact ⟨⟨t, ks, zs, s _ _ h1, ⟨dx, s _ _ h2⟩, h3.same s, h4⟩⟩
theorem Lay.n1 {C r p c : Addr} {H : Hp} {n : Int} {bs : List Bar} (L : Lay C r p c H n bs) : 1 ≤ n ∧ n ≤ 7 := by
  obtain ⟨t, ks, zs, h1, h2, h3, h4, h5, h6, h7, h8⟩ := L.h
  exact ⟨h6, h7⟩
end DL

set_option Elab.async false
set_option maxRecDepth 100000
set_option maxHeartbeats 1000000
namespace DL
open PySem L2 HT TL
/-! ### forms of single values: standings, tries, whatever they are -/
def sgnB (n : Int) (z : Str) : V → Bool
  | .str y => decide ((y.length : Int) = n) && y.cps.toList.all fun c => decide (c ∈ z.cps.toList)
  | _ => false
end DL

set_option Elab.async false
set_option maxRecDepth 100000
namespace DL
open PySem L2 HT TL RZ
/-! ### sets of drawers -/
/-- a set: its drawers stand at a -/
structure SetAt (K : PySem.W.Frag) (H : Hp) (n : Int) (a : Addr) (ns : List Int) : Prop where
  at' : SqT K H a (ns.map V.int)
  low : ∀ d ∈ ns, 0 ≤ d ∧ d < n
  asc : ns.Pairwise (· < ·)
theorem SetAt.same {K : PySem.W.Frag} {H H' : Hp} {n : Int} {a : Addr} {ns : List Int} (S : SetAt K H n a ns) (s : Same H H') : SetAt K H' n a ns := ⟨SqT.same s S.at', S.low, S.asc⟩
end DL

set_option Elab.async false
set_option maxRecDepth 100000

set_option Elab.async false
set_option maxRecDepth 100000
set_option maxHeartbeats 1000000

set_option Elab.async false
set_option maxRecDepth 100000
set_option maxHeartbeats 1000000

set_option Elab.async false
set_option maxRecDepth 100000
set_option maxHeartbeats 1000000
namespace DL
open PySem L2 HT TL
/-! ### standings, patterns, drawers, lengths that are refused, whatever they are -/
def NoStr (K : PySem.W.Frag) (H : Hp) (v : V) : Prop := ∃ t, (∀ H', Same H H' → TyX K H' v t) ∧ PySem.W.kitOne K t (.type "str") = some false
def BadSgn (K : PySem.W.Frag) (z : Str) (H : Hp) (n : Int) (v : V) : Prop := NoStr K H v ∨ ∃ y, v = .str y ∧ y.length ≤ 1000 ∧ sgnB n z (.str y) = false
theorem BadSgn.same {K : PySem.W.Frag} {z : Str} {H H' : Hp} {n : Int} {v : V} (h : BadSgn K z H n v) (s : Same H H') : BadSgn K z H' n v := by
  rcases h with ⟨t, h1, h2⟩ | h
  · exact .inl ⟨t, fun H2 s2 => h1 H2 (s.trans s2), h2⟩
  · exact .inr h
end DL

set_option Elab.async false
set_option maxRecDepth 100000
set_option maxHeartbeats 1000000
namespace DL
open PySem PySem.Spec PyProof.Rows L2 HT TL
/-! ### a tuple taken once -/
/-! ### odd standings and patterns -/
section
variable {P : Program} {w : World} {K : PySem.W.Frag} {mg : Str → Option Value} {base : Heap}
structure DeskT (K : PySem.W.Frag) (mg : Str → Option Value) (D : Addr) : Prop where
  cl : Cls K D
  nC : NoAttr K D "_cabinet"
  nS : NoAttr K D "_standing"
  nP : NoAttr K D "_pulls"
  mgD : mg "Desk" = some (.ref D)
theorem scDI : FnScope ["self", "cabinet"] ["self", "cabinet"] (defScope s_Desk__init_) := ⟨rfl, rfl, rfl, by decide +kernel, rfl, by decide +kernel, by decide +kernel⟩
theorem scDP : FnScope ["self", "drawer"] ["self", "drawer"] (defScope s_Desk_pull) := ⟨rfl, rfl, rfl, by decide +kernel, rfl, by decide +kernel, by decide +kernel⟩
end
end DL

set_option Elab.async false
set_option maxRecDepth 100000
set_option maxHeartbeats 1000000
namespace DL
open PySem PySem.Spec PyProof.Rows L2 HT TL
/-! ### len of an object whose class has its own __len__ -/
theorem cr_lenOwn {X : Cx} {CX : CXT} {C g : Addr} {fd : FuncData} {n : Nat} {ps : List Str} {sp : Sp} {E : XK} (hs : PySem.W.findIn X.K (.ref C) "__len__" = some (some (.ref g))) (hf : PySem.W.isFn X.K (.ref g) = true)
    (F : FnOk X.prog X.w X.K X.mg X.base CX n g fd ps sp) (hb : Binds X.K fd ps []) (hr : Room (n + 1) X.A) (hx : Passes CX X E) :
    CallR X (.builtin "len") (fun xs H Q => ∃ (a dx : Addr) (fs : List (Str × V)), xs = [.ref a] ∧ H a = some (.ins C dx fs) ∧ sp [.ref a] H (fun v H' => ∃ m : Nat, v = .int m ∧ m ≤ 1000 ∧ Q (.int m) H') E) := by
  intro pins s σ H xs us Q I r h
  obtain ⟨a, dx, fs, rfl, ha, q⟩ := h
  obtain ⟨u, rfl, ru⟩ := vals1 r
  obtain rfl : u = Value.ref a := ru
  obtain ⟨_, O, _⟩ := ins_get I.hok ha
  obtain ⟨_, J, _⟩ := O.look
  obtain ⟨_, hF⟩ := I.fr
  refine PySem.W.len_K hF I.ok.mod.kin J hs hf ?_
  have hlen : [Value.ref a].length = ps.length := by
    have := F.len _ _ _ _ q
    simpa using this
  have rv : Vals [V.ref a] [Value.ref a] := .cons rfl .nil
  have bn := hb s [.ref a] I.kIn (by rw [List.append_nil]; exact hlen)
  rw [List.append_nil] at bn
  refine wpAny_call (codeAny_mono (F.run X.A.in1 X.stack s H ⟨[.ref a], []⟩ [.ref a] [.ref a] _ E hr.in1 I.env0.in1 bn rv q) fun res s' hq => ?_)
  cases res with
  | error e => exact hx pins σ H s e s' I hq
  | ok fl =>
    cases fl with
    | ret u =>
      obtain ⟨v, H', I', ru, m, rfl, hm, k⟩ := I.after hq
      obtain ⟨t, rfl⟩ := (show ∃ t, u = Value.int m t from ru)
      exact ⟨⟨by omega, by omega⟩, .int m, H', I'.tok _, ⟨_, rfl⟩, k⟩
    | next => exact False.elim hq
    | brk => exact False.elim hq
    | cont => exact False.elim hq
/-! ### desks -/
def dkF (c l : Addr) (st : List Bool) : List (Str × V) := [("_cabinet", .ref c), ("_standing", .str (sstr st)), ("_pulls", .ref l)]
structure Dk (C D : Addr) (H : Hp) (p dx c l : Addr) (bs : List Bar) (st : List Bool) (ps : List Int) : Prop where
  at' : H p = some (.ins D dx (dkF c l st))
  cab : CabOk C H c st.length bs
  li : H l = some (.lst (ps.map V.int))
  small : ps.length ≤ 100
theorem Dk.same {C D : Addr} {H H' : Hp} {p dx c l : Addr} {bs : List Bar} {st : List Bool} {ps : List Int} (h : Dk C D H p dx c l bs st ps) (s : Same H H') : Dk C D H' p dx c l bs st ps := ⟨s _ _ h.at', h.cab.same s, s _ _ h.li, h.small⟩
structure spDkInit (C D : Addr) (vs : List V) (H : Hp) (Q : VK) (_ : XK) : Prop where
  h : ∃ (p dx c : Addr) (n : Nat) (bs : List Bar), vs = [.ref p, .ref c] ∧ H p = some (.ins D dx []) ∧ CabOk C H c n bs ∧
    ∀ (l : Addr) (H' : Hp), H l = none → H' p = some (.ins D dx (dkF c l (shutS n))) → H' l = some (.lst []) → (∀ b o, b ≠ p → H b = some o → H' b = some o) → Q .non H'
structure spDkCab (D : Addr) (vs : List V) (H : Hp) (Q : VK) (_ : XK) : Prop where
  h : ∃ (p dx c l : Addr) (st : List Bool), vs = [.ref p] ∧ H p = some (.ins D dx (dkF c l st)) ∧ Q (.ref c) H
structure spDkStd (D : Addr) (vs : List V) (H : Hp) (Q : VK) (_ : XK) : Prop where
  h : ∃ (p dx c l : Addr) (st : List Bool), vs = [.ref p] ∧ H p = some (.ins D dx (dkF c l st)) ∧ Q (.str (sstr st)) H
structure spDkPulls (D : Addr) (vs : List V) (H : Hp) (Q : VK) (_ : XK) : Prop where
  h : ∃ (p dx c l : Addr) (st : List Bool) (ps : List Int), vs = [.ref p] ∧ H p = some (.ins D dx (dkF c l st)) ∧ H l = some (.lst (ps.map V.int)) ∧ ∀ (q : Addr) (H' : Hp), Same H H' → H' q = some (.tup (ps.map V.int)) → Q (.ref q) H'
structure spDkLen (D : Addr) (vs : List V) (H : Hp) (Q : VK) (_ : XK) : Prop where
  h : ∃ (p dx c l : Addr) (st : List Bool) (ps : List Int), vs = [.ref p] ∧ H p = some (.ins D dx (dkF c l st)) ∧ H l = some (.lst (ps.map V.int)) ∧ Q (.int ps.length) H
structure spDkFree (C D : Addr) (vs : List V) (H : Hp) (Q : VK) (_ : XK) : Prop where
  h : ∃ (p dx c l : Addr) (bs : List Bar) (st : List Bool) (ps : List Int), vs = [.ref p] ∧ Dk C D H p dx c l bs st ps ∧ ∀ (q : Addr) (H' : Hp), H q = none → Same H H' → H' q = some (.lst ((freeL bs st).map V.int)) → Q (.ref q) H'
structure spDkPull (C D : Addr) (vs : List V) (H : Hp) (Q : VK) (_ : XK) : Prop where
  h : ∃ (p dx c l : Addr) (bs : List Bar) (st : List Bool) (ps : List Int) (d : Int), vs = [.ref p, .int d] ∧ Dk C D H p dx c l bs st ps ∧ 0 ≤ d ∧ d < st.length ∧
    (goesB bs st d = false → ∀ H', Same H H' → Q (.bl false) H') ∧
    (goesB bs st d = true → ∀ H', H' p = some (.ins D dx (dkF c l (flip st d))) → H' l = some (.lst ((ps ++ [d]).map V.int)) → (∀ b o, b ≠ p → b ≠ l → H b = some o → H' b = some o) → Q (.bl true) H')
structure spDkUndo (C D : Addr) (vs : List V) (H : Hp) (Q : VK) (_ : XK) : Prop where
  h : ∃ (p dx c l : Addr) (bs : List Bar) (st : List Bool) (ps : List Int), vs = [.ref p] ∧ Dk C D H p dx c l bs st ps ∧ (∀ d ∈ ps, 0 ≤ d ∧ d < st.length) ∧
    (ps = [] → ∀ H', Same H H' → Q (.bl false) H') ∧
    (∀ qs d, ps = qs ++ [d] → ∀ H', H' p = some (.ins D dx (dkF c l (flip st d))) → H' l = some (.lst (qs.map V.int)) → (∀ b o, b ≠ p → b ≠ l → H b = some o → H' b = some o) → Q (.bl true) H')
structure spDkCopy (C D : Addr) (vs : List V) (H : Hp) (Q : VK) (_ : XK) : Prop where
  h : ∃ (p dx c l : Addr) (bs : List Bar) (st : List Bool) (ps : List Int), vs = [.ref p] ∧ Dk C D H p dx c l bs st ps ∧
    ∀ (p2 dx2 l2 : Addr) (H' : Hp), H p2 = none → H l2 = none → Same H H' → H' p2 = some (.ins D dx2 (dkF c l2 st)) → H' l2 = some (.lst (ps.map V.int)) → Q (.ref p2) H'
section
variable {P : Program} {w : World} {K : PySem.W.Frag} {mg : Str → Option Value} {base : Heap}
theorem ok_dkInit {f f0 f1 D C : Addr} {fd fd0 fd1 : FuncData} (F : Fun K "__init__" "Desk.__init__" s_Desk__init_ f fd) (T : DeskT K mg D) (CP : CabP P w K mg base C)
    (G0 : FnOk P w K mg base CX0 1 f0 fd0 ["cabinet"] (spCkCab C)) (g0 : mg "check_cabinet" = some (.ref f0)) (k0 : PySem.W.keepIn K (.ref f0) = true) (b0 : Binds K fd0 ["cabinet"] [])
    (G1 : FnOk P w K mg base CX0 1 f1 fd1 ["drawers"] spFirst) (g1 : mg "first_standing" = some (.ref f1)) (k1 : PySem.W.keepIn K (.ref f1) = true) (b1 : Binds K fd1 ["drawers"] []) :
    FnOk P w K mg base CX0 3 f fd ["self", "cabinet"] (spDkInit C D) := by
  refine F.ok scDI (fun vs H Q E h => ?_) (fun cdv A outer s H vs Q E hr h => ?_)
  · obtain ⟨p, dx, c, n, bs, rfl, _⟩ := h.h
    rfl
  · obtain ⟨p, dx, c, n, bs, rfl, hp, B, k⟩ := h.h
    obtain ⟨t, ks, ⟨dc, hc⟩, _, _, _, n1, n7, _⟩ := B.h
    obtain ⟨pD, gD, fdD, hpD, GD, bD⟩ := CP.d
    refine ⟨_, pss_cons (ps_expr (pe_call G0 (hr.mono (by decide)) rfl g0 k0 b0 .nil pass0 (pa_cons (pv 1) pa_nil))) (pss_cons (ps_fld (pv 0) (pv 1) rfl)
      (pss_cons (ps_fld (pv 0) (pe_call G1 (hr.mono (by decide)) rfl g1 k1 b1 .nil pass0 (pa_cons (pe_prop (pv 1) CP.cl hpD GD (hr.mono (by decide)) bD .nil pass0 rfl) pa_nil)) rfl) (pss_one (ps_fld (pv 0) (pe_lst pa_nil) rfl)))), ?_⟩
    have pc : p ≠ c := ne_of hp hc (by intro z; injection z with _ _ z; cases z)
    refine ⟨_, rfl, ⟨⟨c, n, t, rfl, ⟨dc, hc⟩, ?_⟩⟩⟩
    refine ⟨_, rfl, _, rfl, p, D, dx, _, rfl, hp, T.cl, T.nC, (by show 0 < 1000; decide), ?_⟩
    have hc1 : ∀ o, (upd H p o) c = some (.ins C dc (cfl n t)) := fun o => by
      rw [upd_ne (Ne.symm pc)]
      exact hc
    refine ⟨_, rfl, c, dc, _, rfl, hc1 _, ⟨⟨c, dc, _, t, rfl, hc1 _, ⟨⟨n, rfl, by omega, by omega, ?_⟩⟩⟩⟩⟩
    refine ⟨_, rfl, p, D, dx, _, rfl, upd_same, T.cl, T.nS, (by show 1 < 1000; decide), ?_⟩
    refine ⟨(by show 0 ≤ sizeLine; decide), fun l hl => ?_⟩
    have pl : p ≠ l := ne_of_none upd_same hl
    refine ⟨_, rfl, p, D, dx, _, rfl, by rw [upd_ne pl]; exact upd_same, T.cl, T.nP, (by show 2 < 1000; decide), ?_⟩
    have hcn : H l = none := by
      rw [upd_ne (Ne.symm pl), upd_ne (Ne.symm pl)] at hl
      exact hl
    refine k l _ hcn upd_same (by rw [upd_ne (Ne.symm pl)]; exact upd_same) fun b o hb e => ?_
    rw [upd_ne hb, upd_ne (ne_of_none e hcn), upd_ne hb, upd_ne hb]
    exact e
theorem scDkC : FnScope ["self"] ["self"] (defScope s_Desk_cabinet) := ⟨rfl, rfl, rfl, by decide +kernel, rfl, by decide +kernel, by decide +kernel⟩
theorem ok_dkCab {f D : Addr} {fd : FuncData} (F : Fun K "cabinet" "Desk.cabinet" s_Desk_cabinet f fd) (T : DeskT K mg D) : FnOk P w K mg base CX0 1 f fd ["self"] (spDkCab D) := by
  refine F.ok scDkC (fun vs H Q E h => ?_) (fun cdv A outer s H vs Q E hr h => ?_)
  · obtain ⟨p, dx, c, l, st, rfl, _⟩ := h.h
    rfl
  · obtain ⟨p, dx, c, l, st, rfl, hp, k⟩ := h.h
    exact ⟨_, pss_one (ps_ret (pe_fld (pv 0) rfl)), ⟨_, rfl, p, D, dx, _, _, rfl, hp, T.cl, T.nC, rfl, k⟩⟩
theorem scDkS : FnScope ["self"] ["self"] (defScope s_Desk_standing) := ⟨rfl, rfl, rfl, by decide +kernel, rfl, by decide +kernel, by decide +kernel⟩
theorem ok_dkStd {f D : Addr} {fd : FuncData} (F : Fun K "standing" "Desk.standing" s_Desk_standing f fd) (T : DeskT K mg D) : FnOk P w K mg base CX0 1 f fd ["self"] (spDkStd D) := by
  refine F.ok scDkS (fun vs H Q E h => ?_) (fun cdv A outer s H vs Q E hr h => ?_)
  · obtain ⟨p, dx, c, l, st, rfl, _⟩ := h.h
    rfl
  · obtain ⟨p, dx, c, l, st, rfl, hp, k⟩ := h.h
    exact ⟨_, pss_one (ps_ret (pe_fld (pv 0) rfl)), ⟨_, rfl, p, D, dx, _, _, rfl, hp, T.cl, T.nS, rfl, k⟩⟩
theorem scDkP : FnScope ["self"] ["self"] (defScope s_Desk_pulls) := ⟨rfl, rfl, rfl, by decide +kernel, rfl, by decide +kernel, by decide +kernel⟩
theorem ok_dkPulls {f D : Addr} {fd : FuncData} (F : Fun K "pulls" "Desk.pulls" s_Desk_pulls f fd) (B : Bt mg) (T : DeskT K mg D) : FnOk P w K mg base CX0 1 f fd ["self"] (spDkPulls D) := by
  refine F.ok scDkP (fun vs H Q E h => ?_) (fun cdv A outer s H vs Q E hr h => ?_)
  · obtain ⟨p, dx, c, l, st, ps, rfl, _⟩ := h.h
    rfl
  · obtain ⟨p, dx, c, l, st, ps, rfl, hp, hl, k⟩ := h.h
    refine ⟨_, pss_one (ps_ret (pe_callTy call_tuple_of (by rfl) B.tuple (by decide +kernel) (pa_cons (pe_fld (pv 0) rfl) pa_nil))), ?_⟩
    refine ⟨_, rfl, p, D, dx, _, _, rfl, hp, T.cl, T.nP, rfl, ?_⟩
    exact ⟨l, _, rfl, .inl ⟨SqL.of hl, fun q hq => k q _ (same_upd hq) upd_same⟩⟩
theorem scDkL : FnScope ["self"] ["self"] (defScope s_Desk__len_) := ⟨rfl, rfl, rfl, by decide +kernel, rfl, by decide +kernel, by decide +kernel⟩
theorem ok_dkLen {f D : Addr} {fd : FuncData} (F : Fun K "__len__" "Desk.__len__" s_Desk__len_ f fd) (B : Bt mg) (T : DeskT K mg D) : FnOk P w K mg base CX0 1 f fd ["self"] (spDkLen D) := by
  refine F.ok scDkL (fun vs H Q E h => ?_) (fun cdv A outer s H vs Q E hr h => ?_)
  · obtain ⟨p, dx, c, l, st, ps, rfl, _⟩ := h.h
    rfl
  · obtain ⟨p, dx, c, l, st, ps, rfl, hp, hl, k⟩ := h.h
    refine ⟨_, pss_one (ps_ret (pe_callB call_len_seq (by rfl) B.len PySem.boot_len (pa_cons (pe_fld (pv 0) rfl) pa_nil))), ?_⟩
    refine ⟨_, rfl, p, D, dx, _, _, rfl, hp, T.cl, T.nP, rfl, ?_⟩
    refine ⟨l, _, rfl, .inl (SqL.of hl), ?_⟩
    rw [List.length_map]
    exact k
theorem scDkF : FnScope ["self"] ["self"] (defScope s_Desk_free) := ⟨rfl, rfl, rfl, by decide +kernel, rfl, by decide +kernel, by decide +kernel⟩
theorem ok_dkFree {f f1 C D : Addr} {fd fd1 : FuncData} (F : Fun K "free" "Desk.free" s_Desk_free f fd) (T : DeskT K mg D)
    (G1 : FnOk P w K mg base CX0 8 f1 fd1 ["cabinet", "standing"] (spFreeDrawers C)) (g1 : mg "free_drawers" = some (.ref f1)) (k1 : PySem.W.keepIn K (.ref f1) = true) (b1 : Binds K fd1 ["cabinet", "standing"] []) :
    FnOk P w K mg base CX0 10 f fd ["self"] (spDkFree C D) := by
  refine F.ok scDkF (fun vs H Q E h => ?_) (fun cdv A outer s H vs Q E hr h => ?_)
  · obtain ⟨p, dx, c, l, bs, st, ps, rfl, _⟩ := h.h
    rfl
  · obtain ⟨p, dx, c, l, bs, st, ps, rfl, hD, k⟩ := h.h
    refine ⟨_, pss_one (ps_ret (pe_call G1 (hr.mono (by decide)) rfl g1 k1 b1 .nil pass0 (pa_cons (pe_fld (pv 0) rfl) (pa_cons (pe_fld (pv 0) rfl) pa_nil)))), ?_⟩
    refine ⟨_, rfl, p, D, dx, _, _, rfl, hD.at', T.cl, T.nC, rfl, ?_⟩
    exact ⟨_, rfl, p, D, dx, _, _, rfl, hD.at', T.cl, T.nS, rfl, ⟨⟨c, bs, st, rfl, hD.cab, k⟩⟩⟩
theorem ok_dkPull {f f1 f2 f3 C D : Addr} {fd fd1 fd2 fd3 : FuncData} (F : Fun K "pull" "Desk.pull" s_Desk_pull f fd) (T : DeskT K mg D)
    (G1 : FnOk P w K mg base CX0 3 f1 fd1 ["cabinet", "drawer"] (spCkDrawer C)) (g1 : mg "check_drawer" = some (.ref f1)) (k1 : PySem.W.keepIn K (.ref f1) = true) (b1 : Binds K fd1 ["cabinet", "drawer"] [])
    (G2 : FnOk P w K mg base CX0 6 f2 fd2 ["cabinet", "standing", "drawer"] (spGoes C)) (g2 : mg "goes" = some (.ref f2)) (k2 : PySem.W.keepIn K (.ref f2) = true) (b2 : Binds K fd2 ["cabinet", "standing", "drawer"] [])
    (G3 : FnOk P w K mg base CX0 1 f3 fd3 ["standing", "drawer"] spMoved) (g3 : mg "moved" = some (.ref f3)) (k3 : PySem.W.keepIn K (.ref f3) = true) (b3 : Binds K fd3 ["standing", "drawer"] []) :
    FnOk P w K mg base CX0 10 f fd ["self", "drawer"] (spDkPull C D) := by
  refine F.ok scDP (fun vs H Q E h => ?_) (fun cdv A outer s H vs Q E hr h => ?_)
  · obtain ⟨p, dx, c, l, bs, st, ps, d, rfl, _⟩ := h.h
    rfl
  · obtain ⟨p, dx, c, l, bs, st, ps, d, rfl, hD, d0, d1, kF, kT⟩ := h.h
    obtain ⟨tc, hcab, n7⟩ := hD.cab.cab
    refine ⟨_, pss_cons (ps_expr (pe_call G1 (hr.mono (by decide)) rfl g1 k1 b1 .nil pass0 (pa_cons (pe_fld (pv 0) rfl) (pa_cons (pv 1) pa_nil))))
      (pss_cons (ps_if (pt_not (pt_val (pe_call G2 (hr.mono (by decide)) rfl g2 k2 b2 .nil pass0 (pa_cons (pe_fld (pv 0) rfl) (pa_cons (pe_fld (pv 0) rfl) (pa_cons (pv 1) pa_nil)))))) (pss_one (ps_ret pe_bl)) pss_nil)
      (pss_cons (ps_fld (pv 0) (pe_call G3 (hr.mono (by decide)) rfl g3 k3 b3 .nil pass0 (pa_cons (pe_fld (pv 0) rfl) (pa_cons (pv 1) pa_nil))) rfl)
      (pss_cons (ps_expr (pe_bm PySem.F.plainAttrs_list PySem.F.slot_list_append PySem.F.type_list_append mt_append (pe_fld (pv 0) rfl) (pa_cons (pv 1) pa_nil)))
      (pss_one (ps_ret pe_bl))))), ?_⟩
    refine ⟨_, rfl, p, D, dx, _, _, rfl, hD.at', T.cl, T.nC, rfl, _, rfl, ⟨⟨c, _, d, tc, rfl, hcab, d0, d1, ?_⟩⟩⟩
    refine ⟨_, rfl, p, D, dx, _, _, rfl, hD.at', T.cl, T.nC, rfl, _, rfl, p, D, dx, _, _, rfl, hD.at', T.cl, T.nS, rfl, _, rfl, ⟨⟨c, bs, st, d, rfl, hD.cab, d0, d1, fun H1 s1 => ?_⟩⟩⟩
    have hD1 := hD.same s1
    refine ⟨_, rfl, ?_⟩
    cases eg : goesB bs st d with
    | false => exact iteT (kF eg H1 s1)
    | true =>
      refine iteF ?_
      refine ⟨_, rfl, p, D, dx, _, _, rfl, hD1.at', T.cl, T.nS, rfl, _, rfl, ⟨⟨st, d, rfl, by omega, d0, d1, fun H2 s2 => ?_⟩⟩⟩
      have hD2 := hD1.same s2
      refine ⟨_, rfl, p, D, dx, _, rfl, hD2.at', T.cl, T.nS, (by show 3 < 1000; decide), ?_⟩
      have hl2 : l ≠ p := ne_of hD2.li hD2.at' (by intro z; injection z)
      refine ⟨_, rfl, p, D, dx, _, _, rfl, upd_same, T.cl, T.nP, rfl, ?_⟩
      have hli : (upd H2 p (.ins D dx (dkF c l (flip st d)))) l = some (.lst (ps.map V.int)) := by rw [upd_ne hl2]; exact hD2.li
      refine ⟨.inl ⟨rfl, _, SqL.of hli⟩, _, rfl, l, _, _, rfl, rfl, hli, (by rw [List.length_map]; exact small1000 (by have := hD2.small; omega)), ?_⟩
      refine kT eg _ (by rw [upd_ne (Ne.symm hl2)]; exact upd_same) (by rw [upd_same, List.map_append]; rfl) fun b o h1 h2 e => ?_
      rw [upd_ne h2, upd_ne h1]
      exact s2 _ _ (s1 _ _ e)
theorem flip_flip {st : List Bool} {d : Int} (h0 : 0 ≤ d) (h1 : d < st.length) : flip (flip st d) d = st := by
  obtain ⟨k, rfl⟩ : ∃ k : Nat, d = (k : Int) := ⟨d.toNat, by omega⟩
  have hk : k < st.length := by omega
  apply List.ext_getElem?
  intro i
  unfold flip sat
  simp only [Int.toNat_natCast, List.getElem?_set, List.length_set]
  by_cases e : k = i
  · subst e
    simp [hk]
  · simp [e]
theorem scDkU : FnScope ["self"] ["self"] (defScope s_Desk_undo) := ⟨rfl, rfl, rfl, by decide +kernel, rfl, by decide +kernel, by decide +kernel⟩
theorem ok_dkUndo {f f3 C D : Addr} {fd fd3 : FuncData} (F : Fun K "undo" "Desk.undo" s_Desk_undo f fd) (T : DeskT K mg D)
    (G3 : FnOk P w K mg base CX0 1 f3 fd3 ["standing", "drawer"] spMoved) (g3 : mg "moved" = some (.ref f3)) (k3 : PySem.W.keepIn K (.ref f3) = true) (b3 : Binds K fd3 ["standing", "drawer"] []) :
    FnOk P w K mg base CX0 10 f fd ["self"] (spDkUndo C D) := by
  refine F.ok scDkU (fun vs H Q E h => ?_) (fun cdv A outer s H vs Q E hr h => ?_)
  · obtain ⟨p, dx, c, l, bs, st, ps, rfl, _⟩ := h.h
    rfl
  · obtain ⟨p, dx, c, l, bs, st, ps, rfl, hD, hds, kF, kT⟩ := h.h
    obtain ⟨tc, hcab, n7⟩ := hD.cab.cab
    refine ⟨_, pss_cons (ps_if (pt_not (pt_truth (pe_fld (pv 0) rfl) (fun _ => rfl))) (pss_one (ps_ret pe_bl)) pss_nil)
      (pss_cons (ps_fld (pv 0) (pe_call G3 (hr.mono (by decide)) rfl g3 k3 b3 .nil pass0 (pa_cons (pe_fld (pv 0) rfl) (pa_cons (pe_bm0 PySem.F.plainAttrs_list PySem.F.slot_list_pop PySem.F.type_list_pop mt_pop (pe_fld (pv 0) rfl)) pa_nil))) rfl)
      (pss_one (ps_ret pe_bl))), ?_⟩
    refine ⟨_, rfl, p, D, dx, _, _, rfl, hD.at', T.cl, T.nP, rfl, !(ps.map V.int).isEmpty, .inl ⟨_, SqL.of hD.li, rfl⟩, ?_⟩
    rcases List.eq_nil_or_concat ps with e | ⟨qs, d, e⟩
    · rw [show (!(!(ps.map V.int).isEmpty)) = true by rw [e]; rfl]
      exact iteT (kF e H (Same.refl H))
    · rw [List.concat_eq_append] at e
      rw [show (!(!(ps.map V.int).isEmpty)) = false by rw [e]; simp]
      refine iteF ?_
      obtain ⟨d0, d1⟩ := hds d (by rw [e]; simp)
      have hl2 : l ≠ p := ne_of hD.li hD.at' (by intro z; injection z)
      refine ⟨_, rfl, p, D, dx, _, _, rfl, hD.at', T.cl, T.nS, rfl, _, rfl, p, D, dx, _, _, rfl, hD.at', T.cl, T.nP, rfl, .inl ⟨rfl, _, SqL.of hD.li⟩, l, _, .int d, rfl, rfl, hD.li, (by rw [e]; simp), ?_⟩
      rw [show (ps.map V.int).dropLast = qs.map V.int by rw [e, List.map_append, List.map_singleton, List.dropLast_concat]]
      refine ⟨⟨st, d, rfl, by omega, d0, d1, fun H2 s2 => ?_⟩⟩
      have hp2 : H2 p = some (.ins D dx (dkF c l st)) := s2 _ _ (by rw [upd_ne (Ne.symm hl2)]; exact hD.at')
      have hq2 : H2 l = some (.lst (qs.map V.int)) := s2 _ _ upd_same
      refine ⟨_, rfl, p, D, dx, _, rfl, hp2, T.cl, T.nS, (by show 3 < 1000; decide), ?_⟩
      refine kT qs d e _ upd_same (by rw [upd_ne hl2]; exact hq2) fun b o h1 h2 e => ?_
      rw [upd_ne h1]
      exact s2 _ _ (by rw [upd_ne h2]; exact e)
theorem scDkY : FnScope ["self", "desk"] ["self"] (defScope s_Desk_copy) := ⟨rfl, rfl, rfl, by decide +kernel, rfl, by decide +kernel, by decide +kernel⟩
theorem ok_dkCopy {f fI C D : Addr} {fd fdI : FuncData} (F : Fun K "copy" "Desk.copy" s_Desk_copy f fd) (B : Bt mg) (zL : mg "list" = none) (T : DeskT K mg D) (M : Mk K D fI) (GI : FnOk P w K mg base CX0 3 fI fdI ["self", "cabinet"] (spDkInit C D)) (bI : Binds K fdI ["self", "cabinet"] []) :
    FnOk P w K mg base CX0 10 f fd ["self"] (spDkCopy C D) := by
  refine F.ok scDkY (fun vs H Q E h => ?_) (fun cdv A outer s H vs Q E hr h => ?_)
  · obtain ⟨p, dx, c, l, bs, st, ps, rfl, _⟩ := h.h
    rfl
  · obtain ⟨p, dx, c, l, bs, st, ps, rfl, hD, k⟩ := h.h
    refine ⟨_, pss_cons (ps_set (i := 1) scDkY.nd rfl (Or.inl rfl) (pe_make M GI (hr.mono (by decide)) rfl T.mgD bI .nil pass0 (pa_cons (pe_fld (pv 0) rfl) pa_nil)))
      (pss_cons (ps_fld (pv 1) (pe_fld (pv 0) rfl) rfl)
      (pss_cons (ps_fld (pv 1) (pe_callTy call_list_of (by rfl) zL (by decide +kernel) (pa_cons (pe_fld (pv 0) rfl) pa_nil)) rfl)
      (pss_one (ps_ret (pv 1))))), ?_⟩
    refine ⟨_, rfl, p, D, dx, _, _, rfl, hD.at', T.cl, T.nC, rfl, ?_⟩
    intro p2 dx2 np2 ndx2 nex
    have s1 : Same H (upd (upd H dx2 (.own p2)) p2 (.ins D dx2 [])) := fun b o e => by
      rw [upd_ne (ne_of_none e np2), upd_ne (ne_of_none e ndx2)]
      exact e
    refine ⟨⟨p2, dx2, c, st.length, bs, rfl, upd_same, hD.cab.same s1, fun l1 H2 nl1 hp2 hl1 kp => ⟨rfl, ?_⟩⟩⟩
    have s2 : Same H H2 := fun b o e => kp b o (ne_of_none e np2) (s1 b o e)
    have hD2 := hD.same s2
    have npp : p2 ≠ p := fun z => by
      have := hD.at'
      rw [← z, np2] at this
      cases this
    refine ⟨_, rfl, p, D, dx, _, _, rfl, hD2.at', T.cl, T.nS, rfl, _, rfl, p2, D, dx2, _, rfl, hp2, T.cl, T.nS, (by show 3 < 1000; decide), ?_⟩
    have s3 : ∀ o, Same H (upd H2 p2 o) := fun o b u e => by
      rw [upd_ne (ne_of_none e np2)]
      exact s2 b u e
    have hD3 := hD.same (s3 (.ins D dx2 (putF "_standing" (.str (sstr st)) (dkF c l1 (shutS st.length)))))
    refine ⟨_, rfl, p, D, dx, _, _, rfl, hD3.at', T.cl, T.nP, rfl, l, _, rfl, .inl (SqL.of hD3.li), fun l2 nl2 => ?_⟩
    have n2 : l2 ≠ p2 := fun z => by
      rw [z, upd_same] at nl2
      cases nl2
    refine ⟨_, rfl, p2, D, dx2, _, rfl, by rw [upd_ne (Ne.symm n2)]; exact upd_same, T.cl, T.nP, (by show 3 < 1000; decide), ?_⟩
    have nH2 : H2 l2 = none := by rw [upd_ne n2] at nl2; exact nl2
    have nH : H l2 = none := by
      cases e : H l2 with
      | none => rfl
      | some o => rw [s2 _ _ e] at nH2; cases nH2
    refine ⟨_, rfl, k p2 dx2 l2 _ np2 nH (fun b o e => ?_) upd_same (by rw [upd_ne n2]; exact upd_same)⟩
    rw [upd_ne (ne_of_none e np2), upd_ne (ne_of_none e nH), upd_ne (ne_of_none e np2)]
    exact s2 b o e
end
end DL

set_option Elab.async false
set_option maxRecDepth 100000
set_option maxHeartbeats 2000000
namespace DL
open PySem L2 HT TL
/-! ### a desk, as the law sees it -/
def stOf (n : Nat) (ps : List Int) : List Bool := ps.foldl flip (shutS n)
theorem stOf_snoc (n : Nat) (ps : List Int) (d : Int) : stOf n (ps ++ [d]) = flip (stOf n ps) d := by unfold stOf; rw [List.foldl_append]; rfl
theorem stOf_len (n : Nat) : ∀ ps : List Int, (stOf n ps).length = n := by
  intro ps
  unfold stOf
  have : ∀ (qs : List Int) (st : List Bool), (qs.foldl flip st).length = st.length := by
    intro qs
    induction qs with
    | nil => intro st; rfl
    | cons q qs ih => intro st; rw [List.foldl_cons, ih, flip_len]
  rw [this]
  exact List.length_replicate
structure DeskP (P : Program) (w : World) (K : PySem.W.Frag) (mg : Str → Option Value) (base : Heap) (D : Addr) : Prop where
  cl : Cls K D
  c : ∃ p g fd, PropOf K D "cabinet" p g ∧ FnOk P w K mg base CX0 1 g fd ["self"] (spDkCab D) ∧ Binds K fd ["self"] []
  s : ∃ p g fd, PropOf K D "standing" p g ∧ FnOk P w K mg base CX0 1 g fd ["self"] (spDkStd D) ∧ Binds K fd ["self"] []
  p : ∃ p g fd, PropOf K D "pulls" p g ∧ FnOk P w K mg base CX0 1 g fd ["self"] (spDkPulls D) ∧ Binds K fd ["self"] []
  l : ∃ g fd, PySem.W.findIn K (.ref D) "__len__" = some (some (.ref g)) ∧ PySem.W.isFn K (.ref g) = true ∧ FnOk P w K mg base CX0 1 g fd ["self"] (spDkLen D) ∧ Binds K fd ["self"] []
structure spIsDesk (C D : Addr) (vs : List V) (H : Hp) (Q : VK) (_ : XK) : Prop where
  h : ∃ (p dx c l dd lp : Addr) (bs : List Bar) (n : Nat) (ps : List Int), vs = [.ref p, .ref dd, .ref lp] ∧ Dk C D H p dx c l bs (stOf n ps) ps ∧ DrOk H dd n bs ∧ H lp = some (.lst (ps.map V.int)) ∧ (∀ d ∈ ps, 0 ≤ d ∧ d < n) ∧ ∀ H', Same H H' → Q (.bl true) H'
theorem dok_tints (l : List Int) : dok 2 (.tuple (l.map PyData.int)) := dok_tuple (k := 1) (dok_ints l)
section
variable {P : Program} {w : World} {K : PySem.W.Frag} {mg : Str → Option Value} {base : Heap}
abbrev nID : List Str := ["_law_desk", "_law_d", "_law_pulls", "_law_standing", "_law_drawer"]
theorem scID : FnScope nID ["_law_desk", "_law_d", "_law_pulls"] (defScope s__law_is_desk) := ⟨rfl, rfl, rfl, by decide +kernel, rfl, by decide +kernel, by decide +kernel⟩
theorem ok_isDesk {f f1 f2 f3 fF fE C D : Addr} {fd fd1 fd2 fd3 dF dE : FuncData} (F : Fun K "_law_is_desk" "_law_is_desk" s__law_is_desk f fd) (T : Bt mg) (CI : CabI K mg C) (DP : DeskP P w K mg base D)
    (G1 : FnOk P w K mg base CX0 2 f1 fd1 ["_law_d", "_law_standing"] spLawFree) (g1 : mg "_law_free" = some (.ref f1)) (k1 : PySem.W.keepIn K (.ref f1) = true) (b1 : Binds K fd1 ["_law_d", "_law_standing"] [])
    (G2 : FnOk P w K mg base CX0 1 f2 fd2 ["_law_standing", "_law_drawer"] spMoved) (g2 : mg "_law_moved" = some (.ref f2)) (k2 : PySem.W.keepIn K (.ref f2) = true) (b2 : Binds K fd2 ["_law_standing", "_law_drawer"] [])
    (G3 : FnOk P w K mg base CX0 7 f3 fd3 ["_law_d"] (spMade C)) (g3 : mg "_law_made" = some (.ref f3)) (k3 : PySem.W.keepIn K (.ref f3) = true) (b3 : Binds K fd3 ["_law_d"] [])
    (UF : Meth K D "free" fF) (GF : FnOk P w K mg base CX0 10 fF dF ["self"] (spDkFree C D)) (bF : Binds K dF ["self"] [])
    (GE : FnOk P w K mg base CX0 1 fE dE ["self", "other"] (spEqC K C)) (sE : PySem.W.findIn K (.ref C) "__eq__" = some (some (.ref fE))) (iE : PySem.W.isFn K (.ref fE) = true) (bE : Binds K dE ["self", "other"] []) :
    FnOk P w K mg base CX0 12 f fd ["_law_desk", "_law_d", "_law_pulls"] (spIsDesk C D) := by
  refine F.ok scID (fun vs H Q E h => ?_) (fun cdv A outer s H vs Q E hr h => ?_)
  · obtain ⟨p, dx, c, l, dd, lp, bs, n, ps, rfl, _⟩ := h.h
    rfl
  · obtain ⟨p, dx, c, l, dd, lp, bs, n, ps, rfl, hD, hd, hlp, hds, k⟩ := h.h
    have hu : _ + 64 < cLine := hr.units
    obtain ⟨pC, gC, fdC, hpC, GC, bC⟩ := DP.c
    obtain ⟨pS, gS, fdS, hpS, GS, bS⟩ := DP.s
    obtain ⟨pP, gP, fdP, hpP, GP, bP⟩ := DP.p
    obtain ⟨gL, fdL, sL, iL, GL, bL⟩ := DP.l
    obtain ⟨t, ks, zs, hdd, hB, ek, O, n1, n7, l100⟩ := id hd.h
    refine ⟨_, pss_cons (ps_set (i := 3) scID.nd rfl (Or.inl rfl) (pe_op op_mul_str pe_str (pe_ix ix_list (pv 1) pe_int (fun _ _ => rfl))))
      (pss_cons (ps_for PassesOwn.never rfl (pi_list (pv 2)) (pg_name (i := 4) scID.nd rfl (Or.inl rfl))
        (pss_one (ps_set (i := 3) scID.nd rfl (Or.inl rfl) (pe_call G2 (hr.mono (by decide)) rfl g2 k2 b2 .nil pass0 (pa_cons (pv 3) (pa_cons (pv 4) pa_nil))))))
      (pss_cons (ps_if (PW.pt (pw_or (pt_cmpR op_ne (pe_prop (pv 0) DP.cl hpS GS (hr.mono (by decide)) bS .nil pass0 rfl) (pv 3) (nomark _))
          (pw_or (pt_cmpR (op_neD hu) (pe_prop (pv 0) DP.cl hpP GP (hr.mono (by decide)) bP .nil pass0 rfl) (pe_callTy call_tuple_of (by rfl) T.tuple (by decide +kernel) (pa_cons (pv 2) pa_nil)) (nomark _))
          (pw_or1 (pt_cmpR (op_neD hu) (pe_meth0 (pv 0) DP.cl UF GF (hr.mono (by decide)) bF .nil pass0) (pe_call G1 (hr.mono (by decide)) rfl g1 k1 b1 .nil pass0 (pa_cons (pv 1) (pa_cons (pv 3) pa_nil))) (nomark _)))))) (pss_one (ps_ret pe_bl)) pss_nil)
      (pss_one (ps_ret (pe_and (pe_cmpR op_eq (pe_callB (cr_lenOwn sL iL GL bL (hr.mono (by decide)) pass0) (by rfl) T.len PySem.boot_len (pa_cons (pv 0) pa_nil)) (pe_callB call_len_seq (by rfl) T.len PySem.boot_len (pa_cons (pv 2) pa_nil)) (nomark _))
        (pe_one (pe_cmpR (op_eqOwn (E := E0) sE iE GE bE (hr.mono (by decide)) pass0) (pe_prop (pv 0) DP.cl hpC GC (hr.mono (by decide)) bC .nil pass0 rfl) (pe_call G3 (hr.mono (by decide)) rfl g3 k3 b3 .nil pass0 (pa_cons (pv 1) pa_nil)) (nomark _)))))))), ?_⟩
    refine ⟨_, rfl, dd, _, 0, .int n, rfl, rfl, SqL.of hdd, atI_nat (j := 0) rfl, "s", (n : Int), rfl, rfl, mulOk_one (by decide +kernel) (by omega) (by omega), ?_⟩
    rw [mul_shut (by omega) (by omega)]
    refine ⟨_, rfl, lp, rfl, ⟨_, SqL.of hlp⟩, ?_⟩
    refine for_list (K := K) (a := lp) (xs := ps.map V.int) (fun i σ H' => ∃ u4 : Option V, σ = [some (.ref p), some (.ref dd), some (.ref lp), some (.str (sstr (stOf n (ps.take i)))), u4] ∧ Same H H') ⟨_, rfl, Same.refl H⟩ ?_ ?_ ?_
    · rintro i σ H' _ ⟨u4, _, s1⟩
      exact SqL.of (s1 _ _ hlp)
    · rintro i x σ H1 hi ⟨u4, rfl, s1⟩
      rw [List.getElem?_map] at hi
      cases ei : ps[i]? with
      | none => rw [ei] at hi; cases hi
      | some d =>
        rw [ei] at hi
        cases hi
        obtain ⟨d0, d1⟩ := hds d (List.mem_of_getElem? ei)
        have hln := stOf_len n (ps.take i)
        refine ⟨_, rfl, _, rfl, ⟨⟨stOf n (ps.take i), d, rfl, by omega, d0, by omega, fun H2 s2 => ?_⟩⟩⟩
        have e2 : stOf n (ps.take (i + 1)) = flip (stOf n (ps.take i)) d := by
          obtain ⟨hil, e⟩ := List.getElem?_eq_some_iff.mp ei
          rw [List.take_succ_eq_append_getElem hil, e, stOf_snoc]
        exact ⟨some (.int d), by rw [e2]; rfl, s1.trans s2⟩
    · rintro σ H1 ⟨u4, rfl, s1⟩
      rw [List.length_map, List.take_length]
      have hD1 := hD.same s1
      have hd1 := hd.same s1
      have hln := stOf_len n ps
      refine ⟨_, rfl, p, dx, _, rfl, hD1.at', ⟨⟨p, dx, c, l, _, rfl, hD1.at', _, rfl, rfl, _, rfl, iteNS rfl ?_⟩⟩⟩
      refine ⟨_, rfl, p, dx, _, rfl, hD1.at', ⟨⟨p, dx, c, l, _, ps, rfl, hD1.at', hD1.li, fun q1 H2 s2 h2 => ?_⟩⟩⟩
      have s12 := s1.trans s2
      refine ⟨_, rfl, lp, _, rfl, .inl ⟨SqL.of (s12 _ _ hlp), fun q2 nq2 => ?_⟩⟩
      obtain ⟨s3, h3⟩ := new_at (o := .tup (ps.map V.int)) nq2
      generalize upd H2 q2 (.tup (ps.map V.int)) = H3 at s3 h3 ⊢
      refine ⟨_, _, .tup (SqT.of' (s3 _ _ h2)) (dpAll_ints _), .tup (SqT.of' h3) (dpAll_ints _), dok_shaped (dok_tints ps) (by decide), dok_shaped (dok_tints ps) (by decide), _, rfl, ?_⟩
      rw [eqv_self (dok_tints ps)]
      refine iteF ?_
      have s13 := s12.trans s3
      have hD3 := hD.same s13
      refine ⟨_, rfl, p, dx, _, rfl, hD3.at', rfl, ⟨⟨p, dx, c, l, bs, _, ps, rfl, hD3, fun q4 H4 nq4 s4 h4 => ?_⟩⟩⟩
      have s14 := s13.trans s4
      have hd4 := hd.same s14
      rw [← hln] at hd4
      refine ⟨_, rfl, _, rfl, ⟨⟨dd, bs, _, rfl, hd4, fun q5 H5 nq5 s5 h5 => ?_⟩⟩⟩
      refine ⟨_, _, .lst (SqL.of (s5 _ _ h4)) (dpAll_ints _), .lst (SqL.of h5) (dpAll_ints _), dok_shaped (dok_list (dok_ints _)) (by decide), dok_shaped (dok_list (dok_ints _)) (by decide), _, rfl, ?_⟩
      rw [eqv_self (dok_list (dok_ints _))]
      refine iteF ?_
      have s15 := s14.trans s5
      have hD5 := hD.same s15
      refine ⟨_, rfl, p, dx, _, rfl, hD5.at', ⟨⟨p, dx, c, l, _, ps, rfl, hD5.at', hD5.li, ps.length, rfl, by have := hD.small; omega, ?_⟩⟩⟩
      refine ⟨_, rfl, lp, _, rfl, .inl (SqL.of (s15 _ _ hlp)), ?_⟩
      rw [List.length_map]
      refine ⟨rfl, _, rfl, ?_⟩
      rw [decide_eq_true rfl]
      refine iteT ?_
      refine ⟨_, rfl, p, dx, _, rfl, hD5.at', ⟨⟨p, dx, c, l, _, rfl, hD5.at', ?_⟩⟩⟩
      refine ⟨_, rfl, ⟨⟨dd, t, n, ks, zs, rfl, s15 _ _ hdd, n1, n7, hB.same s15, by rw [ek]; exact O, fun c2 H6 nc2 hcab2 s6 => ?_⟩⟩⟩
      obtain ⟨dx2, hx2⟩ := hcab2
      have s16 := s15.trans s6
      obtain ⟨t1, ks1, ⟨dxc, hc⟩, hB1, ek1, _⟩ := (hD5.cab.same s6).h
      have nfC : PySem.W.notFirst K C (.ref C) = true := by simp [PySem.W.notFirst]
      refine ⟨c, dxc, _, .ref C, rfl, hc, .base (.ins hx2 CI.cl CI.ha CI.hn CI.htk CI.hm), nfC, ⟨⟨c, dxc, _, t1, _, rfl, hc, .inr ⟨c2, dx2, n, t, ks1, ks, rfl, hx2, hB1, hB.same s16, ?_⟩⟩⟩⟩
      have ed : ks1.map (fun k => barD k.2) = ks.map (fun k => barD k.2) := by
        have : (ks1.map (·.2)).map barD = (ks.map (·.2)).map barD := by rw [ek1, ek]
        rw [List.map_map, List.map_map] at this
        exact this
      rw [ed, eqv_self (dok_tuple (dok_bars ks)), decide_eq_true (by rw [hln])]
      exact k H6 s16
end
end DL

set_option Elab.async false
set_option maxRecDepth 100000
set_option maxHeartbeats 4000000
namespace DL
open PySem L2 HT TL
def spLaw23 (K : PySem.W.Frag) : Sp := fun vs H Q _ => ∃ (a : Addr) (ns : List Int), vs = [.ref a] ∧ SqL K H a (ns.map V.int) ∧ ns.length ≤ 63 ∧ ∀ H', Q (.bl true) H'
def Keep2 (p l : Addr) (H H' : Hp) : Prop := ∀ b o, b ≠ p → b ≠ l → H b = some o → H' b = some o
theorem cab_but {C r c : Addr} {H H' : Hp} {ys : List V} {n : Int} {bs : List Bar} (hr : H r = some (.lst ys)) (B : But r H H') (h : CabOk C H c n bs) : CabOk C H' c n bs := by
  obtain ⟨t, ks, ⟨dx, hc⟩, hB, h3⟩ := h.h
  exact ⟨⟨t, ks, ⟨dx, B _ _ (ne_of hc hr (by intro z; cases z)) hc⟩, ⟨B.tup hr hB.tu, fun k hk => B.tup hr (hB.el k hk)⟩, h3⟩⟩
theorem cab_keep {C D p dx c' l c : Addr} {st : List Bool} {H H' : Hp} {ys : List V} {n : Int} {bs : List Bar} (hp : H p = some (.ins D dx (dkF c' l st))) (hl : H l = some (.lst ys)) (B : Keep2 p l H H') (h : CabOk C H c n bs) : CabOk C H' c n bs := by
  obtain ⟨t, ks, ⟨dc, hc⟩, hB, h3⟩ := h.h
  have tu : ∀ {b : Addr} {xs : List V}, H b = some (.tup xs) → H' b = some (.tup xs) := fun {b xs} e => B _ _ (ne_of e hp (by intro z; cases z)) (ne_of e hl (by intro z; cases z)) e
  refine ⟨⟨t, ks, ⟨dc, B _ _ (ne_of hc hp ?_) (ne_of hc hl (by intro z; cases z)) hc⟩, ⟨tu hB.tu, fun k hk => tu (hB.el k hk)⟩, h3⟩⟩
  intro z
  injection z with _ _ z
  have q := cfl_d n t
  rw [z, show (dkF c' l st).lookup ("_drawers" : Str) = none from rfl] at q
  cases q
theorem Dk.but {C D r : Addr} {H H' : Hp} {ys : List V} {p dx c l : Addr} {bs : List Bar} {st : List Bool} {ps : List Int} (hr : H r = some (.lst ys)) (B : But r H H') (lr : l ≠ r) (h : Dk C D H p dx c l bs st ps) : Dk C D H' p dx c l bs st ps :=
  ⟨B _ _ (ne_of h.at' hr (by intro z; cases z)) h.at', cab_but hr B h.cab, B _ _ lr h.li, h.small⟩
theorem dr_but {r pd : Addr} {H H' : Hp} {ys : List V} {n : Int} {bs : List Bar} (hr : H r = some (.lst ys)) (B : But r H H') (np : pd ≠ r) (h : DrOk H pd n bs) : DrOk H' pd n bs := by
  obtain ⟨t, ks, zs, h1, h2, h3⟩ := h.h
  exact ⟨⟨t, ks, zs, B _ _ np h1, ⟨B.tup hr h2.tu, fun k hk => B.tup hr (h2.el k hk)⟩, h3⟩⟩
structure Sys (C D r a : Addr) (H2 : Hp) (n : Nat) (bs : List Bar) (H : Hp) (p dx c l lp p2 dx2 l2 lk : Addr) (ps ls qs : List Int) : Prop where
  R : RowOk H r a
  B : But r H2 H
  d1 : Dk C D H p dx c l bs (stOf n ps) ps
  lpa : H lp = some (.lst (ls.map V.int))
  bp : ∀ d ∈ ps, 0 ≤ d ∧ d < n
  d2 : Dk C D H p2 dx2 c l2 bs (stOf n qs) qs
  lka : H lk = some (.lst (qs.map V.int))
  bq : ∀ d ∈ qs, 0 ≤ d ∧ d < n
  np : H2 p = none
  nl : H2 l = none
  lr : l ≠ r
  l2r : l2 ≠ r
  lpr : lp ≠ r
  lkr : lk ≠ r
  lpl : lp ≠ l
  lkl : lk ≠ l
  l2l : l2 ≠ l
  p2p : p2 ≠ p
section
variable {C D r a : Addr} {H2 : Hp} {n : Nat} {bs : List Bar} {H H' : Hp} {p dx c l lp p2 dx2 l2 lk : Addr} {ps ls qs : List Int}
theorem Sys.same (S : Sys C D r a H2 n bs H p dx c l lp p2 dx2 l2 lk ps ls qs) (s : Same H H') : Sys C D r a H2 n bs H' p dx c l lp p2 dx2 l2 lk ps ls qs :=
  { S with R := S.R.same s, B := S.B.trans (sbut s), d1 := S.d1.same s, lpa := s _ _ S.lpa, d2 := S.d2.same s, lka := s _ _ S.lka }
theorem Sys.but (S : Sys C D r a H2 n bs H p dx c l lp p2 dx2 l2 lk ps ls qs) (R : RowOk H' r a) (B : But r H H') : Sys C D r a H2 n bs H' p dx c l lp p2 dx2 l2 lk ps ls qs := by
  obtain ⟨_, _, _, hr, _⟩ := id S.R.h
  exact { S with R := R, B := S.B.trans B, d1 := S.d1.but hr B S.lr, lpa := B _ _ S.lpr S.lpa, d2 := S.d2.but hr B S.l2r, lka := B _ _ S.lkr S.lka }
theorem Sys.desk (S : Sys C D r a H2 n bs H p dx c l lp p2 dx2 l2 lk ps ls qs) {ps' : List Int} (hp : H' p = some (.ins D dx (dkF c l (stOf n ps')))) (hl : H' l = some (.lst (ps'.map V.int))) (K2 : Keep2 p l H H') (sm : ps'.length ≤ 100) (b : ∀ d ∈ ps', 0 ≤ d ∧ d < n) :
    Sys C D r a H2 n bs H' p dx c l lp p2 dx2 l2 lk ps' ls qs := by
  obtain ⟨i, m, e, hr, hR⟩ := id S.R.h
  have lst : ∀ {b : Addr} {xs : List V}, b ≠ l → H b = some (.lst xs) → H' b = some (.lst xs) := fun {b xs} nb e => K2 _ _ (ne_of e S.d1.at' (by intro z; cases z)) nb e
  have cb : CabOk C H' c n bs := by
    have := cab_keep S.d1.at' S.d1.li K2 S.d1.cab
    rw [stOf_len] at this
    exact this
  refine { S with R := ⟨⟨i, m, e, lst (Ne.symm S.lr) hr, hR⟩⟩, B := fun b o hb e => K2 _ _ (fun z => ?_) (fun z => ?_) (S.B b o hb e), d1 := ⟨hp, by rw [stOf_len]; exact cb, hl, sm⟩, lpa := lst S.lpl S.lpa, bp := b, d2 := ?_, lka := lst S.lkl S.lka }
  · rw [z, S.np] at e
    cases e
  · rw [z, S.nl] at e
    cases e
  · refine ⟨K2 _ _ S.p2p (ne_of S.d2.at' S.d1.li (by intro z; cases z)) S.d2.at', by rw [stOf_len]; exact cb, lst S.l2l S.d2.li, S.d2.small⟩
theorem Sys.list (S : Sys C D r a H2 n bs H p dx c l lp p2 dx2 l2 lk ps ls qs) {lp' : Addr} {ls' : List Int} (h : H lp' = some (.lst (ls'.map V.int))) (n1 : lp' ≠ r) (n2 : lp' ≠ l) : Sys C D r a H2 n bs H p dx c l lp' p2 dx2 l2 lk ps ls' qs :=
  { S with lpa := h, lpr := n1, lpl := n2 }
theorem Sys.twin (S : Sys C D r a H2 n bs H p dx c l lp p2 dx2 l2 lk ps ps qs) {p3 dx3 l3 : Addr} (h : Dk C D H p3 dx3 c l3 bs (stOf n ps) ps) (n1 : p3 ≠ p) (n2 : l3 ≠ l) (n3 : l3 ≠ r) : Sys C D r a H2 n bs H p dx c l lp p3 dx3 l3 lp ps ps ps :=
  { S with d2 := h, lka := S.lpa, bq := S.bp, l2r := n3, lkr := S.lpr, lkl := S.lpl, l2l := n2, p2p := n1 }
end
theorem ne_nil {ps : List Int} (h : ps ≠ []) : PyData.eqv (.list (ps.map PyData.int)) (.list (([] : List Int).map PyData.int)) = false := by
  cases ps with
  | nil => exact absurd rfl h
  | cons x xs => simp [PyData.eqv, PyData.eqvAll]
theorem cut_last {xs : List V} : cutV xs none (some (-1)) = xs.dropLast := by
  unfold cutV
  have e : HT.sIx xs.length xs.length (some (-1)) = xs.length - 1 := by
    show (if (-1 : Int) < 0 then ((-1 : Int) + (xs.length : Int)).toNat else min (-1 : Int).toNat xs.length) = xs.length - 1
    rw [if_pos (by decide)]
    omega
  rw [HT.sIx_none, e, List.drop_zero, Nat.sub_zero, List.dropLast_eq_take]
section
variable {P : Program} {w : World} {K : PySem.W.Frag} {mg : Str → Option Value} {base : Heap}
abbrev nLaw : List Str := ["_law_script", "_law_row", "_law_d", "_law_desk", "_law_pulls", "_law_twin", "_law_kept", "_law_turn", "_law_drawer", "_law_goes"]
theorem scLaw : FnScope nLaw ["_law_script"] (defScope s_law) := ⟨rfl, rfl, rfl, by decide +kernel, rfl, by decide +kernel, by decide +kernel⟩
theorem ok_law {f fT fP fM fI fU1 fU2 fU3 fU4 fS C D : Addr} {fd dT dP dM dI dU1 dU2 dU3 dU4 dS : FuncData} (F : Fun K "law" "law" s_law f fd) (T : Bt mg) (DT : DeskT K mg D)
    (GT : FnOk P w K mg base CX0 1 fT dT ["_law_row", "_law_many"] (spTaken K)) (gT : mg "_law_taken" = some (.ref fT)) (kT : PySem.W.keepIn K (.ref fT) = true) (bT : Binds K dT ["_law_row", "_law_many"] [])
    (GP : FnOk P w K mg base CX0 2 fP dP ["_law_row", "_law_most"] (spParts K)) (gP : mg "_law_parts" = some (.ref fP)) (kP : PySem.W.keepIn K (.ref fP) = true) (bP : Binds K dP ["_law_row", "_law_most"] [])
    (GM : FnOk P w K mg base CX0 7 fM dM ["_law_d"] (spMade C)) (gM : mg "_law_made" = some (.ref fM)) (kM : PySem.W.keepIn K (.ref fM) = true) (bM : Binds K dM ["_law_d"] [])
    (MD : Mk K D fI) (GI : FnOk P w K mg base CX0 3 fI dI ["self", "cabinet"] (spDkInit C D)) (bI : Binds K dI ["self", "cabinet"] [])
    (UC : Meth K D "copy" fU1) (GC : FnOk P w K mg base CX0 10 fU1 dU1 ["self"] (spDkCopy C D)) (bC : Binds K dU1 ["self"] [])
    (UU : Meth K D "undo" fU2) (GU : FnOk P w K mg base CX0 10 fU2 dU2 ["self"] (spDkUndo C D)) (bU : Binds K dU2 ["self"] [])
    (UF : Meth K D "free" fU3) (GF : FnOk P w K mg base CX0 10 fU3 dU3 ["self"] (spDkFree C D)) (bF : Binds K dU3 ["self"] [])
    (UP : Meth K D "pull" fU4) (GPu : FnOk P w K mg base CX0 10 fU4 dU4 ["self", "drawer"] (spDkPull C D)) (bPu : Binds K dU4 ["self", "drawer"] [])
    (GS : FnOk P w K mg base CX0 12 fS dS ["_law_desk", "_law_d", "_law_pulls"] (spIsDesk C D)) (gS : mg "_law_is_desk" = some (.ref fS)) (kS : PySem.W.keepIn K (.ref fS) = true) (bS : Binds K dS ["_law_desk", "_law_d", "_law_pulls"] []) :
    FnOk P w K mg base CX0 20 f fd ["_law_script"] (spLaw23 K) := by
  refine F.ok scLaw (fun vs H Q E h => ?_) (fun cdv A outer s H vs Q E hr h => ?_)
  · obtain ⟨a, ns, rfl, _⟩ := h
    rfl
  · obtain ⟨a, ns, rfl, hS, hlen, k⟩ := h
    have hu : _ + 64 < cLine := hr.units
    refine ⟨_, pss_cons (ps_set (i := 1) scLaw.nd rfl (Or.inl rfl) (pe_lst (pa_cons (pv 0) (pa_cons pe_int (pa_cons pe_int (pa_cons pe_int pa_nil))))))
      (pss_cons (ps_set (i := 2) scLaw.nd rfl (Or.inl rfl) (pe_call GP (hr.mono (by decide)) rfl gP kP bP .nil pass0 (pa_cons (pv 1) (pa_cons pe_int pa_nil))))
      (pss_cons (ps_par (i := 3) (j := 4) (by rfl) scLaw.nd rfl rfl (by decide) rfl rfl (pa_cons (pe_make MD GI (hr.mono (by decide)) rfl DT.mgD bI .nil pass0 (pa_cons (pe_call GM (hr.mono (by decide)) rfl gM kM bM .nil pass0 (pa_cons (pv 2) pa_nil)) pa_nil)) (pa_cons (pe_lst pa_nil) pa_nil)) (by rfl))
      (pss_cons (ps_par (i := 5) (j := 6) (by rfl) scLaw.nd rfl rfl (by decide) rfl rfl (pa_cons (pe_meth0 (pv 3) DT.cl UC GC (hr.mono (by decide)) bC .nil pass0) (pa_cons (pe_lst pa_nil) pa_nil)) (by rfl))
      (pss_cons (ps_for PassesOwn.never rfl (pi_range1 rfl T.range (pa_cons pe_int pa_nil)) (pg_name (i := 7) scLaw.nd rfl (Or.inl rfl))
        (C8.pss_cut (ps_if (pt_cmpR op_eq (pe_call GT (hr.mono (by decide)) rfl gT kT bT .nil pass0 (pa_cons (pv 1) (pa_cons pe_int pa_nil))) pe_int (nomark _))
          (pss_cons (ps_if (pt_cmpR op_ne (pe_meth0 (pv 3) DT.cl UU GU (hr.mono (by decide)) bU .nil pass0) (pe_cmpR (op_neD hu) (pv 4) (pe_lst pa_nil) (nomark _)) (nomark _)) (pss_one (ps_ret pe_bl)) pss_nil)
            (pss_one (ps_set (i := 4) scLaw.nd rfl (Or.inl rfl) (pe_slice sl_list (pv 4) po_none (po_some (pe_un un_neg pe_int))))))
          (pss_cons (ps_par (i := 8) (j := 9) (by rfl) scLaw.nd rfl rfl (by decide) rfl rfl (pa_cons (pe_call GT (hr.mono (by decide)) rfl gT kT bT .nil pass0 (pa_cons (pv 1) (pa_cons (pe_ix ix_list (pv 2) pe_int (fun _ _ => rfl)) pa_nil))) (pa_cons (pe_meth0 (pv 3) DT.cl UF GF (hr.mono (by decide)) bF .nil pass0) pa_nil)) (by rfl))
          (pss_cons (ps_if (pt_cmpR op_ne (pe_meth (pv 3) DT.cl UP GPu (hr.mono (by decide)) bPu .nil pass0 (pa_cons (pv 8) pa_nil)) (pe_cmpR op_in_seq (pv 8) (pv 9) (by rfl)) (nomark _)) (pss_one (ps_ret pe_bl)) pss_nil)
            (pss_one (ps_set (i := 4) scLaw.nd rfl (Or.inl rfl) (pe_ifExp (pt_cmpR op_in_seq (pv 8) (pv 9) (by rfl)) (pe_op op_cat (pv 4) (pe_lst (pa_cons (pv 8) pa_nil))) (pv 4)))))))
        (pss_cons (ps_if (pt_not (pt_val (pe_call GS (hr.mono (by decide)) rfl gS kS bS .nil pass0 (pa_cons (pv 3) (pa_cons (pv 2) (pa_cons (pv 4) pa_nil)))))) (pss_one (ps_ret pe_bl)) pss_nil)
        (pss_one (ps_if (pt_cmpR op_eq (pv 7) pe_int (nomark _)) (pss_one (ps_par (i := 5) (j := 6) (by rfl) scLaw.nd rfl rfl (by decide) rfl rfl (pa_cons (pe_meth0 (pv 3) DT.cl UC GC (hr.mono (by decide)) bC .nil pass0) (pa_cons (pv 4) pa_nil)) (by rfl))) pss_nil)))))
      (pss_one (ps_ret (pe_call GS (hr.mono (by decide)) rfl gS kS bS .nil pass0 (pa_cons (pv 5) (pa_cons (pv 2) (pa_cons (pv 6) pa_nil)))))))))), ?_⟩
    refine ⟨_, rfl, (by show 4 ≤ sizeLine; decide), fun r hr0 => ?_⟩
    have R0 : RowOk (upd H r (.lst [.ref a, .int 0, .int 223, .int 0])) r a := ⟨⟨0, 223, 0, upd_same, by decide, by decide, by decide, by decide⟩⟩
    have S0 : SqL K (upd H r (.lst [.ref a, .int 0, .int 223, .int 0])) a (ns.map V.int) := (same_upd hr0).seq hS
    generalize (upd H r (.lst [.ref a, .int 0, .int 223, .int 0])) = H0 at R0 S0 ⊢
    refine ⟨_, rfl, ⟨⟨r, a, ns, 7, rfl, R0, S0, by decide, by decide, fun pd t m ks H2 hp0 ht0 n1 n7 hpd hB O h13 R2 B2 => ?_⟩⟩⟩
    obtain ⟨n, rfl⟩ : ∃ n : Nat, m = (n : Int) := ⟨m.toNat, by omega⟩
    have S2 : SqL K H2 a (ns.map V.int) := B2.seqR R0 S0
    have nD2 : DrOk H2 pd n (ks.map (·.2)) := ⟨⟨t, ks, [], hpd, hB, rfl, O, n1, n7, by rw [List.length_map]; omega⟩⟩
    obtain ⟨_, _, _, hr0', _⟩ := id R0.h
    have npd : pd ≠ r := (ne_of_none hr0' hp0).symm
    obtain ⟨_, _, _, hR2, _⟩ := id R2.h
    refine ⟨_, rfl, ⟨⟨pd, t, n, ks, [], rfl, hpd, n1, n7, hB, O, fun c H3 nc hcab s3 => ?_⟩⟩⟩
    have C3 : CabOk C H3 c n (ks.map (·.2)) := ⟨⟨t, ks, hcab, hB.same s3, rfl, O, n1, n7, by rw [List.length_map]; omega⟩⟩
    have R3 := R2.same s3
    generalize hbs : ks.map (·.2) = bs at *
    have l100 : bs.length ≤ 100 := by rw [← hbs, List.length_map]; omega
    intro p dx np ndx nex
    have s4 : Same H3 (upd (upd H3 dx (.own p)) p (.ins D dx [])) := fun b o e => by
      rw [upd_ne (ne_of_none e np), upd_ne (ne_of_none e ndx)]
      exact e
    refine ⟨⟨p, dx, c, n, bs, rfl, upd_same, C3.same s4, fun l H4 nl hp4 hl4 kp => ⟨rfl, ?_⟩⟩⟩
    have s34 : Same H3 H4 := fun b o e => kp b o (ne_of_none e np) (s4 b o e)
    have n_none : ∀ {b : Addr}, H3 b = none → H2 b = none := fun {b} e => by
      cases q : H2 b with
      | none => rfl
      | some o => rw [s3 _ _ q] at e; cases e
    have nl3 : H3 l = none := by
      have : l ≠ p := fun z => by rw [z, upd_same] at nl; cases nl
      rw [upd_ne this] at nl
      by_cases q : l = dx
      · rw [q, upd_same] at nl; cases nl
      · rw [upd_ne q] at nl; exact nl
    have lr : l ≠ r := fun z => by
      rw [z, s3 _ _ hR2] at nl3
      cases nl3
    refine ⟨(by show 0 ≤ sizeLine; decide), fun lp nlp => ?_⟩
    obtain ⟨s5, f5⟩ := new_at (o := .lst []) nlp
    generalize upd H4 lp (.lst []) = H5 at s5 f5 ⊢
    have hd5 : Dk C D H5 p dx c l bs (stOf n []) [] := ⟨s5 _ _ hp4, by rw [stOf_len]; exact (C3.same s34).same s5, s5 _ _ hl4, by simp⟩
    have lpl : lp ≠ l := (ne_of_none hl4 nlp).symm
    have R4 := R3.same s34
    obtain ⟨_, _, _, hR4, _⟩ := id R4.h
    have lpr : lp ≠ r := (ne_of_none hR4 nlp).symm
    refine ⟨_, _, rfl, _, rfl, p, dx, _, rfl, hd5.at', rfl, ⟨⟨p, dx, c, l, bs, _, [], rfl, hd5, fun p2 dx2 l2 H6 np2 nl2 s6 hp6 hl6 => ?_⟩⟩⟩
    refine ⟨(by show 0 ≤ sizeLine; decide), fun lk nlk => ?_⟩
    obtain ⟨s7, f7⟩ := new_at (o := .lst []) nlk
    generalize upd H6 lk (.lst []) = H7 at s7 f7 ⊢
    have s57 := s6.trans s7
    have hd7 := hd5.same s57
    have R5 := R4.same s5
    obtain ⟨_, _, _, hR5, _⟩ := id R5.h
    have R7 := R5.same s57
    have S7 : Sys C D r a H2 n bs H7 p dx c l lp p2 dx2 l2 lk [] [] [] := {
      R := R7, B := (((sbut s3).trans (sbut s34)).trans (sbut s5)).trans (sbut s57), d1 := hd7, lpa := s57 _ _ f5, bp := fun _ h => (by cases h),
      d2 := ⟨s7 _ _ hp6, hd7.cab, s7 _ _ hl6, by simp⟩, lka := f7, bq := fun _ h => (by cases h), np := n_none np, nl := n_none nl3, lr := lr,
      l2r := (ne_of_none hR5 nl2).symm, lpr := lpr, lkr := (ne_of_none (s6 _ _ hR5) nlk).symm, lpl := lpl, lkl := (ne_of_none (s6 _ _ hd5.li) nlk).symm,
      l2l := (ne_of_none hd5.li nl2).symm, p2p := (ne_of_none hd5.at' np2).symm }
    have hdd : ∀ {H' : Hp}, But r H2 H' → DrOk H' pd n bs := fun B => dr_but hR2 B npd nD2
    refine ⟨_, _, rfl, 12, rfl, by decide, by decide, ?_⟩
    refine for_range (lo := 0) (n := 12) (fun i σ H' => ∃ (lp p2 dx2 l2 lk : Addr) (ps qs : List Int) (u7 u8 u9 : Option V), σ = [some (.ref a), some (.ref r), some (.ref pd), some (.ref p), some (.ref lp), some (.ref p2), some (.ref lk), u7, u8, u9] ∧ ps.length ≤ i ∧ Sys C D r a H2 n bs H' p dx c l lp p2 dx2 l2 lk ps ps qs)
      ⟨lp, p2, dx2, l2, lk, [], [], _, _, _, rfl, Nat.zero_le _, S7⟩ ?_ ?_
    · clear S7 hd7 hR5 R7 R5 s57 f7 s7 nlk hl6 hp6 s6 nl2 np2 hR4 R4 lpr lpl hd5 f5 s5 nlp lp p2 dx2 l2 lk
      rintro i σ H8 hi ⟨lp, p2, dx2, l2, lk, ps, qs, u7, u8, u9, rfl, hlen', S8⟩
      refine ⟨fun σ' H' => ∃ (lp' : Addr) (ps' : List Int) (v8 v9 : Option V), σ' = [some (.ref a), some (.ref r), some (.ref pd), some (.ref p), some (.ref lp'), some (.ref p2), some (.ref lk), some (.int ((0 : Int) + (i : Nat))), v8, v9] ∧ ps'.length ≤ i + 1 ∧ Sys C D r a H2 n bs H' p dx c l lp' p2 dx2 l2 lk ps' ps' qs, ?_, ?_⟩
      rotate_left
      · rintro σ' H' ⟨lp', ps', v8, v9, rfl, hl', S⟩
        refine ⟨_, rfl, _, rfl, _, rfl, ⟨⟨p, dx, c, l, pd, lp', bs, n, ps', rfl, S.d1, hdd S.B, S.lpa, S.bp, fun H9 s9 => ?_⟩⟩⟩
        have S9 := S.same s9
        refine ⟨_, rfl, iteF ?_⟩
        refine ⟨_, rfl, rfl, _, rfl, ?_⟩
        refine ite2 (fun _ => ?_) (fun _ => ?_)
        · refine ⟨_, rfl, p, dx, _, rfl, S9.d1.at', rfl, ⟨⟨p, dx, c, l, bs, _, ps', rfl, S9.d1, fun p3 dx3 l3 H10 np3 nl3 s10 hp10 hl10 => ?_⟩⟩⟩
          have S10 := S9.same s10
          obtain ⟨_, _, _, hR9, _⟩ := id S9.R.h
          refine ⟨_, rfl, _, _, rfl, ?_⟩
          exact ⟨lp', p3, dx3, l3, lp', ps', ps', _, _, _, rfl, hl', S10.twin ⟨hp10, S10.d1.cab, hl10, S9.d1.small⟩ (ne_of_none S9.d1.at' np3).symm (ne_of_none S9.d1.li nl3).symm (ne_of_none hR9 nl3).symm⟩
        · exact ⟨lp', p2, dx2, l2, lk, ps', qs, _, _, _, rfl, hl', S9⟩
      refine ⟨_, rfl, ⟨⟨r, a, ns, 4, rfl, S8.R, S8.B.seqR R2 S2, by decide, by decide, fun v H9 v0 v4 R9 B9 => ?_⟩⟩⟩
      have S9 := S8.but R9 B9
      refine ⟨rfl, _, rfl, ?_⟩
      rw [show decide ((V.int v) = V.int 0) = decide (v = 0) from decide_eq_decide.mpr ⟨fun z => by injection z, fun z => by rw [z]⟩]
      have hln := stOf_len n ps
      have hlow : ∀ d ∈ ps, 0 ≤ d ∧ d < (stOf n ps).length := fun d hd => by rw [hln]; exact S9.bp d hd
      by_cases q0 : v = 0
      · rw [decide_eq_true q0]
        refine iteT ?_
        refine ⟨_, rfl, p, dx, _, rfl, S9.d1.at', rfl, ⟨⟨p, dx, c, l, bs, _, ps, rfl, S9.d1, hlow, fun e H10 s10 => ?_, fun qs' d e H10 hp10 hl10 kp10 => ?_⟩⟩⟩
        · have S10 := S9.same s10
          subst e
          refine ⟨_, rfl, (by show 0 ≤ sizeLine; decide), fun e1 ne1 => ?_⟩
          obtain ⟨s11, f11⟩ := new_at (o := .lst []) ne1
          generalize upd H10 e1 (.lst []) = H11 at s11 f11 ⊢
          have S11 := S10.same s11
          refine ⟨_, _, .lst (SqL.of S11.lpa) (dpAll_ints []), .lst (SqL.of f11) (dpAll_ints []), dok_shaped (dok_list (dok_ints [])) (by decide), dok_shaped (dok_list (dok_ints [])) (by decide), ?_⟩
          rw [eqv_self (dok_list (dok_ints []))]
          refine ⟨rfl, _, rfl, iteF ?_⟩
          refine ⟨_, rfl, 1, rfl, _, rfl, lp, _, rfl, SqL.of S11.lpa, fun q nq => ?_⟩
          rw [cut_last]
          obtain ⟨s12, f12⟩ := new_at (o := .lst (([] : List Int).map V.int).dropLast) nq
          generalize upd H11 q (.lst (([] : List Int).map V.int).dropLast) = H12 at s12 f12 ⊢
          have S12 := S11.same s12
          obtain ⟨_, _, _, hR11, _⟩ := id S11.R.h
          exact ⟨q, [], _, _, rfl, Nat.zero_le _, S12.list (ls' := []) f12 (ne_of_none hR11 nq).symm (ne_of_none S11.d1.li nq).symm⟩
        · have S10 := S9.desk (ps' := qs') (by rw [hp10, e, stOf_snoc, flip_flip (hlow d (by rw [e]; simp)).1 (by have := (hlow d (by rw [e]; simp)).2; rw [e, stOf_snoc, flip_len] at this; exact this)]) hl10 kp10 (by have := S9.d1.small; rw [e, List.length_append] at this; omega) (fun x hx => S9.bp x (by rw [e]; exact List.mem_append_left _ hx))
          refine ⟨_, rfl, (by show 0 ≤ sizeLine; decide), fun e1 ne1 => ?_⟩
          obtain ⟨s11, f11⟩ := new_at (o := .lst []) ne1
          generalize upd H10 e1 (.lst []) = H11 at s11 f11 ⊢
          have S11 := S10.same s11
          refine ⟨_, _, .lst (SqL.of S11.lpa) (dpAll_ints ps), .lst (SqL.of f11) (dpAll_ints []), dok_shaped (dok_list (dok_ints ps)) (by decide), dok_shaped (dok_list (dok_ints [])) (by decide), ?_⟩
          rw [ne_nil (by rw [e]; simp)]
          refine ⟨rfl, _, rfl, iteF ?_⟩
          refine ⟨_, rfl, 1, rfl, _, rfl, lp, _, rfl, SqL.of S11.lpa, fun q nq => ?_⟩
          rw [cut_last, show (ps.map V.int).dropLast = qs'.map V.int by rw [e, List.map_append, List.map_singleton, List.dropLast_concat]]
          obtain ⟨s12, f12⟩ := new_at (o := .lst (qs'.map V.int)) nq
          generalize upd H11 q (.lst (qs'.map V.int)) = H12 at s12 f12 ⊢
          have S12 := S11.same s12
          obtain ⟨_, _, _, hR11, _⟩ := id S11.R.h
          exact ⟨q, qs', _, _, rfl, (by have := congrArg List.length e; rw [List.length_append] at this; omega), S12.list f12 (ne_of_none hR11 nq).symm (ne_of_none S11.d1.li nq).symm⟩
      · rw [decide_eq_false q0]
        refine iteF ?_
        obtain ⟨_, _, _, hpd9, _⟩ := id (hdd S9.B).h
        refine ⟨_, rfl, _, rfl, pd, _, 0, .int n, rfl, rfl, SqL.of hpd9, atI_nat (j := 0) rfl, ⟨⟨r, a, ns, n, rfl, S9.R, S9.B.seqR R2 S2, n1, by omega, fun d H10 d0 d1 R10 B10 => ?_⟩⟩⟩
        have S10 := S9.but R10 B10
        refine ⟨_, rfl, p, dx, _, rfl, S10.d1.at', rfl, ⟨⟨p, dx, c, l, bs, _, ps, rfl, S10.d1, fun g H11 ng s11 h11 => ?_⟩⟩⟩
        have S11 := S10.same s11
        have ngl : g ≠ l := (ne_of_none S10.d1.li ng).symm
        have ngp : g ≠ p := (ne_of_none S10.d1.at' ng).symm
        refine ⟨_, _, rfl, ?_⟩
        have hin : inV (.int d) ((freeL bs (stOf n ps)).map V.int) = goesB bs (stOf n ps) d := by rw [inV_ints, mem_free d0 (by omega)]
        refine ⟨_, rfl, p, dx, _, rfl, S11.d1.at', rfl, _, rfl, ⟨⟨p, dx, c, l, bs, _, ps, d, rfl, S11.d1, d0, by omega, fun e H12 s12 => ?_, fun e H12 hp12 hl12 kp12 => ?_⟩⟩⟩
        · have S12 := S11.same s12
          rw [e] at hin
          refine ⟨_, rfl, _, rfl, g, _, rfl, .inl (SqL.of (s12 _ _ h11)), rfl, flat_ints _, ?_⟩
          rw [hin]
          refine ⟨rfl, _, rfl, iteF ?_⟩
          refine ⟨_, rfl, _, rfl, g, _, rfl, .inl (SqL.of (s12 _ _ h11)), rfl, flat_ints _, _, rfl, ?_⟩
          rw [hin]
          refine iteF ?_
          exact ⟨_, rfl, lp, ps, _, _, rfl, by omega, S12⟩
        · have S12 := S11.desk (ps' := ps ++ [d]) (by rw [hp12, stOf_snoc]) hl12 kp12 (by rw [List.length_append, List.length_singleton]; omega) (fun x hx => by
            rcases List.mem_append.mp hx with h | h
            · exact S11.bp x h
            · rw [List.mem_singleton.mp h]
              exact ⟨d0, d1⟩)
          have h12 : H12 g = some (.lst ((freeL bs (stOf n ps)).map V.int)) := kp12 _ _ ngp ngl h11
          rw [e] at hin
          refine ⟨_, rfl, _, rfl, g, _, rfl, .inl (SqL.of h12), rfl, flat_ints _, ?_⟩
          rw [hin]
          refine ⟨rfl, _, rfl, iteF ?_⟩
          refine ⟨_, rfl, _, rfl, g, _, rfl, .inl (SqL.of h12), rfl, flat_ints _, _, rfl, ?_⟩
          rw [hin]
          refine iteT ?_
          refine ⟨_, rfl, _, rfl, (by show 1 ≤ sizeLine; decide), fun q1 nq1 => ?_⟩
          obtain ⟨s13, f13⟩ := new_at (o := .lst [.int d]) nq1
          generalize upd H12 q1 (.lst [.int d]) = H13 at s13 f13 ⊢
          have S13 := S12.same s13
          refine ⟨lp, q1, _, _, rfl, rfl, S13.lpa, f13, (by rw [List.length_map]; exact small1000 (by omega)), fun q2 nq2 => ?_⟩
          rw [show ps.map V.int ++ [V.int d] = (ps ++ [d]).map V.int by rw [List.map_append]; rfl]
          obtain ⟨s14, f14⟩ := new_at (o := .lst ((ps ++ [d]).map V.int)) nq2
          generalize upd H13 q2 (.lst ((ps ++ [d]).map V.int)) = H14 at s14 f14 ⊢
          have S14 := S13.same s14
          obtain ⟨_, _, _, hR13, _⟩ := id S13.R.h
          exact ⟨q2, ps ++ [d], _, _, rfl, by rw [List.length_append, List.length_singleton]; omega, S14.list f14 (ne_of_none hR13 nq2).symm (ne_of_none S13.d1.li nq2).symm⟩
    · rintro σ H8 ⟨lp, p2, dx2, l2, lk, ps, qs, u7, u8, u9, rfl, _, S8⟩
      exact ⟨_, rfl, _, rfl, _, rfl, ⟨⟨p2, dx2, c, l2, pd, lk, bs, n, qs, rfl, S8.d2, hdd S8.B, S8.lka, S8.bq, fun H' _ => k H'⟩⟩⟩
end
end DL

set_option Elab.async false
set_option maxRecDepth 100000
set_option maxHeartbeats 8000000
namespace DL
open PySem L2 HT TL
/-! ### what the top has written -/
theorem all_mk {l : PySem.W.OpenLaw} {w : World} {K : PySem.W.Frag} {h : Heap} {mg : Str → Option Value} {fa : Addr} (X : K.In h) (G : h.Ns mainGlobals mg) (hfa : mg "law" = some (.ref fa))
    {f_is_integer : Addr} {od_is_integer an_is_integer : Option Addr} {sl_is_integer : Array (Option Value)} {oc_is_integer kV_is_integer dc_is_integer pm_is_integer cd_is_integer ct_is_integer : Value}
    {f_is_drawer_count : Addr} {od_is_drawer_count an_is_drawer_count : Option Addr} {sl_is_drawer_count : Array (Option Value)} {oc_is_drawer_count kV_is_drawer_count dc_is_drawer_count pm_is_drawer_count cd_is_drawer_count ct_is_drawer_count : Value}
    {f_is_drawer : Addr} {od_is_drawer an_is_drawer : Option Addr} {sl_is_drawer : Array (Option Value)} {oc_is_drawer kV_is_drawer dc_is_drawer pm_is_drawer cd_is_drawer ct_is_drawer : Value}
    {f_is_bar : Addr} {od_is_bar an_is_bar : Option Addr} {sl_is_bar : Array (Option Value)} {oc_is_bar kV_is_bar dc_is_bar pm_is_bar cd_is_bar ct_is_bar : Value}
    {f_check_drawers : Addr} {od_check_drawers an_check_drawers : Option Addr} {sl_check_drawers : Array (Option Value)} {oc_check_drawers kV_check_drawers dc_check_drawers pm_check_drawers cd_check_drawers ct_check_drawers : Value}
    {f_check_bars : Addr} {od_check_bars an_check_bars : Option Addr} {sl_check_bars : Array (Option Value)} {oc_check_bars kV_check_bars dc_check_bars pm_check_bars cd_check_bars ct_check_bars : Value}
    {f__law_taken : Addr} {od__law_taken an__law_taken : Option Addr} {sl__law_taken : Array (Option Value)} {oc__law_taken kV__law_taken dc__law_taken pm__law_taken cd__law_taken ct__law_taken : Value}
    {f__law_parts : Addr} {od__law_parts an__law_parts : Option Addr} {sl__law_parts : Array (Option Value)} {oc__law_parts kV__law_parts dc__law_parts pm__law_parts cd__law_parts ct__law_parts : Value}
    {f__law_made : Addr} {od__law_made an__law_made : Option Addr} {sl__law_made : Array (Option Value)} {oc__law_made kV__law_made dc__law_made pm__law_made cd__law_made ct__law_made : Value}
    {f_hinders : Addr} {od_hinders an_hinders : Option Addr} {sl_hinders : Array (Option Value)} {oc_hinders kV_hinders dc_hinders pm_hinders cd_hinders ct_hinders : Value}
    {f_moved : Addr} {od_moved an_moved : Option Addr} {sl_moved : Array (Option Value)} {oc_moved kV_moved dc_moved pm_moved cd_moved ct_moved : Value}
    {f_bars_against : Addr} {od_bars_against an_bars_against : Option Addr} {sl_bars_against : Array (Option Value)} {oc_bars_against kV_bars_against dc_bars_against pm_bars_against cd_bars_against ct_bars_against : Value}
    {f_goes : Addr} {od_goes an_goes : Option Addr} {sl_goes : Array (Option Value)} {oc_goes kV_goes dc_goes pm_goes cd_goes ct_goes : Value}
    {f_free_drawers : Addr} {od_free_drawers an_free_drawers : Option Addr} {sl_free_drawers : Array (Option Value)} {oc_free_drawers kV_free_drawers dc_free_drawers pm_free_drawers cd_free_drawers ct_free_drawers : Value}
    {f__law_hold : Addr} {od__law_hold an__law_hold : Option Addr} {sl__law_hold : Array (Option Value)} {oc__law_hold kV__law_hold dc__law_hold pm__law_hold cd__law_hold ct__law_hold : Value}
    {f__law_free : Addr} {od__law_free an__law_free : Option Addr} {sl__law_free : Array (Option Value)} {oc__law_free kV__law_free dc__law_free pm__law_free cd__law_free ct__law_free : Value}
    {f__law_moved : Addr} {od__law_moved an__law_moved : Option Addr} {sl__law_moved : Array (Option Value)} {oc__law_moved kV__law_moved dc__law_moved pm__law_moved cd__law_moved ct__law_moved : Value}
    {f_check_cabinet : Addr} {od_check_cabinet an_check_cabinet : Option Addr} {sl_check_cabinet : Array (Option Value)} {oc_check_cabinet kV_check_cabinet dc_check_cabinet pm_check_cabinet cd_check_cabinet ct_check_cabinet : Value}
    {f_check_drawer : Addr} {od_check_drawer an_check_drawer : Option Addr} {sl_check_drawer : Array (Option Value)} {oc_check_drawer kV_check_drawer dc_check_drawer pm_check_drawer cd_check_drawer ct_check_drawer : Value}
    {f_first_standing : Addr} {od_first_standing an_first_standing : Option Addr} {sl_first_standing : Array (Option Value)} {oc_first_standing kV_first_standing dc_first_standing pm_first_standing cd_first_standing ct_first_standing : Value}
    {f__law_is_desk : Addr} {od__law_is_desk an__law_is_desk : Option Addr} {sl__law_is_desk : Array (Option Value)} {oc__law_is_desk kV__law_is_desk dc__law_is_desk pm__law_is_desk cd__law_is_desk ct__law_is_desk : Value}
    {f_law : Addr} {od_law an_law : Option Addr} {sl_law : Array (Option Value)} {oc_law kV_law dc_law pm_law cd_law ct_law : Value}
    {C : Addr}
    {f_Cabinet___init__ : Addr} {od_Cabinet___init__ an_Cabinet___init__ : Option Addr} {sl_Cabinet___init__ : Array (Option Value)} {oc_Cabinet___init__ kV_Cabinet___init__ dc_Cabinet___init__ pm_Cabinet___init__ cd_Cabinet___init__ ct_Cabinet___init__ : Value}
    {f_Cabinet___eq__ : Addr} {od_Cabinet___eq__ an_Cabinet___eq__ : Option Addr} {sl_Cabinet___eq__ : Array (Option Value)} {oc_Cabinet___eq__ kV_Cabinet___eq__ dc_Cabinet___eq__ pm_Cabinet___eq__ cd_Cabinet___eq__ ct_Cabinet___eq__ : Value}
    {p_drawers : Addr} {rest_drawers : List Value}
    {f_Cabinet_drawers : Addr} {od_Cabinet_drawers an_Cabinet_drawers : Option Addr} {sl_Cabinet_drawers : Array (Option Value)} {oc_Cabinet_drawers kV_Cabinet_drawers dc_Cabinet_drawers pm_Cabinet_drawers cd_Cabinet_drawers ct_Cabinet_drawers : Value}
    {p_bars : Addr} {rest_bars : List Value}
    {f_Cabinet_bars : Addr} {od_Cabinet_bars an_Cabinet_bars : Option Addr} {sl_Cabinet_bars : Array (Option Value)} {oc_Cabinet_bars kV_Cabinet_bars dc_Cabinet_bars pm_Cabinet_bars cd_Cabinet_bars ct_Cabinet_bars : Value}
    {f_Desk_cabinet : Addr} {od_Desk_cabinet an_Desk_cabinet : Option Addr} {sl_Desk_cabinet : Array (Option Value)} {oc_Desk_cabinet kV_Desk_cabinet dc_Desk_cabinet pm_Desk_cabinet cd_Desk_cabinet ct_Desk_cabinet : Value}
    {f_Desk_standing : Addr} {od_Desk_standing an_Desk_standing : Option Addr} {sl_Desk_standing : Array (Option Value)} {oc_Desk_standing kV_Desk_standing dc_Desk_standing pm_Desk_standing cd_Desk_standing ct_Desk_standing : Value}
    {f_Desk_pulls : Addr} {od_Desk_pulls an_Desk_pulls : Option Addr} {sl_Desk_pulls : Array (Option Value)} {oc_Desk_pulls kV_Desk_pulls dc_Desk_pulls pm_Desk_pulls cd_Desk_pulls ct_Desk_pulls : Value}
    {f_Desk___len__ : Addr} {od_Desk___len__ an_Desk___len__ : Option Addr} {sl_Desk___len__ : Array (Option Value)} {oc_Desk___len__ kV_Desk___len__ dc_Desk___len__ pm_Desk___len__ cd_Desk___len__ ct_Desk___len__ : Value}
    {f_Desk_free : Addr} {od_Desk_free an_Desk_free : Option Addr} {sl_Desk_free : Array (Option Value)} {oc_Desk_free kV_Desk_free dc_Desk_free pm_Desk_free cd_Desk_free ct_Desk_free : Value}
    {f_Desk___init__ : Addr} {od_Desk___init__ an_Desk___init__ : Option Addr} {sl_Desk___init__ : Array (Option Value)} {oc_Desk___init__ kV_Desk___init__ dc_Desk___init__ pm_Desk___init__ cd_Desk___init__ ct_Desk___init__ : Value}
    {f_Desk_copy : Addr} {od_Desk_copy an_Desk_copy : Option Addr} {sl_Desk_copy : Array (Option Value)} {oc_Desk_copy kV_Desk_copy dc_Desk_copy pm_Desk_copy cd_Desk_copy ct_Desk_copy : Value}
    {f_Desk_undo : Addr} {od_Desk_undo an_Desk_undo : Option Addr} {sl_Desk_undo : Array (Option Value)} {oc_Desk_undo kV_Desk_undo dc_Desk_undo pm_Desk_undo cd_Desk_undo ct_Desk_undo : Value}
    {f_Desk_pull : Addr} {od_Desk_pull an_Desk_pull : Option Addr} {sl_Desk_pull : Array (Option Value)} {oc_Desk_pull kV_Desk_pull dc_Desk_pull pm_Desk_pull cd_Desk_pull ct_Desk_pull : Value}
    {tM : Tok}
    {fW : Addr}
    {ddW : Option Addr} {tW1 tW2 : Tok} {nW : Nat} {slW : Array (Option Value)}
    {fS : Addr}
    {esS : Array DictEntry} {nS : Nat}
    {tS1 : Tok}
    {tS2 : Tok}
    {CDk : Addr}
    {pDk_cabinet : Addr} {restDk_cabinet : List Value}
    {pDk_standing : Addr} {restDk_standing : List Value}
    {pDk_pulls : Addr} {restDk_pulls : List Value}
    (aDk : PySem.W.nsIn K mainGlobals "Desk" = some (some (.ref CDk)))
    (a_Desk___init__ : PySem.W.findIn K (.ref CDk) "__init__" = some (some (.ref f_Desk___init__)))
    (a_Desk___len__ : PySem.W.findIn K (.ref CDk) "__len__" = some (some (.ref f_Desk___len__)))
    (a_Desk_pull : PySem.W.findIn K (.ref CDk) "pull" = some (some (.ref f_Desk_pull)))
    (a_Desk_free : PySem.W.findIn K (.ref CDk) "free" = some (some (.ref f_Desk_free)))
    (a_Desk_undo : PySem.W.findIn K (.ref CDk) "undo" = some (some (.ref f_Desk_undo)))
    (a_Desk_copy : PySem.W.findIn K (.ref CDk) "copy" = some (some (.ref f_Desk_copy)))
    (paDk_cabinet : PySem.W.findIn K (.ref CDk) "cabinet" = some (some (.ref pDk_cabinet)))
    (prDk_cabinet : PySem.W.recIn K pDk_cabinet "property" = some (.ref f_Desk_cabinet :: restDk_cabinet))
    (paDk_standing : PySem.W.findIn K (.ref CDk) "standing" = some (some (.ref pDk_standing)))
    (prDk_standing : PySem.W.recIn K pDk_standing "property" = some (.ref f_Desk_standing :: restDk_standing))
    (paDk_pulls : PySem.W.findIn K (.ref CDk) "pulls" = some (some (.ref pDk_pulls)))
    (prDk_pulls : PySem.W.recIn K pDk_pulls "property" = some (.ref f_Desk_pulls :: restDk_pulls))
    (a_is_integer : PySem.W.nsIn K mainGlobals "is_integer" = some (some (.ref f_is_integer)))
    (l_is_integer : K.lookup f_is_integer = some ⟨oc_is_integer, od_is_integer, .func (PySem.W.fnOf "is_integer" "is_integer" (defArgs sIsInt) (defBody sIsInt) (defScope sIsInt) .none kV_is_integer dc_is_integer pm_is_integer an_is_integer cd_is_integer ct_is_integer), sl_is_integer⟩)
    (c_is_integer : PySem.W.codeIn K cd_is_integer "is_integer" = true)
    (k_is_integer : PySem.W.keepIn K (.ref f_is_integer) = true)
    (a_is_drawer_count : PySem.W.nsIn K mainGlobals "is_drawer_count" = some (some (.ref f_is_drawer_count)))
    (l_is_drawer_count : K.lookup f_is_drawer_count = some ⟨oc_is_drawer_count, od_is_drawer_count, .func (PySem.W.fnOf "is_drawer_count" "is_drawer_count" (defArgs sIsCount) (defBody sIsCount) (defScope sIsCount) .none kV_is_drawer_count dc_is_drawer_count pm_is_drawer_count an_is_drawer_count cd_is_drawer_count ct_is_drawer_count), sl_is_drawer_count⟩)
    (c_is_drawer_count : PySem.W.codeIn K cd_is_drawer_count "is_drawer_count" = true)
    (k_is_drawer_count : PySem.W.keepIn K (.ref f_is_drawer_count) = true)
    (a_is_drawer : PySem.W.nsIn K mainGlobals "is_drawer" = some (some (.ref f_is_drawer)))
    (l_is_drawer : K.lookup f_is_drawer = some ⟨oc_is_drawer, od_is_drawer, .func (PySem.W.fnOf "is_drawer" "is_drawer" (defArgs sIsDrawer) (defBody sIsDrawer) (defScope sIsDrawer) .none kV_is_drawer dc_is_drawer pm_is_drawer an_is_drawer cd_is_drawer ct_is_drawer), sl_is_drawer⟩)
    (c_is_drawer : PySem.W.codeIn K cd_is_drawer "is_drawer" = true)
    (k_is_drawer : PySem.W.keepIn K (.ref f_is_drawer) = true)
    (a_is_bar : PySem.W.nsIn K mainGlobals "is_bar" = some (some (.ref f_is_bar)))
    (l_is_bar : K.lookup f_is_bar = some ⟨oc_is_bar, od_is_bar, .func (PySem.W.fnOf "is_bar" "is_bar" (defArgs sIsBar) (defBody sIsBar) (defScope sIsBar) .none kV_is_bar dc_is_bar pm_is_bar an_is_bar cd_is_bar ct_is_bar), sl_is_bar⟩)
    (c_is_bar : PySem.W.codeIn K cd_is_bar "is_bar" = true)
    (k_is_bar : PySem.W.keepIn K (.ref f_is_bar) = true)
    (a_check_drawers : PySem.W.nsIn K mainGlobals "check_drawers" = some (some (.ref f_check_drawers)))
    (l_check_drawers : K.lookup f_check_drawers = some ⟨oc_check_drawers, od_check_drawers, .func (PySem.W.fnOf "check_drawers" "check_drawers" (defArgs sCheckDrawers) (defBody sCheckDrawers) (defScope sCheckDrawers) .none kV_check_drawers dc_check_drawers pm_check_drawers an_check_drawers cd_check_drawers ct_check_drawers), sl_check_drawers⟩)
    (c_check_drawers : PySem.W.codeIn K cd_check_drawers "check_drawers" = true)
    (k_check_drawers : PySem.W.keepIn K (.ref f_check_drawers) = true)
    (a_check_bars : PySem.W.nsIn K mainGlobals "check_bars" = some (some (.ref f_check_bars)))
    (l_check_bars : K.lookup f_check_bars = some ⟨oc_check_bars, od_check_bars, .func (PySem.W.fnOf "check_bars" "check_bars" (defArgs sCheckBars) (defBody sCheckBars) (defScope sCheckBars) .none kV_check_bars dc_check_bars pm_check_bars an_check_bars cd_check_bars ct_check_bars), sl_check_bars⟩)
    (c_check_bars : PySem.W.codeIn K cd_check_bars "check_bars" = true)
    (k_check_bars : PySem.W.keepIn K (.ref f_check_bars) = true)
    (a__law_taken : PySem.W.nsIn K mainGlobals "_law_taken" = some (some (.ref f__law_taken)))
    (l__law_taken : K.lookup f__law_taken = some ⟨oc__law_taken, od__law_taken, .func (PySem.W.fnOf "_law_taken" "_law_taken" (defArgs sTaken) (defBody sTaken) (defScope sTaken) .none kV__law_taken dc__law_taken pm__law_taken an__law_taken cd__law_taken ct__law_taken), sl__law_taken⟩)
    (c__law_taken : PySem.W.codeIn K cd__law_taken "_law_taken" = true)
    (k__law_taken : PySem.W.keepIn K (.ref f__law_taken) = true)
    (a__law_parts : PySem.W.nsIn K mainGlobals "_law_parts" = some (some (.ref f__law_parts)))
    (l__law_parts : K.lookup f__law_parts = some ⟨oc__law_parts, od__law_parts, .func (PySem.W.fnOf "_law_parts" "_law_parts" (defArgs sParts) (defBody sParts) (defScope sParts) .none kV__law_parts dc__law_parts pm__law_parts an__law_parts cd__law_parts ct__law_parts), sl__law_parts⟩)
    (c__law_parts : PySem.W.codeIn K cd__law_parts "_law_parts" = true)
    (k__law_parts : PySem.W.keepIn K (.ref f__law_parts) = true)
    (a__law_made : PySem.W.nsIn K mainGlobals "_law_made" = some (some (.ref f__law_made)))
    (l__law_made : K.lookup f__law_made = some ⟨oc__law_made, od__law_made, .func (PySem.W.fnOf "_law_made" "_law_made" (defArgs sMade) (defBody sMade) (defScope sMade) .none kV__law_made dc__law_made pm__law_made an__law_made cd__law_made ct__law_made), sl__law_made⟩)
    (c__law_made : PySem.W.codeIn K cd__law_made "_law_made" = true)
    (k__law_made : PySem.W.keepIn K (.ref f__law_made) = true)
    (a_hinders : PySem.W.nsIn K mainGlobals "hinders" = some (some (.ref f_hinders)))
    (l_hinders : K.lookup f_hinders = some ⟨oc_hinders, od_hinders, .func (PySem.W.fnOf "hinders" "hinders" (defArgs s_hinders) (defBody s_hinders) (defScope s_hinders) .none kV_hinders dc_hinders pm_hinders an_hinders cd_hinders ct_hinders), sl_hinders⟩)
    (c_hinders : PySem.W.codeIn K cd_hinders "hinders" = true)
    (k_hinders : PySem.W.keepIn K (.ref f_hinders) = true)
    (a_moved : PySem.W.nsIn K mainGlobals "moved" = some (some (.ref f_moved)))
    (l_moved : K.lookup f_moved = some ⟨oc_moved, od_moved, .func (PySem.W.fnOf "moved" "moved" (defArgs s_moved) (defBody s_moved) (defScope s_moved) .none kV_moved dc_moved pm_moved an_moved cd_moved ct_moved), sl_moved⟩)
    (c_moved : PySem.W.codeIn K cd_moved "moved" = true)
    (k_moved : PySem.W.keepIn K (.ref f_moved) = true)
    (a_bars_against : PySem.W.nsIn K mainGlobals "bars_against" = some (some (.ref f_bars_against)))
    (l_bars_against : K.lookup f_bars_against = some ⟨oc_bars_against, od_bars_against, .func (PySem.W.fnOf "bars_against" "bars_against" (defArgs s_bars_against) (defBody s_bars_against) (defScope s_bars_against) .none kV_bars_against dc_bars_against pm_bars_against an_bars_against cd_bars_against ct_bars_against), sl_bars_against⟩)
    (c_bars_against : PySem.W.codeIn K cd_bars_against "bars_against" = true)
    (k_bars_against : PySem.W.keepIn K (.ref f_bars_against) = true)
    (a_goes : PySem.W.nsIn K mainGlobals "goes" = some (some (.ref f_goes)))
    (l_goes : K.lookup f_goes = some ⟨oc_goes, od_goes, .func (PySem.W.fnOf "goes" "goes" (defArgs s_goes) (defBody s_goes) (defScope s_goes) .none kV_goes dc_goes pm_goes an_goes cd_goes ct_goes), sl_goes⟩)
    (c_goes : PySem.W.codeIn K cd_goes "goes" = true)
    (k_goes : PySem.W.keepIn K (.ref f_goes) = true)
    (a_free_drawers : PySem.W.nsIn K mainGlobals "free_drawers" = some (some (.ref f_free_drawers)))
    (l_free_drawers : K.lookup f_free_drawers = some ⟨oc_free_drawers, od_free_drawers, .func (PySem.W.fnOf "free_drawers" "free_drawers" (defArgs s_free_drawers) (defBody s_free_drawers) (defScope s_free_drawers) .none kV_free_drawers dc_free_drawers pm_free_drawers an_free_drawers cd_free_drawers ct_free_drawers), sl_free_drawers⟩)
    (c_free_drawers : PySem.W.codeIn K cd_free_drawers "free_drawers" = true)
    (k_free_drawers : PySem.W.keepIn K (.ref f_free_drawers) = true)
    (a__law_hold : PySem.W.nsIn K mainGlobals "_law_hold" = some (some (.ref f__law_hold)))
    (l__law_hold : K.lookup f__law_hold = some ⟨oc__law_hold, od__law_hold, .func (PySem.W.fnOf "_law_hold" "_law_hold" (defArgs s__law_hold) (defBody s__law_hold) (defScope s__law_hold) .none kV__law_hold dc__law_hold pm__law_hold an__law_hold cd__law_hold ct__law_hold), sl__law_hold⟩)
    (c__law_hold : PySem.W.codeIn K cd__law_hold "_law_hold" = true)
    (k__law_hold : PySem.W.keepIn K (.ref f__law_hold) = true)
    (a__law_free : PySem.W.nsIn K mainGlobals "_law_free" = some (some (.ref f__law_free)))
    (l__law_free : K.lookup f__law_free = some ⟨oc__law_free, od__law_free, .func (PySem.W.fnOf "_law_free" "_law_free" (defArgs s__law_free) (defBody s__law_free) (defScope s__law_free) .none kV__law_free dc__law_free pm__law_free an__law_free cd__law_free ct__law_free), sl__law_free⟩)
    (c__law_free : PySem.W.codeIn K cd__law_free "_law_free" = true)
    (k__law_free : PySem.W.keepIn K (.ref f__law_free) = true)
    (a__law_moved : PySem.W.nsIn K mainGlobals "_law_moved" = some (some (.ref f__law_moved)))
    (l__law_moved : K.lookup f__law_moved = some ⟨oc__law_moved, od__law_moved, .func (PySem.W.fnOf "_law_moved" "_law_moved" (defArgs s__law_moved) (defBody s__law_moved) (defScope s__law_moved) .none kV__law_moved dc__law_moved pm__law_moved an__law_moved cd__law_moved ct__law_moved), sl__law_moved⟩)
    (c__law_moved : PySem.W.codeIn K cd__law_moved "_law_moved" = true)
    (k__law_moved : PySem.W.keepIn K (.ref f__law_moved) = true)
    (a_check_cabinet : PySem.W.nsIn K mainGlobals "check_cabinet" = some (some (.ref f_check_cabinet)))
    (l_check_cabinet : K.lookup f_check_cabinet = some ⟨oc_check_cabinet, od_check_cabinet, .func (PySem.W.fnOf "check_cabinet" "check_cabinet" (defArgs s_check_cabinet) (defBody s_check_cabinet) (defScope s_check_cabinet) .none kV_check_cabinet dc_check_cabinet pm_check_cabinet an_check_cabinet cd_check_cabinet ct_check_cabinet), sl_check_cabinet⟩)
    (c_check_cabinet : PySem.W.codeIn K cd_check_cabinet "check_cabinet" = true)
    (k_check_cabinet : PySem.W.keepIn K (.ref f_check_cabinet) = true)
    (a_check_drawer : PySem.W.nsIn K mainGlobals "check_drawer" = some (some (.ref f_check_drawer)))
    (l_check_drawer : K.lookup f_check_drawer = some ⟨oc_check_drawer, od_check_drawer, .func (PySem.W.fnOf "check_drawer" "check_drawer" (defArgs s_check_drawer) (defBody s_check_drawer) (defScope s_check_drawer) .none kV_check_drawer dc_check_drawer pm_check_drawer an_check_drawer cd_check_drawer ct_check_drawer), sl_check_drawer⟩)
    (c_check_drawer : PySem.W.codeIn K cd_check_drawer "check_drawer" = true)
    (k_check_drawer : PySem.W.keepIn K (.ref f_check_drawer) = true)
    (a_first_standing : PySem.W.nsIn K mainGlobals "first_standing" = some (some (.ref f_first_standing)))
    (l_first_standing : K.lookup f_first_standing = some ⟨oc_first_standing, od_first_standing, .func (PySem.W.fnOf "first_standing" "first_standing" (defArgs s_first_standing) (defBody s_first_standing) (defScope s_first_standing) .none kV_first_standing dc_first_standing pm_first_standing an_first_standing cd_first_standing ct_first_standing), sl_first_standing⟩)
    (c_first_standing : PySem.W.codeIn K cd_first_standing "first_standing" = true)
    (k_first_standing : PySem.W.keepIn K (.ref f_first_standing) = true)
    (a__law_is_desk : PySem.W.nsIn K mainGlobals "_law_is_desk" = some (some (.ref f__law_is_desk)))
    (l__law_is_desk : K.lookup f__law_is_desk = some ⟨oc__law_is_desk, od__law_is_desk, .func (PySem.W.fnOf "_law_is_desk" "_law_is_desk" (defArgs s__law_is_desk) (defBody s__law_is_desk) (defScope s__law_is_desk) .none kV__law_is_desk dc__law_is_desk pm__law_is_desk an__law_is_desk cd__law_is_desk ct__law_is_desk), sl__law_is_desk⟩)
    (c__law_is_desk : PySem.W.codeIn K cd__law_is_desk "_law_is_desk" = true)
    (k__law_is_desk : PySem.W.keepIn K (.ref f__law_is_desk) = true)
    (a_law : PySem.W.nsIn K mainGlobals "law" = some (some (.ref f_law)))
    (l_law : K.lookup f_law = some ⟨oc_law, od_law, .func (PySem.W.fnOf "law" "law" (defArgs s_law) (defBody s_law) (defScope s_law) .none kV_law dc_law pm_law an_law cd_law ct_law), sl_law⟩)
    (c_law : PySem.W.codeIn K cd_law "law" = true)
    (k_law : PySem.W.keepIn K (.ref f_law) = true)
    (aC : PySem.W.nsIn K mainGlobals "Cabinet" = some (some (.ref C)))
    (pg : PySem.W.plainGet K C Str.empty = true)
    (hd : PySem.W.hasDictIn K C = true)
    (po : PySem.W.plainOver K C = true)
    (sa : PySem.W.findIn K (.ref C) "__setattr__" = some (some (.builtin "object.__setattr__")))
    (mk : PySem.W.makesIn K C = true)
    (kc : PySem.W.keepIn K (.ref C) = true)
    (nD : PySem.W.findIn K (.ref C) "_drawers" = some none)
    (nB : PySem.W.findIn K (.ref C) "_bars" = some none)
    (a_Cabinet___init__ : PySem.W.findIn K (.ref C) "__init__" = some (some (.ref f_Cabinet___init__)))
    (l_Cabinet___init__ : K.lookup f_Cabinet___init__ = some ⟨oc_Cabinet___init__, od_Cabinet___init__, .func (PySem.W.fnOf "__init__" "Cabinet.__init__" (defArgs sInit) (defBody sInit) (defScope sInit) .none kV_Cabinet___init__ dc_Cabinet___init__ pm_Cabinet___init__ an_Cabinet___init__ cd_Cabinet___init__ ct_Cabinet___init__), sl_Cabinet___init__⟩)
    (c_Cabinet___init__ : PySem.W.codeIn K cd_Cabinet___init__ "Cabinet.__init__" = true)
    (k_Cabinet___init__ : PySem.W.keepIn K (.ref f_Cabinet___init__) = true)
    (i_init : PySem.W.isFn K (.ref f_Cabinet___init__) = true)
    (a_Cabinet___eq__ : PySem.W.findIn K (.ref C) "__eq__" = some (some (.ref f_Cabinet___eq__)))
    (l_Cabinet___eq__ : K.lookup f_Cabinet___eq__ = some ⟨oc_Cabinet___eq__, od_Cabinet___eq__, .func (PySem.W.fnOf "__eq__" "Cabinet.__eq__" (defArgs sEq) (defBody sEq) (defScope sEq) .none kV_Cabinet___eq__ dc_Cabinet___eq__ pm_Cabinet___eq__ an_Cabinet___eq__ cd_Cabinet___eq__ ct_Cabinet___eq__), sl_Cabinet___eq__⟩)
    (c_Cabinet___eq__ : PySem.W.codeIn K cd_Cabinet___eq__ "Cabinet.__eq__" = true)
    (k_Cabinet___eq__ : PySem.W.keepIn K (.ref f_Cabinet___eq__) = true)
    (i_eq : PySem.W.isFn K (.ref f_Cabinet___eq__) = true)
    (pa_drawers : PySem.W.findIn K (.ref C) "drawers" = some (some (.ref p_drawers)))
    (pg_drawers : PySem.W.specialIn K (.ref p_drawers) "__get__" = some (some (.builtin "property.__get__")))
    (pt_drawers : PySem.W.takesIn K (.ref p_drawers) = some true)
    (pr_drawers : PySem.W.recIn K p_drawers "property" = some (.ref f_Cabinet_drawers :: rest_drawers))
    (l_Cabinet_drawers : K.lookup f_Cabinet_drawers = some ⟨oc_Cabinet_drawers, od_Cabinet_drawers, .func (PySem.W.fnOf "drawers" "Cabinet.drawers" (defArgs sDrawers) (defBody sDrawers) (defScope sDrawers) .none kV_Cabinet_drawers dc_Cabinet_drawers pm_Cabinet_drawers an_Cabinet_drawers cd_Cabinet_drawers ct_Cabinet_drawers), sl_Cabinet_drawers⟩)
    (c_Cabinet_drawers : PySem.W.codeIn K cd_Cabinet_drawers "Cabinet.drawers" = true)
    (k_Cabinet_drawers : PySem.W.keepIn K (.ref f_Cabinet_drawers) = true)
    (pa_bars : PySem.W.findIn K (.ref C) "bars" = some (some (.ref p_bars)))
    (pg_bars : PySem.W.specialIn K (.ref p_bars) "__get__" = some (some (.builtin "property.__get__")))
    (pt_bars : PySem.W.takesIn K (.ref p_bars) = some true)
    (pr_bars : PySem.W.recIn K p_bars "property" = some (.ref f_Cabinet_bars :: rest_bars))
    (l_Cabinet_bars : K.lookup f_Cabinet_bars = some ⟨oc_Cabinet_bars, od_Cabinet_bars, .func (PySem.W.fnOf "bars" "Cabinet.bars" (defArgs sBars) (defBody sBars) (defScope sBars) .none kV_Cabinet_bars dc_Cabinet_bars pm_Cabinet_bars an_Cabinet_bars cd_Cabinet_bars ct_Cabinet_bars), sl_Cabinet_bars⟩)
    (c_Cabinet_bars : PySem.W.codeIn K cd_Cabinet_bars "Cabinet.bars" = true)
    (k_Cabinet_bars : PySem.W.keepIn K (.ref f_Cabinet_bars) = true)
    (ci1 : PySem.W.findIn K (.ref C) "__class__" = some (some (.builtin "object.__class__")))
    (ci2 : PySem.W.specialIn K (.builtin "object.__class__") "__get__" = some (some (.builtin "getset_descriptor.__get__")))
    (ci3 : PySem.W.takesIn K (.builtin "object.__class__") = some true)
    (ci4 : PySem.W.mroIn K C (.type "object") = some true)
    (ci5 : PySem.W.kitOne K (.ref C) (.ref C) = some true)
    (l_Desk_cabinet : K.lookup f_Desk_cabinet = some ⟨oc_Desk_cabinet, od_Desk_cabinet, .func (PySem.W.fnOf "cabinet" "Desk.cabinet" (defArgs s_Desk_cabinet) (defBody s_Desk_cabinet) (defScope s_Desk_cabinet) .none kV_Desk_cabinet dc_Desk_cabinet pm_Desk_cabinet an_Desk_cabinet cd_Desk_cabinet ct_Desk_cabinet), sl_Desk_cabinet⟩)
    (c_Desk_cabinet : PySem.W.codeIn K cd_Desk_cabinet "Desk.cabinet" = true)
    (k_Desk_cabinet : PySem.W.keepIn K (.ref f_Desk_cabinet) = true)
    (l_Desk_standing : K.lookup f_Desk_standing = some ⟨oc_Desk_standing, od_Desk_standing, .func (PySem.W.fnOf "standing" "Desk.standing" (defArgs s_Desk_standing) (defBody s_Desk_standing) (defScope s_Desk_standing) .none kV_Desk_standing dc_Desk_standing pm_Desk_standing an_Desk_standing cd_Desk_standing ct_Desk_standing), sl_Desk_standing⟩)
    (c_Desk_standing : PySem.W.codeIn K cd_Desk_standing "Desk.standing" = true)
    (k_Desk_standing : PySem.W.keepIn K (.ref f_Desk_standing) = true)
    (l_Desk_pulls : K.lookup f_Desk_pulls = some ⟨oc_Desk_pulls, od_Desk_pulls, .func (PySem.W.fnOf "pulls" "Desk.pulls" (defArgs s_Desk_pulls) (defBody s_Desk_pulls) (defScope s_Desk_pulls) .none kV_Desk_pulls dc_Desk_pulls pm_Desk_pulls an_Desk_pulls cd_Desk_pulls ct_Desk_pulls), sl_Desk_pulls⟩)
    (c_Desk_pulls : PySem.W.codeIn K cd_Desk_pulls "Desk.pulls" = true)
    (k_Desk_pulls : PySem.W.keepIn K (.ref f_Desk_pulls) = true)
    (l_Desk___len__ : K.lookup f_Desk___len__ = some ⟨oc_Desk___len__, od_Desk___len__, .func (PySem.W.fnOf "__len__" "Desk.__len__" (defArgs s_Desk__len_) (defBody s_Desk__len_) (defScope s_Desk__len_) .none kV_Desk___len__ dc_Desk___len__ pm_Desk___len__ an_Desk___len__ cd_Desk___len__ ct_Desk___len__), sl_Desk___len__⟩)
    (c_Desk___len__ : PySem.W.codeIn K cd_Desk___len__ "Desk.__len__" = true)
    (k_Desk___len__ : PySem.W.keepIn K (.ref f_Desk___len__) = true)
    (l_Desk_free : K.lookup f_Desk_free = some ⟨oc_Desk_free, od_Desk_free, .func (PySem.W.fnOf "free" "Desk.free" (defArgs s_Desk_free) (defBody s_Desk_free) (defScope s_Desk_free) .none kV_Desk_free dc_Desk_free pm_Desk_free an_Desk_free cd_Desk_free ct_Desk_free), sl_Desk_free⟩)
    (c_Desk_free : PySem.W.codeIn K cd_Desk_free "Desk.free" = true)
    (k_Desk_free : PySem.W.keepIn K (.ref f_Desk_free) = true)
    (l_Desk___init__ : K.lookup f_Desk___init__ = some ⟨oc_Desk___init__, od_Desk___init__, .func (PySem.W.fnOf "__init__" "Desk.__init__" (defArgs s_Desk__init_) (defBody s_Desk__init_) (defScope s_Desk__init_) .none kV_Desk___init__ dc_Desk___init__ pm_Desk___init__ an_Desk___init__ cd_Desk___init__ ct_Desk___init__), sl_Desk___init__⟩)
    (c_Desk___init__ : PySem.W.codeIn K cd_Desk___init__ "Desk.__init__" = true)
    (k_Desk___init__ : PySem.W.keepIn K (.ref f_Desk___init__) = true)
    (l_Desk_copy : K.lookup f_Desk_copy = some ⟨oc_Desk_copy, od_Desk_copy, .func (PySem.W.fnOf "copy" "Desk.copy" (defArgs s_Desk_copy) (defBody s_Desk_copy) (defScope s_Desk_copy) .none kV_Desk_copy dc_Desk_copy pm_Desk_copy an_Desk_copy cd_Desk_copy ct_Desk_copy), sl_Desk_copy⟩)
    (c_Desk_copy : PySem.W.codeIn K cd_Desk_copy "Desk.copy" = true)
    (k_Desk_copy : PySem.W.keepIn K (.ref f_Desk_copy) = true)
    (l_Desk_undo : K.lookup f_Desk_undo = some ⟨oc_Desk_undo, od_Desk_undo, .func (PySem.W.fnOf "undo" "Desk.undo" (defArgs s_Desk_undo) (defBody s_Desk_undo) (defScope s_Desk_undo) .none kV_Desk_undo dc_Desk_undo pm_Desk_undo an_Desk_undo cd_Desk_undo ct_Desk_undo), sl_Desk_undo⟩)
    (c_Desk_undo : PySem.W.codeIn K cd_Desk_undo "Desk.undo" = true)
    (k_Desk_undo : PySem.W.keepIn K (.ref f_Desk_undo) = true)
    (l_Desk_pull : K.lookup f_Desk_pull = some ⟨oc_Desk_pull, od_Desk_pull, .func (PySem.W.fnOf "pull" "Desk.pull" (defArgs s_Desk_pull) (defBody s_Desk_pull) (defScope s_Desk_pull) .none kV_Desk_pull dc_Desk_pull pm_Desk_pull an_Desk_pull cd_Desk_pull ct_Desk_pull), sl_Desk_pull⟩)
    (c_Desk_pull : PySem.W.codeIn K cd_Desk_pull "Desk.pull" = true)
    (k_Desk_pull : PySem.W.keepIn K (.ref f_Desk_pull) = true)
    (z_isinstance : PySem.W.nsIn K mainGlobals "isinstance" = some none)
    (z_int : PySem.W.nsIn K mainGlobals "int" = some none)
    (z_bool : PySem.W.nsIn K mainGlobals "bool" = some none)
    (z_tuple : PySem.W.nsIn K mainGlobals "tuple" = some none)
    (z_len : PySem.W.nsIn K mainGlobals "len" = some none)
    (z_enumerate : PySem.W.nsIn K mainGlobals "enumerate" = some none)
    (z_range : PySem.W.nsIn K mainGlobals "range" = some none)
    (z_sorted : PySem.W.nsIn K mainGlobals "sorted" = some none)
    (z_any : PySem.W.nsIn K mainGlobals "any" = some none)
    (z_list : PySem.W.nsIn K mainGlobals "list" = some none)
    (aM : PySem.W.nsIn K mainGlobals "MOST_DRAWERS" = some (some (.int 7 tM)))
    (aW : PySem.W.nsIn K mainGlobals "WORDS" = some (some (.ref fW)))
    (lW : K.lookup fW = some ⟨.type "tuple", ddW, .seq #[.str "open" tW1, .str "shut" tW2] nW, slW⟩)
    (aS : PySem.W.nsIn K mainGlobals "SIGNS" = some (some (.ref fS)))
    (lS : K.lookup fS = some ⟨.type "dict", none, .dict esS nS, #[]⟩)
    (kS : PySem.W.KeysLit w.params esS.toList)
    (oS : PySem.W.nsIn K fS "open" = some (some (.str "o" tS1)))
    (sS : PySem.W.nsIn K fS "shut" = some (some (.str "s" tS2)))
    (pgDk : PySem.W.plainGet K CDk Str.empty = true)
    (hdDk : PySem.W.hasDictIn K CDk = true)
    (poDk : PySem.W.plainOver K CDk = true)
    (saDk : PySem.W.findIn K (.ref CDk) "__setattr__" = some (some (.builtin "object.__setattr__")))
    (mkDk : PySem.W.makesIn K CDk = true)
    (kcDk : PySem.W.keepIn K (.ref CDk) = true)
    (nCDk : PySem.W.findIn K (.ref CDk) "_cabinet" = some none)
    (nSDk : PySem.W.findIn K (.ref CDk) "_standing" = some none)
    (nPDk : PySem.W.findIn K (.ref CDk) "_pulls" = some none)
    (i_Deskinit : PySem.W.isFn K (.ref f_Desk___init__) = true)
    (i_Desk__len : PySem.W.isFn K (.ref f_Desk___len__) = true)
    (i_Deskpull : PySem.W.isFn K (.ref f_Desk_pull) = true)
    (i_Deskfree : PySem.W.isFn K (.ref f_Desk_free) = true)
    (i_Deskundo : PySem.W.isFn K (.ref f_Desk_undo) = true)
    (i_Deskcopy : PySem.W.isFn K (.ref f_Desk_copy) = true)
    (pgDk_cabinet : PySem.W.specialIn K (.ref pDk_cabinet) "__get__" = some (some (.builtin "property.__get__")))
    (ptDk_cabinet : PySem.W.takesIn K (.ref pDk_cabinet) = some true)
    (pgDk_standing : PySem.W.specialIn K (.ref pDk_standing) "__get__" = some (some (.builtin "property.__get__")))
    (ptDk_standing : PySem.W.takesIn K (.ref pDk_standing) = some true)
    (pgDk_pulls : PySem.W.specialIn K (.ref pDk_pulls) "__get__" = some (some (.builtin "property.__get__")))
    (ptDk_pulls : PySem.W.takesIn K (.ref pDk_pulls) = some true)
    : ∃ fd : FuncData, (∀ (s : Shared) (v : Value), BindsTo s fd ⟨[v], []⟩ [("_law_script", v)]) ∧ ∀ base : Heap, K.In base → base.Ns mainGlobals mg → FnOk l.prog w K mg base CX0 20 fa fd ["_law_script"] (spLaw23 K) := by
  have e := hfa.symm.trans (PySem.W.mg_of X G a_law)
  cases e
  have F_is_integer := fun_mk (st := sIsInt) l_is_integer c_is_integer k_is_integer
  have b_is_integer := F_is_integer.binds (ps := ["value"]) fun _ _ _ _ _ _ us hl => match us, hl with | [_], _ => rfl
  have g_is_integer := PySem.W.mg_of X G a_is_integer
  have F_is_drawer_count := fun_mk (st := sIsCount) l_is_drawer_count c_is_drawer_count k_is_drawer_count
  have b_is_drawer_count := F_is_drawer_count.binds (ps := ["value"]) fun _ _ _ _ _ _ us hl => match us, hl with | [_], _ => rfl
  have g_is_drawer_count := PySem.W.mg_of X G a_is_drawer_count
  have F_is_drawer := fun_mk (st := sIsDrawer) l_is_drawer c_is_drawer k_is_drawer
  have b_is_drawer := F_is_drawer.binds (ps := ["drawers", "value"]) fun _ _ _ _ _ _ us hl => match us, hl with | [_, _], _ => rfl
  have g_is_drawer := PySem.W.mg_of X G a_is_drawer
  have F_is_bar := fun_mk (st := sIsBar) l_is_bar c_is_bar k_is_bar
  have b_is_bar := F_is_bar.binds (ps := ["drawers", "value"]) fun _ _ _ _ _ _ us hl => match us, hl with | [_, _], _ => rfl
  have g_is_bar := PySem.W.mg_of X G a_is_bar
  have F_check_drawers := fun_mk (st := sCheckDrawers) l_check_drawers c_check_drawers k_check_drawers
  have b_check_drawers := F_check_drawers.binds (ps := ["drawers"]) fun _ _ _ _ _ _ us hl => match us, hl with | [_], _ => rfl
  have g_check_drawers := PySem.W.mg_of X G a_check_drawers
  have F_check_bars := fun_mk (st := sCheckBars) l_check_bars c_check_bars k_check_bars
  have b_check_bars := F_check_bars.binds (ps := ["drawers", "bars"]) fun _ _ _ _ _ _ us hl => match us, hl with | [_, _], _ => rfl
  have g_check_bars := PySem.W.mg_of X G a_check_bars
  have F__law_taken := fun_mk (st := sTaken) l__law_taken c__law_taken k__law_taken
  have b__law_taken := F__law_taken.binds (ps := ["_law_row", "_law_many"]) fun _ _ _ _ _ _ us hl => match us, hl with | [_, _], _ => rfl
  have g__law_taken := PySem.W.mg_of X G a__law_taken
  have F__law_parts := fun_mk (st := sParts) l__law_parts c__law_parts k__law_parts
  have b__law_parts := F__law_parts.binds (ps := ["_law_row", "_law_most"]) fun _ _ _ _ _ _ us hl => match us, hl with | [_, _], _ => rfl
  have g__law_parts := PySem.W.mg_of X G a__law_parts
  have F__law_made := fun_mk (st := sMade) l__law_made c__law_made k__law_made
  have b__law_made := F__law_made.binds (ps := ["_law_d"]) fun _ _ _ _ _ _ us hl => match us, hl with | [_], _ => rfl
  have g__law_made := PySem.W.mg_of X G a__law_made
  have F_hinders := fun_mk (st := s_hinders) l_hinders c_hinders k_hinders
  have b_hinders := F_hinders.binds (ps := ["bar", "standing", "drawer"]) fun _ _ _ _ _ _ us hl => match us, hl with | [_, _, _], _ => rfl
  have g_hinders := PySem.W.mg_of X G a_hinders
  have F_moved := fun_mk (st := s_moved) l_moved c_moved k_moved
  have b_moved := F_moved.binds (ps := ["standing", "drawer"]) fun _ _ _ _ _ _ us hl => match us, hl with | [_, _], _ => rfl
  have g_moved := PySem.W.mg_of X G a_moved
  have F_bars_against := fun_mk (st := s_bars_against) l_bars_against c_bars_against k_bars_against
  have b_bars_against := F_bars_against.binds (ps := ["cabinet", "standing", "drawer"]) fun _ _ _ _ _ _ us hl => match us, hl with | [_, _, _], _ => rfl
  have g_bars_against := PySem.W.mg_of X G a_bars_against
  have F_goes := fun_mk (st := s_goes) l_goes c_goes k_goes
  have b_goes := F_goes.binds (ps := ["cabinet", "standing", "drawer"]) fun _ _ _ _ _ _ us hl => match us, hl with | [_, _, _], _ => rfl
  have g_goes := PySem.W.mg_of X G a_goes
  have F_free_drawers := fun_mk (st := s_free_drawers) l_free_drawers c_free_drawers k_free_drawers
  have b_free_drawers := F_free_drawers.binds (ps := ["cabinet", "standing"]) fun _ _ _ _ _ _ us hl => match us, hl with | [_, _], _ => rfl
  have g_free_drawers := PySem.W.mg_of X G a_free_drawers
  have F__law_hold := fun_mk (st := s__law_hold) l__law_hold c__law_hold k__law_hold
  have b__law_hold := F__law_hold.binds (ps := ["_law_bar", "_law_standing", "_law_drawer"]) fun _ _ _ _ _ _ us hl => match us, hl with | [_, _, _], _ => rfl
  have g__law_hold := PySem.W.mg_of X G a__law_hold
  have F__law_free := fun_mk (st := s__law_free) l__law_free c__law_free k__law_free
  have b__law_free := F__law_free.binds (ps := ["_law_d", "_law_standing"]) fun _ _ _ _ _ _ us hl => match us, hl with | [_, _], _ => rfl
  have g__law_free := PySem.W.mg_of X G a__law_free
  have F__law_moved := fun_mk (st := s__law_moved) l__law_moved c__law_moved k__law_moved
  have b__law_moved := F__law_moved.binds (ps := ["_law_standing", "_law_drawer"]) fun _ _ _ _ _ _ us hl => match us, hl with | [_, _], _ => rfl
  have g__law_moved := PySem.W.mg_of X G a__law_moved
  have F_check_cabinet := fun_mk (st := s_check_cabinet) l_check_cabinet c_check_cabinet k_check_cabinet
  have b_check_cabinet := F_check_cabinet.binds (ps := ["cabinet"]) fun _ _ _ _ _ _ us hl => match us, hl with | [_], _ => rfl
  have g_check_cabinet := PySem.W.mg_of X G a_check_cabinet
  have F_check_drawer := fun_mk (st := s_check_drawer) l_check_drawer c_check_drawer k_check_drawer
  have b_check_drawer := F_check_drawer.binds (ps := ["cabinet", "drawer"]) fun _ _ _ _ _ _ us hl => match us, hl with | [_, _], _ => rfl
  have g_check_drawer := PySem.W.mg_of X G a_check_drawer
  have F_first_standing := fun_mk (st := s_first_standing) l_first_standing c_first_standing k_first_standing
  have b_first_standing := F_first_standing.binds (ps := ["drawers"]) fun _ _ _ _ _ _ us hl => match us, hl with | [_], _ => rfl
  have g_first_standing := PySem.W.mg_of X G a_first_standing
  have F__law_is_desk := fun_mk (st := s__law_is_desk) l__law_is_desk c__law_is_desk k__law_is_desk
  have b__law_is_desk := F__law_is_desk.binds (ps := ["_law_desk", "_law_d", "_law_pulls"]) fun _ _ _ _ _ _ us hl => match us, hl with | [_, _, _], _ => rfl
  have g__law_is_desk := PySem.W.mg_of X G a__law_is_desk
  have F_law := fun_mk (st := s_law) l_law c_law k_law
  have b_law := F_law.binds (ps := ["_law_script"]) fun _ _ _ _ _ _ us hl => match us, hl with | [_], _ => rfl
  have g_law := PySem.W.mg_of X G a_law
  have F_Cabinet___init__ := fun_mk (st := sInit) l_Cabinet___init__ c_Cabinet___init__ k_Cabinet___init__
  have b_Cabinet___init__ := F_Cabinet___init__.binds (ps := ["self", "drawers", "bars"]) fun _ _ _ _ _ _ us hl => match us, hl with | [_, _, _], _ => rfl
  have F_Cabinet___eq__ := fun_mk (st := sEq) l_Cabinet___eq__ c_Cabinet___eq__ k_Cabinet___eq__
  have b_Cabinet___eq__ := F_Cabinet___eq__.binds (ps := ["self", "other"]) fun _ _ _ _ _ _ us hl => match us, hl with | [_, _], _ => rfl
  have F_Cabinet_drawers := fun_mk (st := sDrawers) l_Cabinet_drawers c_Cabinet_drawers k_Cabinet_drawers
  have b_Cabinet_drawers := F_Cabinet_drawers.binds (ps := ["self"]) fun _ _ _ _ _ _ us hl => match us, hl with | [_], _ => rfl
  have F_Cabinet_bars := fun_mk (st := sBars) l_Cabinet_bars c_Cabinet_bars k_Cabinet_bars
  have b_Cabinet_bars := F_Cabinet_bars.binds (ps := ["self"]) fun _ _ _ _ _ _ us hl => match us, hl with | [_], _ => rfl
  have TC : CabT K mg C := ⟨⟨pg, hd, po, sa⟩, nD, nB, PySem.W.mg_of X G aC⟩
  have MC : Mk K C f_Cabinet___init__ := ⟨mk, a_Cabinet___init__, i_init, kc⟩
  have IC : CabI K mg C := ⟨⟨pg, hd, po, sa⟩, PySem.W.mg_of X G aC, ci1, ci2, ci3, ci4, ci5⟩
  have F_Desk_cabinet := fun_mk (st := s_Desk_cabinet) l_Desk_cabinet c_Desk_cabinet k_Desk_cabinet
  have b_Desk_cabinet := F_Desk_cabinet.binds (ps := ["self"]) fun _ _ _ _ _ _ us hl => match us, hl with | [_], _ => rfl
  have F_Desk_standing := fun_mk (st := s_Desk_standing) l_Desk_standing c_Desk_standing k_Desk_standing
  have b_Desk_standing := F_Desk_standing.binds (ps := ["self"]) fun _ _ _ _ _ _ us hl => match us, hl with | [_], _ => rfl
  have F_Desk_pulls := fun_mk (st := s_Desk_pulls) l_Desk_pulls c_Desk_pulls k_Desk_pulls
  have b_Desk_pulls := F_Desk_pulls.binds (ps := ["self"]) fun _ _ _ _ _ _ us hl => match us, hl with | [_], _ => rfl
  have F_Desk___len__ := fun_mk (st := s_Desk__len_) l_Desk___len__ c_Desk___len__ k_Desk___len__
  have b_Desk___len__ := F_Desk___len__.binds (ps := ["self"]) fun _ _ _ _ _ _ us hl => match us, hl with | [_], _ => rfl
  have F_Desk_free := fun_mk (st := s_Desk_free) l_Desk_free c_Desk_free k_Desk_free
  have b_Desk_free := F_Desk_free.binds (ps := ["self"]) fun _ _ _ _ _ _ us hl => match us, hl with | [_], _ => rfl
  have F_Desk___init__ := fun_mk (st := s_Desk__init_) l_Desk___init__ c_Desk___init__ k_Desk___init__
  have b_Desk___init__ := F_Desk___init__.binds (ps := ["self", "cabinet"]) fun _ _ _ _ _ _ us hl => match us, hl with | [_, _], _ => rfl
  have F_Desk_copy := fun_mk (st := s_Desk_copy) l_Desk_copy c_Desk_copy k_Desk_copy
  have b_Desk_copy := F_Desk_copy.binds (ps := ["self"]) fun _ _ _ _ _ _ us hl => match us, hl with | [_], _ => rfl
  have F_Desk_undo := fun_mk (st := s_Desk_undo) l_Desk_undo c_Desk_undo k_Desk_undo
  have b_Desk_undo := F_Desk_undo.binds (ps := ["self"]) fun _ _ _ _ _ _ us hl => match us, hl with | [_], _ => rfl
  have F_Desk_pull := fun_mk (st := s_Desk_pull) l_Desk_pull c_Desk_pull k_Desk_pull
  have b_Desk_pull := F_Desk_pull.binds (ps := ["self", "drawer"]) fun _ _ _ _ _ _ us hl => match us, hl with | [_, _], _ => rfl
  have TB : Bt mg := ⟨PySem.W.mg_none_of X G z_isinstance, PySem.W.mg_none_of X G z_int, PySem.W.mg_none_of X G z_bool, PySem.W.mg_none_of X G z_tuple, PySem.W.mg_none_of X G z_len, PySem.W.mg_none_of X G z_enumerate, PySem.W.mg_none_of X G z_range, PySem.W.mg_none_of X G z_sorted⟩
  have n_isinstance := PySem.W.mg_none_of X G z_isinstance
  have n_int := PySem.W.mg_none_of X G z_int
  have n_bool := PySem.W.mg_none_of X G z_bool
  have n_tuple := PySem.W.mg_none_of X G z_tuple
  have n_len := PySem.W.mg_none_of X G z_len
  have n_enumerate := PySem.W.mg_none_of X G z_enumerate
  have n_range := PySem.W.mg_none_of X G z_range
  have n_sorted := PySem.W.mg_none_of X G z_sorted
  have n_any := PySem.W.mg_none_of X G z_any
  have n_list := PySem.W.mg_none_of X G z_list
  have gM := PySem.W.mg_of X G aM
  have gW := PySem.W.mg_of X G aW
  have hW : ∀ H, SqT K H fW [.str "open", .str "shut"] := fun H => .inr ⟨_, _, _, lW, rfl, rfl, by show 2 ≤ sizeLine; decide, .cons ⟨_, rfl⟩ (.cons ⟨_, rfl⟩ .nil)⟩
  have gS := PySem.W.mg_of X G aS
  have TS : SgT K w mg fS := ⟨gS, ⟨esS, nS, _, lS, kS, oS, _, rfl⟩, ⟨esS, nS, _, lS, kS, sS, _, rfl⟩⟩
  have DT : DeskT K mg CDk := ⟨⟨pgDk, hdDk, poDk, saDk⟩, nCDk, nSDk, nPDk, PySem.W.mg_of X G aDk⟩
  have MD : Mk K CDk f_Desk___init__ := ⟨mkDk, a_Desk___init__, i_Deskinit, kcDk⟩
  have UDpull : Meth K CDk "pull" f_Desk_pull := ⟨a_Desk_pull, i_Deskpull, k_Desk_pull⟩
  have UDfree : Meth K CDk "free" f_Desk_free := ⟨a_Desk_free, i_Deskfree, k_Desk_free⟩
  have UDundo : Meth K CDk "undo" f_Desk_undo := ⟨a_Desk_undo, i_Deskundo, k_Desk_undo⟩
  have UDcopy : Meth K CDk "copy" f_Desk_copy := ⟨a_Desk_copy, i_Deskcopy, k_Desk_copy⟩
  refine ⟨PySem.W.fnOf "law" "law" (defArgs s_law) (defBody s_law) (defScope s_law) .none kV_law dc_law pm_law an_law cd_law ct_law, fun s v => .of_eq rfl, fun base hKX hGX => ?_⟩
  have OD := ok_getD (P := l.prog) (w := w) (base := base) F_Cabinet_drawers TC
  have OB := ok_getB (P := l.prog) (w := w) (base := base) F_Cabinet_bars TC
  have CP : CabP l.prog w K mg base C := ⟨TC.cl, ⟨_, _, _, ⟨pa_drawers, pg_drawers, pt_drawers, ⟨_, pr_drawers⟩⟩, OD, b_Cabinet_drawers⟩, ⟨_, _, _, ⟨pa_bars, pg_bars, pt_bars, ⟨_, pr_bars⟩⟩, OB, b_Cabinet_bars⟩⟩
  have O__law_taken := ok_taken (P := l.prog) (w := w) (base := base) F__law_taken TB
  have O__law_parts := ok_parts F__law_parts TB O__law_taken g__law_taken k__law_taken b__law_taken
  have O_is_integer := ok_isInt (P := l.prog) (w := w) (base := base) F_is_integer TB
  have O_is_drawer_count := ok_isCount F_is_drawer_count TB O_is_integer g_is_integer k_is_integer b_is_integer ⟨_, gM⟩
  have O_check_drawers := ok_checkDrawers F_check_drawers O_is_drawer_count g_is_drawer_count k_is_drawer_count b_is_drawer_count
  have O_is_drawer := ok_isDrawer F_is_drawer TB O_is_integer g_is_integer k_is_integer b_is_integer
  have O_is_bar := ok_isBar F_is_bar TB O_is_drawer g_is_drawer k_is_drawer b_is_drawer ⟨fW, gW, hW⟩
  have O_check_bars := ok_checkBars F_check_bars TB O_is_bar g_is_bar k_is_bar b_is_bar
  have O_Cabinet___init__ := ok_init F_Cabinet___init__ TC O_check_drawers g_check_drawers k_check_drawers b_check_drawers O_check_bars g_check_bars k_check_bars b_check_bars
  have O__law_made := ok_made F__law_made TC MC O_Cabinet___init__ b_Cabinet___init__
  have O__law_hold := ok_lawHold (P := l.prog) (w := w) (mg := mg) (base := base) F__law_hold
  have O__law_free := ok_lawFree F__law_free TB O__law_hold g__law_hold k__law_hold b__law_hold n_any
  have O__law_moved := ok_lawMoved (P := l.prog) (w := w) (base := base) F__law_moved TB
  have O_Desk_cabinet := ok_dkCab (P := l.prog) (w := w) (base := base) F_Desk_cabinet DT
  have O_Desk_standing := ok_dkStd (P := l.prog) (w := w) (base := base) F_Desk_standing DT
  have O_Desk_pulls := ok_dkPulls (P := l.prog) (w := w) (base := base) F_Desk_pulls TB DT
  have O_Desk___len__ := ok_dkLen (P := l.prog) (w := w) (base := base) F_Desk___len__ TB DT
  have O_x_DP := (⟨DT.cl, ⟨_, _, _, ⟨paDk_cabinet, pgDk_cabinet, ptDk_cabinet, ⟨_, prDk_cabinet⟩⟩, O_Desk_cabinet, b_Desk_cabinet⟩, ⟨_, _, _, ⟨paDk_standing, pgDk_standing, ptDk_standing, ⟨_, prDk_standing⟩⟩, O_Desk_standing, b_Desk_standing⟩, ⟨_, _, _, ⟨paDk_pulls, pgDk_pulls, ptDk_pulls, ⟨_, prDk_pulls⟩⟩, O_Desk_pulls, b_Desk_pulls⟩, ⟨_, _, a_Desk___len__, i_Desk__len, O_Desk___len__, b_Desk___len__⟩⟩ : DeskP l.prog w K mg base CDk)
  have O_hinders := ok_hinders (P := l.prog) (base := base) F_hinders TS
  have O_bars_against := ok_against F_bars_against CP O_hinders g_hinders k_hinders b_hinders
  have O_goes := ok_goes F_goes O_bars_against g_bars_against k_bars_against b_bars_against
  have O_free_drawers := ok_freeDrawers F_free_drawers TB CP O_goes g_goes k_goes b_goes
  have O_Desk_free := ok_dkFree F_Desk_free DT O_free_drawers g_free_drawers k_free_drawers b_free_drawers
  have O_Cabinet___eq__ := ok_eqC (P := l.prog) (w := w) (base := base) F_Cabinet___eq__ TB TC IC
  have O__law_is_desk := ok_isDesk F__law_is_desk TB IC O_x_DP O__law_free g__law_free k__law_free b__law_free O__law_moved g__law_moved k__law_moved b__law_moved O__law_made g__law_made k__law_made b__law_made UDfree O_Desk_free b_Desk_free O_Cabinet___eq__ a_Cabinet___eq__ i_eq b_Cabinet___eq__
  have O_check_cabinet := ok_ckCab (P := l.prog) (w := w) (base := base) F_check_cabinet TB IC
  have O_first_standing := ok_first (P := l.prog) (base := base) F_first_standing TS
  have O_Desk___init__ := ok_dkInit F_Desk___init__ DT CP O_check_cabinet g_check_cabinet k_check_cabinet b_check_cabinet O_first_standing g_first_standing k_first_standing b_first_standing
  have O_Desk_copy := ok_dkCopy F_Desk_copy TB n_list DT MD O_Desk___init__ b_Desk___init__
  have O_moved := ok_moved (P := l.prog) (base := base) F_moved TS
  have O_Desk_undo := ok_dkUndo F_Desk_undo (C := C) DT O_moved g_moved k_moved b_moved
  have O_check_drawer := ok_ckDrawer F_check_drawer CP O_is_drawer g_is_drawer k_is_drawer b_is_drawer
  have O_Desk_pull := ok_dkPull F_Desk_pull DT O_check_drawer g_check_drawer k_check_drawer b_check_drawer O_goes g_goes k_goes b_goes O_moved g_moved k_moved b_moved
  exact ok_law F_law TB DT O__law_taken g__law_taken k__law_taken b__law_taken O__law_parts g__law_parts k__law_parts b__law_parts O__law_made g__law_made k__law_made b__law_made MD O_Desk___init__ b_Desk___init__ UDcopy O_Desk_copy b_Desk_copy UDundo O_Desk_undo b_Desk_undo UDfree O_Desk_free b_Desk_free UDpull O_Desk_pull b_Desk_pull O__law_is_desk g__law_is_desk k__law_is_desk b__law_is_desk
theorem walk {l : PySem.W.OpenLaw} {q : Program} {loose : List Str} {XP : (Str → Option Value) → Heap → Prop} {YP : World → Heap → Prop} {d : DefRec} {K : Params → PySem.W.Frag} (hn : l.most = some 63) (hdf : d.params.defaults = [])
    (hY : ∀ (w : World) (h : Heap), YP w h → (K w.params).In h)
    (F : ∀ (w : World) (mg : Str → Option Value) (fa : Addr) (h : Heap), (K w.params).In h → h.Ns mainGlobals mg → mg d.name = some (.ref fa) →
      ∃ fd : FuncData, (∀ (s : Shared) (u : Value), BindsTo s fd ⟨[u], []⟩ [("_law_script", u)]) ∧ ∀ base : Heap, (K w.params).In base → base.Ns mainGlobals mg → FnOk l.prog w (K w.params) mg base CX0 20 fa fd ["_law_script"] (spLaw23 (K w.params))) :
    PySem.W.WalkO q loose XP YP l.row.toRowW d [] (fun f vs => PySem.call f vs) :=
  L2.walk_of (n := 63) (k := 20) (x := "_law_script") (CX := fun _ => CX0) (sp := fun w => spLaw23 (K w.params)) hn (by decide) hdf ⟨rfl, by decide, by decide⟩ hY F (fun _ _ a ns hl _ hS => ⟨a, ns, rfl, hS, hl, fun _ => rfl⟩) fun _ _ _ _ _ z => z
end DL


set_option Elab.async false
open PySem PySem.W PyProof.Rows in
set_option maxRecDepth 100000 in
set_option maxHeartbeats 0 in
theorem PySem.Challenge.cw_drawerlocks_k23_whole_desks_holds : PySem.Challenge.rw_drawerlocks_k23_whole_desks.Holds := by
  w_on; o_law; k_head; (case hw => w_witness2)
  k_fill
  refine DL.walk (l := PySem.Challenge.rw_drawerlocks_k23_whole_desks) rfl rfl (fun w h Y => PySem.W.kIn_of Y) ?F
  case F =>
    intro w mg fa h KX G hmg
    refine' DL.all_mk KX G hmg ?aDk ?a_Desk___init__ ?a_Desk___len__ ?a_Desk_pull ?a_Desk_free ?a_Desk_undo ?a_Desk_copy ?paDk_cabinet ?prDk_cabinet ?paDk_standing ?prDk_standing ?paDk_pulls ?prDk_pulls ?a_is_integer ?l_is_integer ?c_is_integer ?k_is_integer ?a_is_drawer_count ?l_is_drawer_count ?c_is_drawer_count ?k_is_drawer_count ?a_is_drawer ?l_is_drawer ?c_is_drawer ?k_is_drawer ?a_is_bar ?l_is_bar ?c_is_bar ?k_is_bar ?a_check_drawers ?l_check_drawers ?c_check_drawers ?k_check_drawers ?a_check_bars ?l_check_bars ?c_check_bars ?k_check_bars ?a__law_taken ?l__law_taken ?c__law_taken ?k__law_taken ?a__law_parts ?l__law_parts ?c__law_parts ?k__law_parts ?a__law_made ?l__law_made ?c__law_made ?k__law_made ?a_hinders ?l_hinders ?c_hinders ?k_hinders ?a_moved ?l_moved ?c_moved ?k_moved ?a_bars_against ?l_bars_against ?c_bars_against ?k_bars_against ?a_goes ?l_goes ?c_goes ?k_goes ?a_free_drawers ?l_free_drawers ?c_free_drawers ?k_free_drawers ?a__law_hold ?l__law_hold ?c__law_hold ?k__law_hold ?a__law_free ?l__law_free ?c__law_free ?k__law_free ?a__law_moved ?l__law_moved ?c__law_moved ?k__law_moved ?a_check_cabinet ?l_check_cabinet ?c_check_cabinet ?k_check_cabinet ?a_check_drawer ?l_check_drawer ?c_check_drawer ?k_check_drawer ?a_first_standing ?l_first_standing ?c_first_standing ?k_first_standing ?a__law_is_desk ?l__law_is_desk ?c__law_is_desk ?k__law_is_desk ?a_law ?l_law ?c_law ?k_law ?aC ?pg ?hd ?po ?sa ?mk ?kc ?nD ?nB ?a_Cabinet___init__ ?l_Cabinet___init__ ?c_Cabinet___init__ ?k_Cabinet___init__ ?i_init ?a_Cabinet___eq__ ?l_Cabinet___eq__ ?c_Cabinet___eq__ ?k_Cabinet___eq__ ?i_eq ?pa_drawers ?pg_drawers ?pt_drawers ?pr_drawers ?l_Cabinet_drawers ?c_Cabinet_drawers ?k_Cabinet_drawers ?pa_bars ?pg_bars ?pt_bars ?pr_bars ?l_Cabinet_bars ?c_Cabinet_bars ?k_Cabinet_bars ?ci1 ?ci2 ?ci3 ?ci4 ?ci5 ?l_Desk_cabinet ?c_Desk_cabinet ?k_Desk_cabinet ?l_Desk_standing ?c_Desk_standing ?k_Desk_standing ?l_Desk_pulls ?c_Desk_pulls ?k_Desk_pulls ?l_Desk___len__ ?c_Desk___len__ ?k_Desk___len__ ?l_Desk_free ?c_Desk_free ?k_Desk_free ?l_Desk___init__ ?c_Desk___init__ ?k_Desk___init__ ?l_Desk_copy ?c_Desk_copy ?k_Desk_copy ?l_Desk_undo ?c_Desk_undo ?k_Desk_undo ?l_Desk_pull ?c_Desk_pull ?k_Desk_pull ?z_isinstance ?z_int ?z_bool ?z_tuple ?z_len ?z_enumerate ?z_range ?z_sorted ?z_any ?z_list ?aM ?aW ?lW ?aS ?lS ?kS ?oS ?sS ?pgDk ?hdDk ?poDk ?saDk ?mkDk ?kcDk ?nCDk ?nSDk ?nPDk ?i_Deskinit ?i_Desk__len ?i_Deskpull ?i_Deskfree ?i_Deskundo ?i_Deskcopy ?pgDk_cabinet ?ptDk_cabinet ?pgDk_standing ?ptDk_standing ?pgDk_pulls ?ptDk_pulls
    (case aDk => k_is)
    (case a_Desk___init__ => k_is)
    (case a_Desk___len__ => k_is)
    (case a_Desk_pull => k_is)
    (case a_Desk_free => k_is)
    (case a_Desk_undo => k_is)
    (case a_Desk_copy => k_is)
    (case paDk_cabinet => k_is)
    (case prDk_cabinet => k_is)
    (case paDk_standing => k_is)
    (case prDk_standing => k_is)
    (case paDk_pulls => k_is)
    (case prDk_pulls => k_is)
    (case a_is_integer => k_is)
    (case l_is_integer => k_is)
    (case c_is_integer => k_is)
    (case k_is_integer => k_is)
    (case a_is_drawer_count => k_is)
    (case l_is_drawer_count => k_is)
    (case c_is_drawer_count => k_is)
    (case k_is_drawer_count => k_is)
    (case a_is_drawer => k_is)
    (case l_is_drawer => k_is)
    (case c_is_drawer => k_is)
    (case k_is_drawer => k_is)
    (case a_is_bar => k_is)
    (case l_is_bar => k_is)
    (case c_is_bar => k_is)
    (case k_is_bar => k_is)
    (case a_check_drawers => k_is)
    (case l_check_drawers => k_is)
    (case c_check_drawers => k_is)
    (case k_check_drawers => k_is)
    (case a_check_bars => k_is)
    (case l_check_bars => k_is)
    (case c_check_bars => k_is)
    (case k_check_bars => k_is)
    (case a__law_taken => k_is)
    (case l__law_taken => k_is)
    (case c__law_taken => k_is)
    (case k__law_taken => k_is)
    (case a__law_parts => k_is)
    (case l__law_parts => k_is)
    (case c__law_parts => k_is)
    (case k__law_parts => k_is)
    (case a__law_made => k_is)
    (case l__law_made => k_is)
    (case c__law_made => k_is)
    (case k__law_made => k_is)
    (case a_hinders => k_is)
    (case l_hinders => k_is)
    (case c_hinders => k_is)
    (case k_hinders => k_is)
    (case a_moved => k_is)
    (case l_moved => k_is)
    (case c_moved => k_is)
    (case k_moved => k_is)
    (case a_bars_against => k_is)
    (case l_bars_against => k_is)
    (case c_bars_against => k_is)
    (case k_bars_against => k_is)
    (case a_goes => k_is)
    (case l_goes => k_is)
    (case c_goes => k_is)
    (case k_goes => k_is)
    (case a_free_drawers => k_is)
    (case l_free_drawers => k_is)
    (case c_free_drawers => k_is)
    (case k_free_drawers => k_is)
    (case a__law_hold => k_is)
    (case l__law_hold => k_is)
    (case c__law_hold => k_is)
    (case k__law_hold => k_is)
    (case a__law_free => k_is)
    (case l__law_free => k_is)
    (case c__law_free => k_is)
    (case k__law_free => k_is)
    (case a__law_moved => k_is)
    (case l__law_moved => k_is)
    (case c__law_moved => k_is)
    (case k__law_moved => k_is)
    (case a_check_cabinet => k_is)
    (case l_check_cabinet => k_is)
    (case c_check_cabinet => k_is)
    (case k_check_cabinet => k_is)
    (case a_check_drawer => k_is)
    (case l_check_drawer => k_is)
    (case c_check_drawer => k_is)
    (case k_check_drawer => k_is)
    (case a_first_standing => k_is)
    (case l_first_standing => k_is)
    (case c_first_standing => k_is)
    (case k_first_standing => k_is)
    (case a__law_is_desk => k_is)
    (case l__law_is_desk => k_is)
    (case c__law_is_desk => k_is)
    (case k__law_is_desk => k_is)
    (case a_law => k_is)
    (case l_law => k_is)
    (case c_law => k_is)
    (case k_law => k_is)
    (case aC => k_is)
    (case pg => k_is)
    (case hd => k_is)
    (case po => k_is)
    (case sa => k_is)
    (case mk => k_is)
    (case kc => k_is)
    (case nD => k_is)
    (case nB => k_is)
    (case a_Cabinet___init__ => k_is)
    (case l_Cabinet___init__ => k_is)
    (case c_Cabinet___init__ => k_is)
    (case k_Cabinet___init__ => k_is)
    (case i_init => k_is)
    (case a_Cabinet___eq__ => k_is)
    (case l_Cabinet___eq__ => k_is)
    (case c_Cabinet___eq__ => k_is)
    (case k_Cabinet___eq__ => k_is)
    (case i_eq => k_is)
    (case pa_drawers => k_is)
    (case pg_drawers => k_is)
    (case pt_drawers => k_is)
    (case pr_drawers => k_is)
    (case l_Cabinet_drawers => k_is)
    (case c_Cabinet_drawers => k_is)
    (case k_Cabinet_drawers => k_is)
    (case pa_bars => k_is)
    (case pg_bars => k_is)
    (case pt_bars => k_is)
    (case pr_bars => k_is)
    (case l_Cabinet_bars => k_is)
    (case c_Cabinet_bars => k_is)
    (case k_Cabinet_bars => k_is)
    (case ci1 => first | k_is | rfl)
    (case ci2 => first | k_is | rfl)
    (case ci3 => first | k_is | rfl)
    (case ci4 => first | k_is | rfl)
    (case ci5 => first | k_is | rfl)
    (case l_Desk_cabinet => k_is)
    (case c_Desk_cabinet => k_is)
    (case k_Desk_cabinet => k_is)
    (case l_Desk_standing => k_is)
    (case c_Desk_standing => k_is)
    (case k_Desk_standing => k_is)
    (case l_Desk_pulls => k_is)
    (case c_Desk_pulls => k_is)
    (case k_Desk_pulls => k_is)
    (case l_Desk___len__ => k_is)
    (case c_Desk___len__ => k_is)
    (case k_Desk___len__ => k_is)
    (case l_Desk_free => k_is)
    (case c_Desk_free => k_is)
    (case k_Desk_free => k_is)
    (case l_Desk___init__ => k_is)
    (case c_Desk___init__ => k_is)
    (case k_Desk___init__ => k_is)
    (case l_Desk_copy => k_is)
    (case c_Desk_copy => k_is)
    (case k_Desk_copy => k_is)
    (case l_Desk_undo => k_is)
    (case c_Desk_undo => k_is)
    (case k_Desk_undo => k_is)
    (case l_Desk_pull => k_is)
    (case c_Desk_pull => k_is)
    (case k_Desk_pull => k_is)
    (case z_isinstance => k_is)
    (case z_int => k_is)
    (case z_bool => k_is)
    (case z_tuple => k_is)
    (case z_len => k_is)
    (case z_enumerate => k_is)
    (case z_range => k_is)
    (case z_sorted => k_is)
    (case z_any => k_is)
    (case z_list => k_is)
    (case aM => k_is)
    (case aW => k_is)
    (case lW => k_is)
    (case aS => k_is)
    (case lS => k_is)
    (case kS => exact ⟨⟨_, _, rfl, rfl⟩, ⟨_, _, rfl, rfl⟩, True.intro⟩)
    (case oS => k_is)
    (case sS => k_is)
    (case pgDk => k_is)
    (case hdDk => k_is)
    (case poDk => k_is)
    (case saDk => k_is)
    (case mkDk => k_is)
    (case kcDk => k_is)
    (case nCDk => k_is)
    (case nSDk => k_is)
    (case nPDk => k_is)
    (case i_Deskinit => k_is)
    (case i_Desk__len => k_is)
    (case i_Deskpull => k_is)
    (case i_Deskfree => k_is)
    (case i_Deskundo => k_is)
    (case i_Deskcopy => k_is)
    (case pgDk_cabinet => k_is)
    (case ptDk_cabinet => k_is)
    (case pgDk_standing => k_is)
    (case ptDk_standing => k_is)
    (case pgDk_pulls => k_is)
    (case ptDk_pulls => k_is)
