import PyProof.Rows.All
import Wide.All
import OpenK.AllK
import Wide.FinOn
import HandS.ForMost
import HandS.ForExc
import HandS.TupLe
import HandS.TupAny
import HandS.SortOrd
import HandS.SortRule
import HandS.IsInst
import HandS.Conv
import HandS.Wide
import HandS.Property
import HandS.Deep
import HandS.Walk
import HandS.Zip
import HandS.Flow
import KE.GoesEnum
import PySem.Challenge.RW_drawerlocks_k36_whole_rests
import HandS.Replace
import HandS.More
import HandS.TryOnly
import KE.GoesZip
import KE.KSuper
import KE.KExcSuper
import HandS.ClsMeth
import HandS.ExcInit
import HandS.WordsExc
import HandS.FStr
import HandS.Star
import PyProof.Rows.SortShellAny
import KE.DataMinMax
import PyProof.Rows.StrMeet
import HandS.SlotsOwn
import HandS.ExcOwn
import HandS.TryMany
import HandS.ExcField
import HandS.DictComp
import HandS.DictSubView
import HandS.Small
import HandS.SetFor
import HandS.Codes
import KE.KIntText
import HandS.Text
import HandS.Style
set_option Elab.async false
set_option maxRecDepth 100000
namespace DL
open PySem PySem.Spec PyProof.Rows L2
/-! ### bars: four parts; the words as truth values (true: shut) -/
structure Bar where
  d : Int
  w : Bool
  o : Int
  t : Bool
deriving DecidableEq
def wd (b : Bool) : Str := if b = true then "shut" else "open"
theorem wd_inj : ∀ {a b : Bool}, wd a = wd b → a = b := by decide +kernel
theorem wd_lt : ∀ a b : Bool, decide ((wd a).cps.toList < (wd b).cps.toList) = (!a && b) := by decide +kernel
theorem wd_dec : ∀ a : Bool, decide (wd a = "shut") = a := by decide +kernel
def Bar.key (b : Bar) : List Key := [.inl b.d, .inr (wd b.w), .inl b.o, .inr (wd b.t)]
def Bar.vs (b : Bar) : List V := [.int b.d, .str (wd b.w), .int b.o, .str (wd b.t)]
def b2n (b : Bool) : Int := if b = true then 1 else 0
theorem b2n_le (b : Bool) : 0 ≤ b2n b ∧ b2n b ≤ 1 := by cases b <;> decide
theorem b2n_inj {a b : Bool} (h : b2n a = b2n b) : a = b := by revert h; revert a b; decide
def Bar.code (b : Bar) : Int := ((b.d * 2 + b2n b.w) * 8 + b.o) * 2 + b2n b.t
/-- the parts lie where a bar of at most eight drawers has them -/
def Bar.low (b : Bar) : Prop := 0 ≤ b.d ∧ b.d < 8 ∧ 0 ≤ b.o ∧ b.o < 8
theorem Bar.ext4 {a b : Bar} (h1 : a.d = b.d) (h2 : a.w = b.w) (h3 : a.o = b.o) (h4 : a.t = b.t) : a = b := by
  cases a; cases b; simp only at h1 h2 h3 h4; subst h1 h2 h3 h4; rfl
theorem Bar.code_inj {a b : Bar} (ha : a.low) (hb : b.low) (h : a.code = b.code) : a = b := by
  unfold Bar.low at ha hb
  unfold Bar.code at h
  have w1 := b2n_le a.w; have w2 := b2n_le b.w; have t1 := b2n_le a.t; have t2 := b2n_le b.t
  exact Bar.ext4 (by omega) (b2n_inj (by omega)) (by omega) (b2n_inj (by omega))
/-- what a < b of two such tuples comes to -/
def Bar.ltb (a b : Bar) : Bool := if a.d = b.d then (if a.w = b.w then (if a.o = b.o then (!a.t && b.t) else decide (a.o < b.o)) else (!a.w && b.w)) else decide (a.d < b.d)
theorem Bar.ltb_code {a b : Bar} (ha : a.low) (hb : b.low) : a.ltb b = decide (a.code < b.code) := by
  obtain ⟨ad, aw, ao, at'⟩ := a
  obtain ⟨bd, bw, bo, bt⟩ := b
  unfold Bar.low at ha hb
  unfold Bar.ltb Bar.code b2n
  simp only at ha hb ⊢
  by_cases h1 : ad = bd
  · rw [if_pos h1]
    by_cases h2 : aw = bw
    · rw [if_pos h2]
      by_cases h3 : ao = bo
      · rw [if_pos h3]
        subst h1 h2 h3
        cases at' <;> cases bt <;> simp <;> omega
      · rw [if_neg h3]
        subst h1 h2
        cases at' <;> cases bt <;> simp <;> omega
    · rw [if_neg h2]
      subst h1
      cases aw <;> cases bw <;> cases at' <;> cases bt <;> simp at h2 ⊢ <;> omega
  · rw [if_neg h1]
    cases aw <;> cases bw <;> cases at' <;> cases bt <;> simp <;> omega
/-- a bar read back -/
def barOf : List V → Bar
  | [.int d, .str w, .int o, .str t] => ⟨d, decide (w = "shut"), o, decide (t = "shut")⟩
  | _ => ⟨0, false, 0, false⟩
theorem barOf_vs (b : Bar) : barOf b.vs = b := by
  show (⟨b.d, decide (wd b.w = "shut"), b.o, decide (wd b.t = "shut")⟩ : Bar) = b
  rw [wd_dec, wd_dec]
/-- the bar that stands at an address of the heap -/
def barAt (H : Hp) : V → Bar
  | .ref a => (match H a with | some (.tup xs) => barOf xs | _ => ⟨0, false, 0, false⟩)
  | _ => ⟨0, false, 0, false⟩
theorem barAt_of {H : Hp} {a : Addr} {b : Bar} (h : H a = some (.tup b.vs)) : barAt H (.ref a) = b := by
  show (match H a with | some (.tup xs) => barOf xs | _ => ⟨0, false, 0, false⟩) = b
  rw [h]; exact barOf_vs b
/-! ### sorted(d), d a dict whose keys are such tuples -/
def IsBarV (h : Heap) (v : Value) (b : Bar) : Prop := ∃ a o t1 t2 t3 t4 n, v = .ref a ∧ h.get? a = some o ∧ o.cls = .type "tuple" ∧ o.data = .seq #[.int b.d t1, .str (wd b.w) t2, .int b.o t3, .str (wd b.t) t4] n
theorem IsBarV.keeps {h h' : Heap} {v : Value} {b : Bar} (p : IsBarV h v b) (k : ∀ c o, h.get? c = some o → o.cls = .type "tuple" → h'.get? c = some o) : IsBarV h' v b := by
  obtain ⟨a, o, t1, t2, t3, t4, n, e, ho, hc, hd⟩ := p
  exact ⟨a, o, t1, t2, t3, t4, n, e, k _ _ ho hc, hc, hd⟩
section
variable {prog : Program} {w : World} {A : Around} {E : Value → Shared → Prop} {s : Shared}
theorem oneLt_words (c : Bool) {p q : Str} {t u : Tok} {Q : Bool → Shared → Prop} (h : c = false) (hq : Q (decide (p.cps.toList < q.cps.toList)) s) : wpAny (model prog w) A (oneLt' c (.str p t) (.str q u)) Q E s := by
  subst h
  exact PySem.W.kat_one _ _ (PyProof.Rows.lt_str hq)
theorem bar_cmp {vs : List Value} {kb : Value → Bar} (hp : ∀ v ∈ vs, IsBarV s.heap v (kb v) ∧ (kb v).low) : SrtO.Cmp prog w A s (tuples' true) (fun p => p.1 ∈ vs) (SrtO.lt2 fun v u => decide ((kb v).code < (kb u).code)) := by
  intro p q hm hm'
  obtain ⟨h1, l1⟩ := hp _ hm
  obtain ⟨h2, l2⟩ := hp _ hm'
  show wpAny (model prog w) A (keyLt' (tuples' true) p.1 q.1) (fun r s' => s' = s ∧ r = decide ((kb p.1).code < (kb q.1).code)) (fun _ _ => False) s
  generalize kb p.1 = x at h1 l1 ⊢
  generalize kb q.1 = y at h2 l2 ⊢
  rw [← Bar.ltb_code l1 l2]
  obtain ⟨a, o, t1, t2, t3, t4, n, e, ho, hc, hd⟩ := h1
  obtain ⟨a', o', t1', t2', t3', t4', n', e', ho', hc', hd'⟩ := h2
  rw [e, e']
  refine PySem.W.kat_lt ho hd ho' hd' ?_
  show PySem.W.KatLex prog w A true (decide (4 < 4)) _ [(.int x.d t1, .int y.d t1'), (.str (wd x.w) t2, .str (wd y.w) t2'), (.int x.o t3, .int y.o t3'), (.str (wd x.t) t4, .str (wd y.t) t4')] 0 s
  refine PySem.W.kat_cons (SeqAt.EqAt.int_int x.d t1 y.d t1' prog w _ _ ?_)
  refine PySem.W.kat_go (fun e1 => ?_) (fun e1 => ?_)
  · have e1' : x.d = y.d := by simpa using e1
    refine PySem.W.kat_yes (PySem.W.kat_cons (wpAny_eqBool_str ?_))
    refine PySem.W.kat_go (fun e2 => ?_) (fun e2 => ?_)
    · have e2' : x.w = y.w := wd_inj (by simpa using e2)
      refine PySem.W.kat_yes (PySem.W.kat_cons (SeqAt.EqAt.int_int x.o t3 y.o t3' prog w _ _ ?_))
      refine PySem.W.kat_go (fun e3 => ?_) (fun e3 => ?_)
      · have e3' : x.o = y.o := by simpa using e3
        refine PySem.W.kat_yes (PySem.W.kat_cons (wpAny_eqBool_str ?_))
        refine PySem.W.kat_go (fun e4 => ?_) (fun e4 => ?_)
        · have e4' : x.t = y.t := wd_inj (by simpa using e4)
          refine PySem.W.kat_yes (PySem.W.kat_nil ⟨rfl, ?_⟩)
          unfold Bar.ltb
          rw [if_pos e1', if_pos e2', if_pos e3', e4']
          cases y.t <;> rfl
        · refine PySem.W.kat_no (oneLt_words _ rfl ⟨rfl, ?_⟩)
          unfold Bar.ltb
          rw [if_pos e1', if_pos e2', if_pos e3', wd_lt]
      · have e3' : ¬ x.o = y.o := by simpa using e3
        refine PySem.W.kat_no (PySem.W.kat_one _ _ (PyProof.Rows.lt_int ?_))
        refine (show s = s ∧ decide (x.o < y.o) = x.ltb y from ⟨rfl, ?_⟩)
        unfold Bar.ltb
        rw [if_pos e1', if_pos e2', if_neg e3']
    · have e2' : ¬ x.w = y.w := fun z => by rw [z] at e2; simp at e2
      refine PySem.W.kat_no (oneLt_words _ rfl ⟨rfl, ?_⟩)
      unfold Bar.ltb
      rw [if_pos e1', if_neg e2', wd_lt]
  · have e1' : ¬ x.d = y.d := by simpa using e1
    refine PySem.W.kat_no (oneLt_int ⟨rfl, ?_⟩)
    unfold Bar.ltb
    rw [if_neg e1']
theorem bar_firsts {h : Heap} : ∀ {vs : List Value}, (∀ v ∈ vs, ∃ b, IsBarV h v b) → ∃ fs : List Value, PySem.W.KatTups h vs fs ∧ fs.length = vs.length ∧ ∀ f ∈ fs, ∃ x t, f = Value.int x t
  | [], _ => ⟨[], PySem.W.KatTups.nil, rfl, fun _ hm => by simp at hm⟩
  | v :: vs, hp => by
    obtain ⟨fs, h1, h2, h3⟩ := bar_firsts (vs := vs) fun v' hm => hp v' (List.mem_cons_of_mem _ hm)
    obtain ⟨b, a, o, t1, t2, t3, t4, n, e, ho, hc, hd⟩ := hp v (List.mem_cons_self ..)
    subst e
    refine ⟨.int b.d t1 :: fs, PySem.W.KatTups.cons ho hc hd rfl h1, by rw [List.length_cons, List.length_cons, h2], fun f hm => ?_⟩
    rcases List.mem_cons.mp hm with rfl | hm
    · exact ⟨b.d, t1, rfl⟩
    · exact h3 f hm
theorem swo_code (kb : Value → Bar) : SrtO.Swo fun v u => decide ((kb v).code < (kb u).code) := by
  refine ⟨fun x y h => ?_, fun x y z h1 h2 => ?_⟩
  · have a := of_decide_eq_true h
    exact decide_eq_false (by omega)
  · have a := of_decide_eq_false h1
    have b := of_decide_eq_false h2
    exact decide_eq_false (by omega)
theorem bars_sortableO {a : Addr} {vs : List Value} {kb : Value → Bar} (h0 : 0 < vs.length) (hp : ∀ v ∈ vs, IsBarV s.heap v (kb v) ∧ (kb v).low) (ha : ∀ o, s.heap.get? a = some o → o.cls ≠ .type "tuple") :
    SrtO.SortableO prog w A s a vs fun v u => decide ((kb v).code < (kb u).code) := by
  intro h' keep
  have hp' : ∀ v ∈ vs, IsBarV h' v (kb v) ∧ (kb v).low := fun v hm => ⟨(hp v hm).1.keeps fun b o e c => keep b o (fun z => by subst z; exact ha o e c) e, (hp v hm).2⟩
  obtain ⟨fs, h1, h2, h3⟩ := bar_firsts fun v hm => ⟨_, (hp' v hm).1⟩
  refine ⟨tuples' true, fun Q E hq => ?_, bar_cmp hp'⟩
  refine PySem.W.kat_kind (T := .type "int") h1 (by omega) (fun f hm => ?_) (by rfl) ?_
  · obtain ⟨x, t, rfl⟩ := h3 f hm
    exact PySem.W.Looks.now
  · have e : (Value.type "int" != Value.type "tuple") = true := by first | decide +kernel | rfl | decide
    rw [e]
    exact hq
end
/-- sorted(d): the keys' own tuples, by their codes -/
def rSortB : List V → Hp → VK → Prop := fun xs H Q => ∃ (d : Addr) (kvs : List (List Key × V)) (bs : List Bar), xs = [V.ref d] ∧ Rd H d (.dT kvs) ∧ kvs.map (·.1) = bs.map Bar.key ∧ (∀ b ∈ bs, b.low) ∧
  ∀ (ks : List (Addr × Bar)) (p : Addr), (∀ k ∈ ks, H k.1 = some (.tup k.2.vs)) → (ks.map (·.2)).Perm bs → (ks.map (·.2)).Pairwise (fun x y => x.code ≤ y.code) → H p = none → Q (.ref p) (upd H p (.lst (ks.map fun k => V.ref k.1)))
theorem keys_bars : ∀ {H : Hp} {kvs : List (List Key × V)} {as : List Addr} {bs : List Bar}, IsKeys H kvs as → kvs.map (·.1) = bs.map Bar.key → (∀ a ∈ as, ∃ b ∈ bs, H a = some (.tup b.vs)) ∧ (as.map V.ref).map (barAt H) = bs := by
  intro H kvs as bs ik
  unfold IsKeys at ik
  induction ik generalizing bs with
  | nil =>
    intro e
    cases bs with
    | nil => exact ⟨fun a ha => by simp at ha, rfl⟩
    | cons b bs => simp at e
  | @cons kv a kvs' as' h t ih =>
    intro e
    cases bs with
    | nil => simp at e
    | cons b bs =>
      rw [List.map_cons, List.map_cons] at e
      injection e with e1 e2
      obtain ⟨i1, i2⟩ := ih e2
      have hb : H a = some (.tup b.vs) := by rw [h, e1]; rfl
      refine ⟨fun c hc => ?_, ?_⟩
      · rcases List.mem_cons.mp hc with rfl | hc
        · exact ⟨b, List.mem_cons_self, hb⟩
        · obtain ⟨b', m, q⟩ := i1 c hc
          exact ⟨b', List.mem_cons_of_mem _ m, q⟩
      · rw [List.map_cons, List.map_cons, i2, barAt_of hb]
section
variable {X : Cx}
theorem cr_sortB (hcalm : X.calm = true) : CallR X (.builtin "sorted") rSortB := by
  intro pins s σ H xs us Q I r h
  obtain ⟨d, kvs, bs, rfl, hd, hks, hlow, q⟩ := h
  obtain ⟨u, rfl, rx⟩ := r.one
  obtain rfl : u = Value.ref d := rx
  obtain ⟨z, hs, ks, pr, o, es, ep, ho, hx, hdt, he, hn⟩ := (show ObjOk X.prog X.w H s.heap d (.dT kvs) from hd.ok I.hok)
  have l1 : es.size = ks.length := size_of_entries he
  have l2 : kvs.length = ks.length := Paired.length pr
  refine Calls.call_function_entry PyProof.Rows.kind_sorted PyProof.Rows.plain_sorted PyProof.Rows.entry_sorted (PyProof.Rows.args_sorted1 _) ?_
  unfold Builtin.«sorted»
  refine wpAny_bind (m := checkCount "sorted" 1 1 _) (wpAny_pure ?_)
  refine wpAny_bind (PySem.W.kdu_collect (A := X.A.in1) (kdl_raw hs hx hdt) (I.ok.hd hcalm) ho (by omega) fun h' tk acc hk it => ?_)
  have ea : acc.toList = ks.map fun x => Value.ref x.2.1 := by
    have hl : acc.toList.length = ks.length := by rw [Array.length_toList, it.1]; exact l1
    apply List.ext_getElem?
    intro j
    rw [List.getElem?_map]
    cases hj : acc.toList[j]? with
    | none =>
      have h1 := List.getElem?_eq_none_iff.mp hj
      rw [List.getElem?_eq_none (by omega)]
      all_goals rfl
    | some v =>
      obtain ⟨en, hen, hv⟩ := it.2 j v (by rw [← Array.getElem?_toList]; exact hj)
      have qe := entry_at he j
      rw [hen] at qe
      cases hb : ks[j]? with
      | none =>
        rw [hb] at qe
        exact nomatch (show some en = none from qe)
      | some b =>
        rw [hb] at qe
        have e2 : en = entryOfKey (tupleKind (mixKind X.prog X.w)) b := Option.some.inj qe
        rw [hv, e2]
        all_goals rfl
  have ik : IsKeys H kvs (ks.map fun x => x.2.1) := isKeys_of pr
  obtain ⟨kb1, kb2⟩ := keys_bars ik hks
  generalize has : (ks.map fun x => x.2.1) = as at ik kb1 kb2
  have ea' : acc.toList = as.map Value.ref := by rw [ea, ← has, List.map_map]; rfl
  have hal : acc.toList.length = as.length := by rw [ea', List.length_map]
  have hasz : as.length ≤ sizeLine := by rw [← has, List.length_map]; omega
  have I1 : Inv X pins σ H { s with heap := h', toks := tk } := I.kept hk
  refine wpAny_bind (wpAny_newList ?_ (by rw [hal]; exact hasz))
  have hoL : (h'.push (seqObj "list" acc.toList.toArray 0)).get? h'.objs.size = some (seqObj "list" acc.toList.toArray 0) := Heap.get?_push_size _ rfl
  show wpAny _ _ _ _ _ { s with heap := h'.push (seqObj "list" acc.toList.toArray 0), toks := tk }
  have hbar : ∀ v ∈ acc.toList, IsBarV h' v (barAt H (backV v)) ∧ (barAt H (backV v)).low := fun v hv => by
    rw [ea'] at hv
    obtain ⟨a, ham, rfl⟩ := List.mem_map.mp hv
    obtain ⟨b, hbm, hHa⟩ := kb1 a ham
    have e1 : barAt H (backV (Value.ref a)) = b := barAt_of hHa
    rw [e1]
    refine ⟨?_, hlow b hbm⟩
    obtain ⟨_, its, rv, oo, h1, h2, n, h3⟩ := (show ObjOk X.prog X.w H h' a (.tup b.vs) from I1.hok a _ hHa)
    cases rv with
    | cons r1 rv =>
      cases rv with
      | cons r2 rv =>
        cases rv with
        | cons r3 rv =>
          cases rv with
          | cons r4 rv =>
            cases rv
            obtain ⟨t1, rfl⟩ := r1
            obtain ⟨t2, rfl⟩ := r2
            obtain ⟨t3, rfl⟩ := r3
            obtain ⟨t4, rfl⟩ := r4
            exact ⟨a, oo, t1, t2, t3, t4, n, rfl, h1, h2, h3⟩
  refine wpAny_bind (wpAny_holding (wpAny_call_entry PyProof.Rows.slot_list_sort ⟨_, hoL, rfl⟩ PyProof.Rows.entry_list_sort
    (SrtO.list_sort_ord (s := { s with heap := h'.push (seqObj "list" acc.toList.toArray 0), toks := tk }) (swo_code fun v => barAt H (backV v)) hoL (by rw [hal]; exact hasz) (fun h2 => ?_) fun out hs hb => ⟨_, rfl, ?_⟩)
    (PyProof.Rows.args_list_sort _)))
  · refine bars_sortableO (by omega) (fun v hv => ⟨(hbar v hv).1.keeps fun c oo e _ => Heap.get?_push_of_some _ e, (hbar v hv).2⟩) fun oo e => ?_
    have e' : some oo = some (seqObj "list" acc.toList.toArray 0) := e.symm.trans hoL
    cases e'
    intro c
    exact absurd (Value.type.inj c) (by decide)
  · obtain ⟨e', he'⟩ := PyProof.Rows.sortedHeap_at (vs := acc.toList) (out := out.toArray) hoL
    have pm : out.Perm (as.map Value.ref) := by rw [← ea']; exact hb.perm
    have href : ∀ v ∈ out, ∃ a, v = Value.ref a ∧ a ∈ as := fun v hv => by
      obtain ⟨a, ha, rfl⟩ := List.mem_map.mp (pm.mem_iff.mp hv)
      exact ⟨a, rfl, ha⟩
    have e1 : out.map backV = (out.map fun v => ((match v with | .ref a => a | _ => 0 : Addr), barAt H (backV v))).map fun k => V.ref k.1 := by
      rw [List.map_map]
      refine List.map_congr_left fun v hv => ?_
      obtain ⟨a, rfl, _⟩ := href v hv
      rfl
    have e2 : (out.map fun v => ((match v with | .ref a => a | _ => 0 : Addr), barAt H (backV v))).map (·.2) = out.map fun v => barAt H (backV v) := by
      rw [List.map_map]; rfl
    have pm2 : (out.map fun v => barAt H (backV v)).Perm bs := by
      have q1 := pm.map fun v => barAt H (backV v)
      have q2 : (as.map Value.ref).map (fun v => barAt H (backV v)) = bs := by
        rw [← kb2, List.map_map, List.map_map]; rfl
      rw [q2] at q1
      exact q1
    have qq := q (out.map fun v => ((match v with | .ref a => a | _ => 0 : Addr), barAt H (backV v))) h'.objs.size (fun k hk2 => by
        obtain ⟨v, hv, rfl⟩ := List.mem_map.mp hk2
        obtain ⟨a, rfl, ha⟩ := href v hv
        obtain ⟨b, _, hH⟩ := kb1 a ha
        show H a = some (.tup (barAt H (.ref a)).vs)
        rw [barAt_of hH]
        exact hH) (by rw [e2]; exact pm2) (by
        rw [e2, List.pairwise_map]
        exact hs.imp fun {x y} q => by
          have := of_decide_eq_false q
          omega) (I1.hok.fresh (Nat.le_refl _))
    rw [← e1] at qq
    refine wpAny_pure ⟨_, rfl, .ref h'.objs.size, upd H h'.objs.size (.lst (out.map backV)), I1.laid (t' := tk) (fun b u e => ?_) (Nat.le_refl _)
      (show ObjOk X.prog X.w _ _ _ (.lst (out.map backV)) from ⟨?_, out, e', vals_back fun v hv => ?_, he'⟩), rfl, qq⟩
    · have hb : b < h'.objs.size := Heap.lt_size e
      rw [PyProof.Rows.sortedHeap_old (Nat.ne_of_lt hb) (by rw [size_push']; exact Nat.lt_succ_of_lt hb)]
      exact Heap.get?_push_of_some _ e
    · rw [List.length_map, pm.length_eq, List.length_map]
      exact hasz
    · obtain ⟨a, e, _⟩ := href v hv
      exact ⟨a, e⟩
end
end DL

set_option Elab.async false
set_option maxRecDepth 100000
namespace DL
open PySem PySem.Spec PyProof.Rows L2
/-! ### bar <= bar -/
def Bar.leb (a b : Bar) : Bool := decide (a.code ≤ b.code)
def Bar.leq (a b : Bar) : Bool := if a.d = b.d then (if a.w = b.w then (if a.o = b.o then (if a.t = b.t then true else !(!b.t && a.t)) else decide (a.o ≤ b.o)) else !(!b.w && a.w)) else decide (a.d ≤ b.d)
theorem Bar.leq_code {a b : Bar} (ha : a.low) (hb : b.low) : a.leq b = a.leb b := by
  obtain ⟨ad, aw, ao, at'⟩ := a
  obtain ⟨bd, bw, bo, bt⟩ := b
  unfold Bar.low at ha hb
  unfold Bar.leq Bar.leb Bar.code b2n
  simp only at ha hb ⊢
  by_cases h1 : ad = bd
  · rw [if_pos h1]
    by_cases h2 : aw = bw
    · rw [if_pos h2]
      by_cases h3 : ao = bo
      · rw [if_pos h3]
        subst h1 h2 h3
        cases at' <;> cases bt <;> simp <;> omega
      · rw [if_neg h3]
        subst h1 h2
        cases at' <;> cases bt <;> simp <;> omega
    · rw [if_neg h2]
      subst h1
      cases aw <;> cases bw <;> cases at' <;> cases bt <;> simp at h2 ⊢ <;> omega
  · rw [if_neg h1]
    cases aw <;> cases bw <;> cases at' <;> cases bt <;> simp <;> omega
def rLeB (K : PySem.W.Frag) : R2 := fun x y H Q => ∃ (a b : Addr) (p q : Bar), x = .ref a ∧ y = .ref b ∧ SqT K H a p.vs ∧ SqT K H b q.vs ∧ Q (.bl (p.leq q)) H
theorem four_of {p : Bar} {its : List Value} (r : Vals p.vs its) : ∃ t1 t2 t3 t4, its = [.int p.d t1, .str (wd p.w) t2, .int p.o t3, .str (wd p.t) t4] := by
  cases r with
  | cons r1 rv =>
    cases rv with
    | cons r2 rv =>
      cases rv with
      | cons r3 rv =>
        cases rv with
        | cons r4 rv =>
          cases rv
          obtain ⟨t1, rfl⟩ := r1
          obtain ⟨t2, rfl⟩ := r2
          obtain ⟨t3, rfl⟩ := r3
          obtain ⟨t4, rfl⟩ := r4
          exact ⟨t1, t2, t3, t4, rfl⟩
theorem beq_dec {α : Type} [BEq α] [LawfulBEq α] [DecidableEq α] (a b : α) : (a == b) = decide (a = b) := by
  by_cases q : a = b
  · rw [decide_eq_true q]; exact beq_iff_eq.mpr q
  · rw [decide_eq_false q]; exact beq_eq_false_iff_ne.mpr q
theorem wd_beq (a b : Bool) : ((wd a) == (wd b)) = decide (a = b) := by revert a b; decide +kernel
theorem op_leB {X : Cx} (hu : X.A.units < cLine) : OpR X (compareOp .LtE) (rLeB X.K) := by
  intro pins s σ H x y v u Q I rx ry h
  obtain ⟨a, b, p, q, rfl, rfl, ha, hb, hq⟩ := h
  cases rx
  cases ry
  obtain ⟨its, r1, p1, _⟩ := I.tuple ha
  obtain ⟨its2, r2, p2, _⟩ := I.tuple hb
  obtain ⟨t1, t2, t3, t4, rfl⟩ := four_of r1
  obtain ⟨u1, u2, u3, u4, rfl⟩ := four_of r2
  have R := Ob.RcOp.tuples_le (A := X.A) (s := s) (e := fun j => match j with | 0 => decide (p.d = q.d) | 1 => decide (p.w = q.w) | 2 => decide (p.o = q.o) | _ => decide (p.t = q.t))
    (r := fun j => match j with | 0 => decide (p.d ≤ q.d) | 1 => !(!q.w && p.w) | 2 => decide (p.o ≤ q.o) | _ => !(!q.t && p.t)) p1 p2 hu (fun j h1 h2 => by
      match j, h1, h2 with
      | 0, _, _ => show SeqAt.EqAt _ _ (.int p.d t1) (.int q.d u1) (decide (p.d = q.d)); rw [← beq_dec]; exact SeqAt.EqAt.int_int _ _ _ _
      | 1, _, _ => show SeqAt.EqAt _ _ (.str (wd p.w) t2) (.str (wd q.w) u2) (decide (p.w = q.w)); rw [← wd_beq]; exact SeqAt.EqAt.str_str _ _ _ _
      | 2, _, _ => show SeqAt.EqAt _ _ (.int p.o t3) (.int q.o u3) (decide (p.o = q.o)); rw [← beq_dec]; exact SeqAt.EqAt.int_int _ _ _ _
      | 3, _, _ => show SeqAt.EqAt _ _ (.str (wd p.t) t4) (.str (wd q.t) u4) (decide (p.t = q.t)); rw [← wd_beq]; exact SeqAt.EqAt.str_str _ _ _ _
      | n + 4, h1, _ => exact absurd (show n + 4 < 4 from h1) (by omega)) (fun j h1 h2 _ => by
      match j, h1, h2 with
      | 0, _, _ => exact Ob.RcOp.le_int _ _ _ _
      | 1, _, _ =>
        show Ob.RcOp .LtE _ _ (.str (wd p.w) t2) (.str (wd q.w) u2) (!(!q.w && p.w))
        rw [← wd_lt]
        exact fun _ _ _ _ h => PySem.P.le_str h
      | 2, _, _ => exact Ob.RcOp.le_int _ _ _ _
      | 3, _, _ =>
        show Ob.RcOp .LtE _ _ (.str (wd p.t) t4) (.str (wd q.t) u4) (!(!q.t && p.t))
        rw [← wd_lt]
        exact fun _ _ _ _ h => PySem.P.le_str h
      | n + 4, h1, _ => exact absurd (show n + 4 < 4 from h1) (by omega))
  have z : wpAny (model X.prog X.w) X.A (compareOp .LtE (.ref a) (.ref b)) (EP X pins σ Q) X.xe s := R X.prog X.w X.xe (EP X pins σ Q) (by
    refine ⟨.bl (p.leq q), H, I, ?_, hq⟩
    show Value.bool _ = Value.bool (p.leq q)
    have e : (Ob.lexAt (fun j => match j with | 0 => decide (p.d = q.d) | 1 => decide (p.w = q.w) | 2 => decide (p.o = q.o) | _ => decide (p.t = q.t))
      (fun j => match j with | 0 => decide (p.d ≤ q.d) | 1 => !(!q.w && p.w) | 2 => decide (p.o ≤ q.o) | _ => !(!q.t && p.t)) true 0 4) = p.leq q := by
      unfold Bar.leq
      simp only [Ob.lexAt, decide_eq_true_eq]
    exact congrArg Value.bool e)
  exact z
/-! ### for i, x in enumerate(t), t a tuple -/
def IteT (K : PySem.W.Frag) (a : Addr) : It :=
  ⟨fun i H => ∃ (xs : List V) (x : V), SqT K H a xs ∧ xs[i]? = some x, fun i H v H' => ∃ T x, v = .ref T ∧ H T = none ∧ H' = upd H T (.tup [.int (i : Nat), x]) ∧ ∀ xs, SqT K H a xs → xs[i]? = some x, fun i H => ∃ xs : List V, SqT K H a xs ∧ xs.length ≤ i⟩
theorem turn_enumT {P : Program} {w : World} {K : PySem.W.Frag} {elts : List Expr} {kk : Nat} {tpos : Pos} (a e it : Addr) (hai : a ≠ it) (hae : e ≠ a) :
    Turn P w K (.Tuple elts kk tpos) (IteT K a) [e, it] e (fun i h => (∃ old, IsEnum h e it ((i : Nat) : Int) old) ∧ h.IsTupleIter it a i ∧ e ≠ it) where
  mem := by simp
  obj := fun i h st b hb => by
    obtain ⟨⟨old, he⟩, ⟨o, ho, hc, hd⟩, _⟩ := st
    have e' : b = e ∨ b = it := by simpa using hb
    rcases e' with z | z
    · rw [z]; exact ⟨_, he, fun v q => nomatch q⟩
    · rw [z]; exact ⟨o, ho, fun v q => by rw [hd] at q; cases q⟩
  keep := fun i h h' st k => let ⟨⟨old, he⟩, hi, hne⟩ := st; ⟨⟨old, k e (by simp) _ he⟩, hi.at fun o q => k it (by simp) o q, hne⟩
  item := by
    intro X hP hw hK hc i pins s σ H E I hf st hg
    subst hP hw hK
    obtain ⟨⟨old, he⟩, hit, hne⟩ := st
    obtain ⟨xs, x, hq, hx⟩ := hg
    obtain ⟨its, rv, p, hz⟩ := I.tuple hq
    obtain ⟨u, hu, ru⟩ := rv.get hx
    have hel : e < s.heap.objs.size := Heap.lt_size he
    have hil : it < s.heap.objs.size := by obtain ⟨_, q, _⟩ := hit; exact Heap.lt_size q
    have hlt : i < its.toArray.size := by
      have := (List.getElem?_eq_some_iff.mp hu).1
      simpa using this
    refine wpAny_pyNext_enum_itemD (Draws.tuple (A := X.A.in1) (I.ok.hd hc) it a hai its.toArray) he ⟨hit, p⟩ hlt hne (by simp; exact ⟨hne, hae⟩) fun x1 h' tk hp ho hst' hT hsz hk => ?_
    have hx1 : x1 = u := by
      have q : its.toArray[i]? = some u := by simpa using hu
      rw [q] at hp
      exact (Option.some.inj hp).symm
    subst hx1
    refine ⟨_, rfl, wpAny_letOwnedTupleGo_enum (s := { s with heap := h', toks := tk + 1 }) ho fun h'' he' sb => ?_⟩
    have hT2 : h''.get? s.heap.objs.size = some { cls := .type "tuple", data := .seq #[.int i tk, x1] } := (sb.2 _ (Nat.ne_of_gt hel)).trans hT
    have new : ObjOk X.prog X.w (upd H s.heap.objs.size (.tup [.int (i : Nat), x])) h'' s.heap.objs.size (.tup [.int (i : Nat), x]) :=
      ⟨by show 2 ≤ sizeLine; decide, [.int i tk, x1], .cons ⟨_, rfl⟩ (.cons ru .nil), ⟨_, hT2, rfl, _, rfl⟩⟩
    have I1 : Inv X pins σ (upd H s.heap.objs.size (.tup [.int (i : Nat), x])) { s with heap := h'', toks := tk + 1 } :=
      I.turnedNew (ch := [e, it]) (fun b ob hb q => (sb.2 b (fun z => hb (by simp [z]))).trans (hk b ob (fun z => hb (by simp [z])) (fun z => hb (by simp [z])) q)) hf (Nat.le_refl _) new
    refine ⟨.ref s.heap.objs.size, _, I1, rfl, ⟨_, x, rfl, I.hok.fresh (Nat.le_refl _), rfl, fun ys hy => by rw [I.tuple_inj hy hq]; exact hx⟩, ⟨⟨x1, ?_⟩, hst'.1.at fun o q => (sb.2 it (Ne.symm hne)).trans q, hne⟩, fun b hb => ?_⟩
    · have e1 : ((i + 1 : Nat) : Int) = (i : Int) + 1 := by omega
      rw [e1]; exact he'
    · have hb' : b < s.heap.objs.size := by
        have e' : b = e ∨ b = it := by simpa using hb
        rcases e' with z | z
        · rw [z]; exact hel
        · rw [z]; exact hil
      rw [upd_ne (Nat.ne_of_lt hb')]
      exact (hf b hb).1
  done := by
    intro X hP hw hK hc i pins s σ H E I hf st hg
    subst hP hw hK
    obtain ⟨⟨old, he⟩, hit, hne⟩ := st
    obtain ⟨xs, hq, hx⟩ := hg
    obtain ⟨its, rv, p, hz⟩ := I.tuple hq
    obtain ⟨f0, f1, f2, f3, f4, f5⟩ := hf it (by simp)
    have hl := rv.length
    have D := Draws.tuple (prog := X.prog) (w := X.w) (A := X.A.in1) (I.ok.hd hc) it a hai its.toArray
    have go : ∀ {Q : Option Value → Shared → Prop}, (∀ h', Heap.ExtBut it s.heap h' → Q none { s with heap := h' }) → wpAny (model X.prog X.w) X.A (pyNext (.ref e)) Q E s := by
      intro Q hQ
      unfold pyNext
      have hT : s.TypeIs (.ref e) "enumerate" := ⟨_, he, rfl⟩
      refine wpAny_bind (wpAny_attempt (wpAny_callSpecial?_slot (name := Str.ofString "__next__") hT F.slot_enumerate_next
        (wpAny_call_entry F.slot_enumerate_next hT F.entry_enumerate_next ?_ (F.args_enumerate_next_1 _))))
      show wpAny _ _ (field (.ref e) 2 >>= _) _ _ _
      refine wpAny_bind (wpAny_field he rfl (x := .ref it) rfl ?_)
      refine wpAny_bind (wpAny_nextOf_tuple_end (I.ok.hd hc) hit p (by simp; omega) fun h' x he' hx' => ?_)
      obtain ⟨o, ho, hc⟩ := hx'
      refine wpAny_bind (wpAny_isInstance (T := "StopIteration") (b := true) ⟨o, ho, hc⟩ isSubtype_stop ?_)
      exact wpAny_pure (hQ _ he')
    exact go fun h' eb => ⟨rfl, I.turned (t' := s.toks) (fun b o hb q => eb b o hb q) f0 f1 f3 f4 f5⟩
  self := fun A i s Q E st h => let ⟨⟨_, he⟩, _⟩ := st; wpAny_pyIter_enum he h
def iEnumT (K : PySem.W.Frag) (ta : TA) : TI := fun σ H R => ta σ H fun vs H1 => ∃ a xs, vs = [.ref a] ∧ SqT K H1 a xs ∧ R (IteT K a) H1
end DL

set_option Elab.async false
set_option maxRecDepth 100000
namespace DL
open PySem PySem.Spec PyProof.Rows L2
open Sem (wp)
set_option maxHeartbeats 1000000 in
theorem meets_enumerate_newB1 {v : Value} {o : Obj} {H : Heap → Prop} (B : Begins v o H) :
    Meets (Builtin.«enumerate.__new__» ⟨[.type "enumerate", v], []⟩) (fun _ R s => H s.heap ∧
      R (.ok (.ret (.ref (s.heap.push o).objs.size))) { s with heap := (s.heap.push o).push { cls := .type "enumerate", data := .fields #[.none, .bool false, .ref s.heap.objs.size, rawInt 0, .none, .none] } }) :=
  .of_wp fun prog w A R s h => by
    obtain ⟨hp, g, d, tk, os⟩ := s; obtain ⟨h1, h⟩ := h
    have hsub := sub_enumerate
    have q1 : ∀ {A' : Around} {E : Value → Shared → Prop} {Q : Value → Shared → Prop}, Q (.ref hp.objs.size) ⟨hp.push o, g, d, tk, os⟩ → wpAny (model prog w) A' (pyIter v) Q E ⟨hp, g, d, tk, os⟩ :=
      fun q => B.iter prog w _ _ ⟨hp, g, d, tk, os⟩ _ h1 q
    wp_walk using q1
    refine wpAny_stack_any fun st => wpAny_pure ?_
    split
    · rename_i c _ _ _ _ _
      cases (c == Value.type "enumerate")
      · wp_walk using q1
        exact ⟨_, rfl, h⟩
      · wp_walk using q1
        exact ⟨_, rfl, h⟩
    · wp_walk using q1
      exact ⟨_, rfl, h⟩
section
variable {prog : Program} {w : World} {A : Around} {E : Value → Shared → Prop} {s : Shared}
theorem enum_begins1 {v : Value} {o : Obj} {H : Heap → Prop} {Q : Value → Shared → Prop} (B : Begins v o H) (h1 : H s.heap)
    (h : ∀ h', IsEnum h' (s.heap.objs.size + 1) s.heap.objs.size 0 .none → h'.get? s.heap.objs.size = some o → h'.objs.size = s.heap.objs.size + 2 →
      (∀ b o, s.heap.get? b = some o → h'.get? b = some o) → Q (.ref (s.heap.objs.size + 1)) { s with heap := h' }) :
    wpAny (model prog w) A (call (.type "enumerate") [v]) Q E s := by
  refine callType_new F.called_enumerate (by decide) (F.typeCall_enumerate_1 _) (F.newCall_enumerate_1 _) (fun obj => F.args_object_init_2 obj _) F.entry_enumerate_new
    (meets_enumerate_newB1 B) ⟨h1, ?_⟩
  have hz : (s.heap.push o).objs.size = s.heap.objs.size + 1 := Heap.size_push ..
  show _ ∧ _
  rw [hz]
  have he : IsEnum ((s.heap.push o).push { cls := .type "enumerate", data := .fields #[.none, .bool false, .ref s.heap.objs.size, rawInt 0, .none, .none] }) (s.heap.objs.size + 1) s.heap.objs.size 0 .none := by
    have := Heap.get?_push_size (s.heap.push o) (o := { cls := .type "enumerate", data := .fields #[.none, .bool false, .ref s.heap.objs.size, rawInt 0, .none, .none] }) rfl
    rw [hz] at this; exact this
  refine ⟨⟨_, he, rfl⟩, h _ he (Heap.get?_push_of_some _ (Heap.get?_push_size _ B.free)) (by rw [Heap.size_push, hz]) fun b o x => Heap.get?_push_of_some _ (Heap.get?_push_of_some _ x)⟩
end
theorem pi_enumT {X : Cx} {e : Expr} {ta : TA} {p pos tpos : Pos} {elts : List Expr} {kk : Nat} (hg : Gl X "enumerate") (hm : X.mg "enumerate" = none) (ha : PA X [e] ta) (hs : starEach [e] X.env = [(false, eval e X.env)] := by rfl) :
    PI X (.Tuple elts kk tpos) (.Call (.Name "enumerate" p) [e] [] pos) (iEnumT X.K ta) := by
  refine ⟨fun pins s σ H R I h => ?_⟩
  refine Call_ (ld_blt I hg hm boot_enumerate (PyProof.Rows.callWith_type1 (thn (ha.run pos pins s σ H _ I h) fun us s1 ⟨vs, H1, I1, r1, q1⟩ => ?_) hs rfl))
  obtain ⟨a, xs, ex, hq, q⟩ := q1
  subst ex
  cases r1 with
  | cons r rr =>
    cases rr
    cases r
    obtain ⟨its, rv, p', hz⟩ := I1.tuple hq
    have hal : a < s1.heap.objs.size := by obtain ⟨o, ho, _⟩ := id p'; exact Heap.lt_size ho
    refine enum_begins1 (begins_tuple a its.toArray) (show s1.heap.IsTuple a its.toArray from p') fun h' he hit hsz hk => wpAny_pyIter_enum he ?_
    have I2 : Inv X pins σ H1 { s1 with heap := h' } := I1.kept (t' := s1.toks) hk
    refine ⟨s1.heap.objs.size + 1, [s1.heap.objs.size + 1, s1.heap.objs.size], _, _, H1, rfl, I2, turn_enumT a (s1.heap.objs.size + 1) s1.heap.objs.size (Nat.ne_of_lt hal) (Nat.ne_of_gt (Nat.lt_succ_of_lt hal)),
      ⟨⟨.none, he⟩, ⟨_, hit, rfl, rfl⟩, Nat.succ_ne_self _⟩, fun b hb => ?_, q⟩
    have e' : b = s1.heap.objs.size + 1 ∨ b = s1.heap.objs.size := by simpa using hb
    have hle : s1.heap.objs.size ≤ b := by
      rcases e' with z | z
      · rw [z]; exact Nat.le_add_right _ _
      · rw [z]; exact Nat.le_refl _
    exact I1.fpOk hle (I1.hok.fresh hle)
theorem walk_enumT {K : PySem.W.Frag} {a : Addr} {xs : List V} : Walk (IteT K a) xs.length (fun H => SqT K H a xs) (YPair (fun i => some (.int (i : Nat))) (fun i => xs[i]?)) := by
  refine ⟨fun i _ hi q => ⟨xs, xs[i], q, by simp [hi]⟩, fun _ q => ⟨xs, q, Nat.le_refl _⟩, fun i H v H' _ q y => ?_⟩
  obtain ⟨T, x, h1, h2, h3, h4⟩ := y
  exact ⟨T, .int (i : Nat), x, h1, h2, h3, rfl, h4 xs q⟩
end DL

set_option Elab.async false
set_option maxRecDepth 100000
namespace DL
open PySem L2
def top (i : Nat) : Stmt := PySem.Challenge.pw_drawerlocks_k36_whole_rests.main.body.getD i (.Pass ⟨0, 0, 0, 0⟩)
abbrev sIsInt : Stmt := top 11
abbrev sIsCount : Stmt := top 12
abbrev sIsDrawer : Stmt := top 13
abbrev sIsBar : Stmt := top 14
abbrev s_first_standing : Stmt := top 15
abbrev s_hinders : Stmt := top 16
abbrev s_moved : Stmt := top 17
abbrev sInit : Stmt := inClass (top 19) 0
abbrev sDrawers : Stmt := inClass (top 19) 1
abbrev sBars : Stmt := inClass (top 19) 2
abbrev s_free_drawers : Stmt := top 20
abbrev s_goes : Stmt := top 21
abbrev s_bars_against : Stmt := top 22
abbrev sCheckDrawers : Stmt := top 23
abbrev sCheckBars : Stmt := top 24
abbrev s_check_cabinet : Stmt := top 25
abbrev s_check_few_drawers : Stmt := top 26
abbrev s_check_number : Stmt := top 27
abbrev s_first_rows : Stmt := top 29
abbrev s_reached_pulls : Stmt := top 30
abbrev s_rows_from : Stmt := top 31
abbrev s_count_rest : Stmt := top 36
abbrev s_one_pull_ways : Stmt := top 37
abbrev s_doubled : Stmt := top 38
abbrev s_dot : Stmt := top 39
abbrev s_count_rows : Stmt := top 42
abbrev s_counts_by_end : Stmt := top 43
abbrev s_counts_behind : Stmt := top 44
abbrev sTaken : Stmt := top 46
abbrev sParts : Stmt := top 47
abbrev sMade : Stmt := top 48
abbrev s__law_hold : Stmt := top 49
abbrev s__law_free : Stmt := top 50
abbrev s__law_moved : Stmt := top 51
abbrev s__law_all : Stmt := top 52
abbrev s__law_times : Stmt := top 53
abbrev s__law_power : Stmt := top 54
abbrev s_law : Stmt := top 55
end DL

set_option Elab.async false
set_option maxRecDepth 100000
namespace DL
open PySem L2
/-! ### the facts of the top -/
structure Bt (mg : Str → Option Value) : Prop where
  isinstance : mg "isinstance" = none
  int : mg "int" = none
  bool : mg "bool" = none
  tuple : mg "tuple" = none
  len : mg "len" = none
  enumerate : mg "enumerate" = none
  range : mg "range" = none
  sorted : mg "sorted" = none
/-! ### is_integer -/
structure spIsInt (K : PySem.W.Frag) (vs : List V) (H : Hp) (Q : VK) (_ : XK) : Prop where
  h : ∃ (v : V) (t : Value) (b1 b2 : Bool), vs = [v] ∧ TyX K H v t ∧ PySem.W.kitOne K t (.type "int") = some b1 ∧ PySem.W.kitOne K t (.type "bool") = some b2 ∧ Q (.bl (b1 && !b2)) H
section
variable {P : Program} {w : World} {K : PySem.W.Frag} {mg : Str → Option Value} {base : Heap}
theorem scIsInt : FnScope ["value"] ["value"] (defScope sIsInt) := ⟨rfl, rfl, rfl, by decide +kernel, rfl, by decide +kernel, by decide +kernel⟩
theorem ok_isInt {f : Addr} {fd : FuncData} (F : Fun K "is_integer" "is_integer" sIsInt f fd) (T : Bt mg) : FnOk P w K mg base CX0 1 f fd ["value"] (spIsInt K) := by
  refine F.ok scIsInt (fun vs H Q E h => ?_) (fun cdv A outer s H vs Q E hr h => ?_)
  · obtain ⟨v, t, b1, b2, rfl, _⟩ := h.h
    rfl
  · obtain ⟨v, t, b1, b2, rfl, ty, k1, k2, k⟩ := h.h
    refine ⟨_, pss_one (ps_ret (pe_and (pe_callB call_isi (by rfl) T.isinstance (by decide +kernel) (pa_cons (pv 0) (pa_cons (pe_bltn (v := .ty "int") (by rfl) T.int (by decide +kernel) rfl) pa_nil)))
      (pe_one (pe_not (pe_callB call_isi (by rfl) T.isinstance (by decide +kernel) (pa_cons (pv 0) (pa_cons (pe_bltn (v := .ty "bool") (by rfl) T.bool (by decide +kernel) rfl) pa_nil))))))), ?_⟩
    refine ⟨_, rfl, _, _, t, _, b1, rfl, .ty "int", ty, k1, b1, rfl, ?_⟩
    cases b1 with
    | false => exact iteF k
    | true => exact iteT ⟨_, rfl, _, _, t, _, b2, rfl, .ty "bool", ty, k2, b2, rfl, k⟩
/-! ### is_drawer_count(value), is_drawer(drawers, value) -/
/-- an int as value: whether it is one; any other known thing: False -/
structure spIsCount (K : PySem.W.Frag) (vs : List V) (H : Hp) (Q : VK) (_ : XK) : Prop where
  h : (∃ n : Int, vs = [.int n] ∧ Q (.bl (decide (1 ≤ n) && decide (n ≤ 7))) H) ∨
  ∃ (v : V) (t : Value) (b1 b2 : Bool), vs = [v] ∧ TyX K H v t ∧ PySem.W.kitOne K t (.type "int") = some b1 ∧ PySem.W.kitOne K t (.type "bool") = some b2 ∧ (b1 && !b2) = false ∧ Q (.bl false) H
theorem scIsCount : FnScope ["value"] ["value"] (defScope sIsCount) := ⟨rfl, rfl, rfl, by decide +kernel, rfl, by decide +kernel, by decide +kernel⟩
theorem ok_isCount {f f1 : Addr} {fd fd1 : FuncData} (F : Fun K "is_drawer_count" "is_drawer_count" sIsCount f fd) (_T : Bt mg) (G : FnOk P w K mg base CX0 1 f1 fd1 ["value"] (spIsInt K)) (g1 : mg "is_integer" = some (.ref f1)) (k1 : PySem.W.keepIn K (.ref f1) = true) (b1 : Binds K fd1 ["value"] [])
    (gM : ∃ t, mg "MOST_DRAWERS" = some (.int 7 t)) : FnOk P w K mg base CX0 2 f fd ["value"] (spIsCount K) := by
  refine F.ok scIsCount (fun vs H Q E h => ?_) (fun cdv A outer s H vs Q E hr h => ?_)
  · rcases h.h with ⟨n, rfl, _⟩ | ⟨v, t, b1, b2, rfl, _⟩ <;> rfl
  · obtain ⟨tM, gM⟩ := gM
    refine ⟨_, pss_one (ps_ret (pe_and (pe_call G (hr.mono (by decide)) rfl g1 k1 b1 .nil pass0 (pa_cons (pv 0) pa_nil)) (pe_one (pe_chain op_le op_le pe_int (pv 0) (pe_glob (v := .int 7) rfl gM ⟨_, rfl⟩))))), ?_⟩
    rcases h.h with ⟨n, rfl, k⟩ | ⟨v, t, c1, c2, rfl, ty, e1, e2, e3, k⟩
    · refine ⟨_, rfl, ⟨.int n, .type "int", true, false, rfl, .base (.int n), kit_ty (by decide +kernel), kit_ty (by decide +kernel), true, rfl, iteT ?_⟩⟩
      refine ⟨_, rfl, _, _, rfl, rfl, _, rfl, ?_⟩
      by_cases h1 : 1 ≤ n
      · rw [decide_eq_true h1] at k ⊢
        exact iteT ⟨_, _, rfl, rfl, k⟩
      · rw [decide_eq_false h1] at k ⊢
        exact iteF k
    · refine ⟨_, rfl, ⟨v, t, c1, c2, rfl, ty, e1, e2, _, rfl, ?_⟩⟩
      rw [e3]
      exact iteF k
structure spIsDrawer (K : PySem.W.Frag) (vs : List V) (H : Hp) (Q : VK) (_ : XK) : Prop where
  h : ∃ n : Int, (∃ i : Int, vs = [.int n, .int i] ∧ Q (.bl (decide (0 ≤ i) && decide (i < n))) H) ∨
  ∃ (v : V) (t : Value) (b1 b2 : Bool), vs = [.int n, v] ∧ TyX K H v t ∧ PySem.W.kitOne K t (.type "int") = some b1 ∧ PySem.W.kitOne K t (.type "bool") = some b2 ∧ (b1 && !b2) = false ∧ Q (.bl false) H
theorem scIsDrawer : FnScope ["drawers", "value"] ["drawers", "value"] (defScope sIsDrawer) := ⟨rfl, rfl, rfl, by decide +kernel, rfl, by decide +kernel, by decide +kernel⟩
theorem ok_isDrawer {f f1 : Addr} {fd fd1 : FuncData} (F : Fun K "is_drawer" "is_drawer" sIsDrawer f fd) (_T : Bt mg) (G : FnOk P w K mg base CX0 1 f1 fd1 ["value"] (spIsInt K)) (g1 : mg "is_integer" = some (.ref f1)) (k1 : PySem.W.keepIn K (.ref f1) = true) (b1 : Binds K fd1 ["value"] []) :
    FnOk P w K mg base CX0 2 f fd ["drawers", "value"] (spIsDrawer K) := by
  refine F.ok scIsDrawer (fun vs H Q E h => ?_) (fun cdv A outer s H vs Q E hr h => ?_)
  · rcases h.h with ⟨n, ⟨i, rfl, _⟩ | ⟨v, t, b1, b2, rfl, _⟩⟩ <;> rfl
  · refine ⟨_, pss_one (ps_ret (pe_and (pe_call G (hr.mono (by decide)) rfl g1 k1 b1 .nil pass0 (pa_cons (pv 1) pa_nil)) (pe_one (pe_chain op_le op_lt pe_int (pv 1) (pv 0))))), ?_⟩
    rcases h.h with ⟨n, ⟨i, rfl, k⟩ | ⟨v, t, c1, c2, rfl, ty, e1, e2, e3, k⟩⟩
    · refine ⟨_, rfl, ⟨.int i, .type "int", true, false, rfl, .base (.int i), kit_ty (by decide +kernel), kit_ty (by decide +kernel), true, rfl, iteT ?_⟩⟩
      refine ⟨_, rfl, _, _, rfl, rfl, _, rfl, ?_⟩
      by_cases h1 : 0 ≤ i
      · rw [decide_eq_true h1] at k ⊢
        exact iteT ⟨_, rfl, _, _, rfl, rfl, k⟩
      · rw [decide_eq_false h1] at k ⊢
        exact iteF k
    · refine ⟨_, rfl, ⟨v, t, c1, c2, rfl, ty, e1, e2, _, rfl, ?_⟩⟩
      rw [e3]
      exact iteF k
end
end DL

set_option Elab.async false
set_option maxRecDepth 100000
namespace DL
open PySem L2
/-! ### is_bar -/
def scV : V → Bool
  | .non => true | .bl _ => true | .int _ => true | .str _ => true | _ => false
def isD (n : Int) : V → Bool
  | .int i => decide (0 ≤ i) && decide (i < n)
  | _ => false
def inW : V → Bool
  | .str z => decide (z = "open") || decide (z = "shut")
  | _ => false
def barB (n : Int) (x0 x1 x2 x3 : V) : Bool := isD n x0 && (isD n x2 && (!decide (x0 = x2) && (inW x1 && inW x3)))
theorem inW_in (x : V) (h : scV x = true) : inV x [.str "open", .str "shut"] = inW x ∧ flatV x = true := by
  have z1 : ∀ z : Str, ((("open" : Str) == z) || ((("shut" : Str) == z) || false)) = (decide (z = "open") || decide (z = "shut")) := fun z => by
    rw [beq_dec, beq_dec, Bool.or_false]
    congr 1
    · exact decide_eq_decide.mpr ⟨Eq.symm, Eq.symm⟩
    · exact decide_eq_decide.mpr ⟨Eq.symm, Eq.symm⟩
  cases x with
  | str z => exact ⟨z1 z, rfl⟩
  | non => exact ⟨rfl, rfl⟩
  | bl b => exact ⟨rfl, rfl⟩
  | int i => exact ⟨rfl, rfl⟩
  | _ => cases h
theorem spIsDrawer_sc {K : PySem.W.Frag} {n : Int} {x : V} {H : Hp} {Q : VK} {E : XK} (hx : scV x = true) (k : Q (.bl (isD n x)) H) : spIsDrawer K [.int n, x] H Q E := by
  cases x with
  | int i => exact ⟨⟨n, .inl ⟨i, rfl, k⟩⟩⟩
  | non => exact ⟨⟨n, .inr ⟨.non, .type "NoneType", false, false, rfl, .base .non, kit_ty (by decide +kernel), kit_ty (by decide +kernel), rfl, k⟩⟩⟩
  | bl b => exact ⟨⟨n, .inr ⟨.bl b, .type "bool", true, true, rfl, .base (.bl b), kit_ty (by decide +kernel), kit_ty (by decide +kernel), rfl, k⟩⟩⟩
  | str z => exact ⟨⟨n, .inr ⟨.str z, .type "str", false, false, rfl, .base (.str z), kit_ty (by decide +kernel), kit_ty (by decide +kernel), rfl, k⟩⟩⟩
  | _ => cases hx
theorem tyT {K : PySem.W.Frag} {H : Hp} {a : Addr} {xs : List V} (h : SqT K H a xs) : TyX K H (.ref a) (.type "tuple") := by
  rcases h with (h | ⟨o, h⟩) | ⟨o, its, n, h1, h2, _⟩
  · exact .base (.tup h)
  · exact .fTuple h
  · exact .kTuple h1 h2
structure spIsBar (K : PySem.W.Frag) (vs : List V) (H : Hp) (Q : VK) (_ : XK) : Prop where
  h : ∃ n : Int, (∃ (v : V) (t : Value), vs = [.int n, v] ∧ TyX K H v t ∧ PySem.W.kitOne K t (.type "tuple") = some false ∧ Q (.bl false) H) ∨
  (∃ (a : Addr) (xs : List V), vs = [.int n, .ref a] ∧ SqT K H a xs ∧ xs.length ≠ 4 ∧ Q (.bl false) H) ∨
  ∃ (a : Addr) (x0 x1 x2 x3 : V), vs = [.int n, .ref a] ∧ SqT K H a [x0, x1, x2, x3] ∧ scV x0 = true ∧ scV x1 = true ∧ scV x2 = true ∧ scV x3 = true ∧ Q (.bl (barB n x0 x1 x2 x3)) H
section
variable {P : Program} {w : World} {K : PySem.W.Frag} {mg : Str → Option Value} {base : Heap}
theorem scIsBar : FnScope ["drawers", "value", "drawer", "way", "other", "stand"] ["drawers", "value"] (defScope sIsBar) := ⟨rfl, rfl, rfl, by decide +kernel, rfl, by decide +kernel, by decide +kernel⟩
theorem ok_isBar {f f1 : Addr} {fd fd1 : FuncData} (F : Fun K "is_bar" "is_bar" sIsBar f fd) (T : Bt mg) (G : FnOk P w K mg base CX0 2 f1 fd1 ["drawers", "value"] (spIsDrawer K)) (g1 : mg "is_drawer" = some (.ref f1)) (k1 : PySem.W.keepIn K (.ref f1) = true) (b1 : Binds K fd1 ["drawers", "value"] [])
    (gW : ∃ aW, mg "WORDS" = some (.ref aW) ∧ ∀ H, SqT K H aW [.str "open", .str "shut"]) : FnOk P w K mg base CX0 3 f fd ["drawers", "value"] (spIsBar K) := by
  refine F.ok scIsBar (fun vs H Q E h => ?_) (fun cdv A outer s H vs Q E hr h => ?_)
  · rcases h.h with ⟨n, ⟨v, t, rfl, _⟩ | ⟨a, xs, rfl, _⟩ | ⟨a, x0, x1, x2, x3, rfl, _⟩⟩ <;> rfl
  · obtain ⟨aW, gW, hW⟩ := gW
    refine ⟨_, pss_cons (ps_if (PW.pt (pw_or (pt_not (pt_val (pe_callB call_isi (by rfl) T.isinstance (by decide +kernel) (pa_cons (pv 1) (pa_cons (pe_bltn (v := .ty "tuple") (by rfl) T.tuple (by decide +kernel) rfl) pa_nil)))))
        (pw_or1 (pt_cmpR op_ne (pe_callB call_len_seq (by rfl) T.len PySem.boot_len (pa_cons (pv 1) pa_nil)) pe_int (nomark _))))) (pss_one (ps_ret pe_bl)) pss_nil)
      (pss_cons (ps_asg (pv 1) (pg_tup (by rfl) (pgs_cons (pg_name (i := 2) scIsBar.nd rfl (.inl rfl)) (pgs_cons (pg_name (i := 3) scIsBar.nd rfl (.inl rfl)) (pgs_cons (pg_name (i := 4) scIsBar.nd rfl (.inl rfl)) (pgs_cons (pg_name (i := 5) scIsBar.nd rfl (.inl rfl)) pgs_nil))))))
      (pss_cons (ps_if (PW.pt (pw_or (pt_not (pt_val (pe_call G (hr.mono (by decide)) rfl g1 k1 b1 .nil pass0 (pa_cons (pv 0) (pa_cons (pv 2) pa_nil))))) (pw_or1 (pt_not (pt_val (pe_call G (hr.mono (by decide)) rfl g1 k1 b1 .nil pass0 (pa_cons (pv 0) (pa_cons (pv 4) pa_nil)))))))) (pss_one (ps_ret pe_bl)) pss_nil)
      (pss_one (ps_ret (pe_and (pe_cmpR op_ne (pv 2) (pv 4) (nomark _)) (pe_and (pe_cmpR op_in_seq (pv 3) (pe_glob (v := .ref aW) rfl gW rfl) (by rfl)) (pe_one (pe_cmpR op_in_seq (pv 5) (pe_glob (v := .ref aW) rfl gW rfl) (by rfl))))))))), ?_⟩
    rcases h.h with ⟨n, ⟨v, t, rfl, ty, e, k⟩ | ⟨a, xs, rfl, hq, hl, k⟩ | ⟨a, x0, x1, x2, x3, rfl, hq, c0, c1, c2, c3, k⟩⟩
    · exact ⟨_, rfl, _, _, t, _, false, rfl, .ty "tuple", ty, e, _, rfl, iteT (iteT k)⟩
    · refine ⟨_, rfl, _, _, _, _, true, rfl, .ty "tuple", tyT hq, kit_ty (by decide +kernel), _, rfl, iteF ?_⟩
      refine ⟨_, rfl, a, xs, rfl, .inr hq, rfl, _, rfl, ?_⟩
      refine ite2 (fun _ => k) (fun z => ?_)
      exact absurd (show (.int (xs.length : Int) : V) = .int 4 by simpa using z) (fun q => hl (by injection q with q; omega))
    · refine ⟨_, rfl, _, _, _, _, true, rfl, .ty "tuple", tyT hq, kit_ty (by decide +kernel), _, rfl, iteF ?_⟩
      refine ⟨_, rfl, a, _, rfl, .inr hq, rfl, _, rfl, iteF ?_⟩
      refine ⟨_, rfl, a, _, rfl, hq, rfl, x0, _, rfl, x1, _, rfl, x2, _, rfl, x3, _, rfl, rfl, ?_⟩
      refine ⟨_, rfl, _, rfl, ?_⟩
      refine spIsDrawer_sc c0 ⟨_, rfl, ?_⟩
      unfold barB at k
      cases d0 : isD n x0 with
      | false => rw [d0] at k; exact iteT (iteT k)
      | true =>
        rw [d0] at k
        refine iteF ⟨_, rfl, _, rfl, ?_⟩
        refine spIsDrawer_sc c2 ⟨_, rfl, ?_⟩
        cases d2 : isD n x2 with
        | false => rw [d2] at k; exact iteT k
        | true =>
          rw [d2] at k
          refine iteF ?_
          obtain ⟨i0, rfl⟩ : ∃ i, x0 = .int i := by cases x0 <;> first | exact ⟨_, rfl⟩ | cases d0
          obtain ⟨i2, rfl⟩ : ∃ i, x2 = .int i := by cases x2 <;> first | exact ⟨_, rfl⟩ | cases d2
          refine ⟨_, rfl, _, rfl, rfl, _, rfl, ?_⟩
          have k' : Q (.bl (!decide ((.int i0 : V) = .int i2) && (inW x1 && inW x3))) H := k
          cases e : decide ((.int i0 : V) = .int i2) with
          | true => rw [e] at k'; exact iteF k'
          | false =>
            rw [e] at k'
            refine iteT ⟨_, rfl, aW, _, rfl, .inr (hW H), (inW_in x1 c1).2, rfl, _, rfl, ?_⟩
            show if inV x1 _ = true then _ else _
            rw [(inW_in x1 c1).1]
            have k'' : Q (.bl (inW x1 && inW x3)) H := k'
            cases e1 : inW x1 with
            | false => rw [e1] at k''; exact iteF k''
            | true =>
              rw [e1] at k''
              refine iteT ⟨_, rfl, aW, _, rfl, .inr (hW H), (inW_in x3 c3).2, rfl, ?_⟩
              show Q (.bl (inV x3 _)) H
              rw [(inW_in x3 c3).1]
              exact k''
end
end DL

set_option Elab.async false
set_option maxRecDepth 100000
namespace DL
open PySem L2
/-! ### bars of the heap -/
structure BarsAt (H : Hp) (t : Addr) (ks : List (Addr × Bar)) : Prop where
  tu : H t = some (.tup (ks.map fun k => V.ref k.1))
  el : ∀ k ∈ ks, H k.1 = some (.tup k.2.vs)
theorem BarsAt.same {H H' : Hp} {t : Addr} {ks : List (Addr × Bar)} (B : BarsAt H t ks) (s : Same H H') : BarsAt H' t ks := ⟨s _ _ B.tu, fun k hk => s _ _ (B.el k hk)⟩
def Bar.ok (n : Int) (b : Bar) : Prop := 0 ≤ b.d ∧ b.d < n ∧ 0 ≤ b.o ∧ b.o < n ∧ b.d ≠ b.o
theorem Bar.ok.low {n : Int} {b : Bar} (h : b.ok n) (hn : n ≤ 7) : b.low := by
  obtain ⟨h1, h2, h3, h4, _⟩ := h
  exact ⟨h1, by omega, h3, by omega⟩
structure OkBars (n : Int) (bs : List Bar) : Prop where
  ok : ∀ b ∈ bs, b.ok n
  asc : bs.Pairwise fun x y => x.code < y.code
theorem inW_wd (b : Bool) : inW (.str (wd b)) = true := by revert b; decide +kernel
theorem barB_ok {n : Int} {b : Bar} (h : b.ok n) : barB n (.int b.d) (.str (wd b.w)) (.int b.o) (.str (wd b.t)) = true := by
  obtain ⟨h1, h2, h3, h4, h5⟩ := h
  unfold barB
  rw [inW_wd, inW_wd]
  show ((decide (0 ≤ b.d) && decide (b.d < n)) && ((decide (0 ≤ b.o) && decide (b.o < n)) && (!decide ((.int b.d : V) = .int b.o) && true))) = true
  have e : decide ((.int b.d : V) = .int b.o) = false := decide_eq_false fun q => h5 (by injection q)
  rw [decide_eq_true h1, decide_eq_true h2, decide_eq_true h3, decide_eq_true h4, e]
  rfl
theorem spIsBar_ok {K : PySem.W.Frag} {n : Int} {a : Addr} {b : Bar} {H : Hp} {Q : VK} {E : XK} (h : b.ok n) (ha : SqT K H a b.vs) (k : Q (.bl true) H) : spIsBar K [.int n, .ref a] H Q E :=
  ⟨⟨n, .inr (.inr ⟨a, _, _, _, _, rfl, ha, rfl, rfl, rfl, rfl, by rw [barB_ok h]; exact k⟩)⟩⟩
theorem SqT.of' {K : PySem.W.Frag} {H : Hp} {a : Addr} {xs : List V} (h : H a = some (.tup xs)) : SqT K H a xs := .inl (.inl h)
theorem same_upd {H : Hp} {p : Addr} {o : HO} (h : H p = none) : Same H (upd H p o) := fun b u e => by rw [upd_ne (ne_of_none e h)]; exact e
theorem at_prev {α : Type} {xs : List α} {i : Nat} {v : α} (h0 : 0 < i) (h : xs[i - 1]? = some v) : atI xs ((i : Int) - 1) = some v := by
  have e : (i : Int) - 1 = ((i - 1 : Nat) : Int) := by omega
  rw [e]
  exact atI_nat h
theorem pw_prev {bs : List Bar} (h : bs.Pairwise fun x y => x.code < y.code) {i : Nat} (h0 : 0 < i) {x y : Bar} (hx : bs[i - 1]? = some x) (hy : bs[i]? = some y) : x.code < y.code := by
  obtain ⟨l1, e1⟩ := List.getElem?_eq_some_iff.mp hx
  obtain ⟨l2, e2⟩ := List.getElem?_eq_some_iff.mp hy
  have := List.pairwise_iff_getElem.mp h (i - 1) i l1 l2 (by omega)
  rw [e1, e2] at this
  exact this
theorem not_leq {n : Int} {x y : Bar} (hn : n ≤ 7) (hx : x.ok n) (hy : y.ok n) (h : x.code < y.code) : y.leq x = false := by
  rw [Bar.leq_code (hy.low hn) (hx.low hn)]
  exact decide_eq_false (by omega)
/-! ### check_drawers, check_bars, __init__ of what is right -/
structure spCheckDrawers (vs : List V) (H : Hp) (Q : VK) (_ : XK) : Prop where
  h : ∃ n : Int, vs = [.int n] ∧ 1 ≤ n ∧ n ≤ 7 ∧ Q .non H
structure spCheckBars (vs : List V) (H : Hp) (Q : VK) (_ : XK) : Prop where
  h : ∃ (n : Int) (t : Addr) (ks : List (Addr × Bar)), vs = [.int n, .ref t] ∧ n ≤ 7 ∧ BarsAt H t ks ∧ OkBars n (ks.map (·.2)) ∧ ∀ H', Same H H' → Q .non H'
theorem kd_ : ¬ (("_drawers" : Str) = "_bars") := by decide +kernel
def cfl (n : Int) (t : Addr) : List (Str × V) := putF "_bars" (.ref t) (putF "_drawers" (.int n) [])
theorem cfl_d (n : Int) (t : Addr) : (cfl n t).lookup ("_drawers" : Str) = some (.int n) := by
  unfold cfl
  rw [lookup_putF, if_neg kd_, lookup_putF, if_pos rfl]
theorem cfl_b (n : Int) (t : Addr) : (cfl n t).lookup ("_bars" : Str) = some (.ref t) := by
  unfold cfl
  rw [lookup_putF, if_pos rfl]
/-- a Cabinet stands at c -/
def CabAt (C : Addr) (H : Hp) (c : Addr) (n : Int) (t : Addr) : Prop := ∃ dx, H c = some (.ins C dx (cfl n t))
structure spInit (C : Addr) (vs : List V) (H : Hp) (Q : VK) (_ : XK) : Prop where
  h : ∃ (p dx : Addr) (n : Int) (t : Addr) (ks : List (Addr × Bar)), vs = [.ref p, .int n, .ref t] ∧ H p = some (.ins C dx []) ∧ 1 ≤ n ∧ n ≤ 7 ∧ BarsAt H t ks ∧ OkBars n (ks.map (·.2)) ∧
    ∀ H', H' p = some (.ins C dx (cfl n t)) → (∀ b o, b ≠ p → H b = some o → H' b = some o) → Q .non H'
/-- the class -/
structure CabT (K : PySem.W.Frag) (mg : Str → Option Value) (C : Addr) : Prop where
  cl : Cls K C
  nD : NoAttr K C "_drawers"
  nB : NoAttr K C "_bars"
  mgC : mg "Cabinet" = some (.ref C)
section
variable {P : Program} {w : World} {K : PySem.W.Frag} {mg : Str → Option Value} {base : Heap}
theorem scCheckDrawers : FnScope ["drawers"] ["drawers"] (defScope sCheckDrawers) := ⟨rfl, rfl, rfl, by decide +kernel, rfl, by decide +kernel, by decide +kernel⟩
theorem ok_checkDrawers {f f1 : Addr} {fd fd1 : FuncData} (F : Fun K "check_drawers" "check_drawers" sCheckDrawers f fd) (G : FnOk P w K mg base CX0 2 f1 fd1 ["value"] (spIsCount K)) (g1 : mg "is_drawer_count" = some (.ref f1)) (k1 : PySem.W.keepIn K (.ref f1) = true) (b1 : Binds K fd1 ["value"] []) :
    FnOk P w K mg base CX0 3 f fd ["drawers"] spCheckDrawers := by
  refine F.ok scCheckDrawers (fun vs H Q E h => ?_) (fun cdv A outer s H vs Q E hr h => ?_)
  · obtain ⟨n, rfl, _⟩ := h.h
    rfl
  · obtain ⟨n, rfl, h1, h2, k⟩ := h.h
    refine ⟨_, pss_one (ps_if (pt_not (pt_val (pe_call G (hr.mono (by decide)) rfl g1 k1 b1 .nil pass0 (pa_cons (pv 0) pa_nil)))) (pss_one ps_never) pss_nil), ?_⟩
    refine ⟨_, rfl, ⟨.inl ⟨n, rfl, _, rfl, ?_⟩⟩⟩
    rw [decide_eq_true h1, decide_eq_true h2]
    exact iteF k
theorem scCheckBars : FnScope ["drawers", "bars", "index", "bar"] ["drawers", "bars"] (defScope sCheckBars) := ⟨rfl, rfl, rfl, by decide +kernel, rfl, by decide +kernel, by decide +kernel⟩
theorem ok_checkBars {f f1 : Addr} {fd fd1 : FuncData} (F : Fun K "check_bars" "check_bars" sCheckBars f fd) (T : Bt mg) (G : FnOk P w K mg base CX0 3 f1 fd1 ["drawers", "value"] (spIsBar K)) (g1 : mg "is_bar" = some (.ref f1)) (k1 : PySem.W.keepIn K (.ref f1) = true) (b1 : Binds K fd1 ["drawers", "value"] []) :
    FnOk P w K mg base CX0 4 f fd ["drawers", "bars"] spCheckBars := by
  refine F.ok scCheckBars (fun vs H Q E h => ?_) (fun cdv A outer s H vs Q E hr h => ?_)
  · obtain ⟨n, t, ks, rfl, _⟩ := h.h
    rfl
  · obtain ⟨n, t, ks, rfl, hn, B, O, k⟩ := h.h
    have hu : _ < cLine := hr.units0
    refine ⟨_, pss_cons (ps_if (pt_not (pt_val (pe_callB call_isi (by rfl) T.isinstance (by decide +kernel) (pa_cons (pv 1) (pa_cons (pe_bltn (v := .ty "tuple") (by rfl) T.tuple (by decide +kernel) rfl) pa_nil))))) (pss_one ps_never) pss_nil)
      (pss_one (ps_for PassesOwn.never rfl (pi_enumT (by rfl) T.enumerate (pa_cons (pv 1) pa_nil)) (pg_tup (by rfl) (pgs_cons (pg_name (i := 2) scCheckBars.nd rfl (.inl rfl)) (pgs_cons (pg_name (i := 3) scCheckBars.nd rfl (.inl rfl)) pgs_nil)))
        (pss_cons (ps_if (pt_not (pt_val (pe_call G (hr.mono (by decide)) rfl g1 k1 b1 .nil pass0 (pa_cons (pv 0) (pa_cons (pv 3) pa_nil))))) (pss_one ps_never) pss_nil)
        (pss_one (ps_if (PW.pt (pw_and (pt_cmpR op_gt (pv 2) pe_int (nomark _)) (pw_and1 (pt_cmpR (op_leB hu) (pv 3) (pe_ix ix_tup (pv 1) (pe_op op_sub (pv 2) pe_int) (fun _ _ => rfl)) (nomark _))))) (pss_one ps_never) pss_nil))))), ?_⟩
    refine ⟨_, rfl, _, _, _, _, true, rfl, .ty "tuple", tyT (SqT.of' B.tu), kit_ty (by decide +kernel), _, rfl, iteF ?_⟩
    refine ⟨_, rfl, t, _, rfl, SqT.of' B.tu, ?_⟩
    refine for_it walk_enumT (fun i σ H' => ∃ v2 v3, σ = [some (.int n), some (.ref t), v2, v3] ∧ Same H H') ⟨_, _, rfl, Same.refl H⟩ (fun i σ H' _ ⟨_, _, _, s1⟩ => SqT.of' (s1 _ _ B.tu)) ?_ ?_
    · rintro i x σ H1 H2 hi ⟨v2, v3, rfl, s1⟩ ⟨T, x1, x2, rfl, hT, rfl, e1, e2⟩
      have e1' : V.int (i : Nat) = x1 := Option.some.inj e1
      subst e1'
      have e2 : (ks.map fun k => V.ref k.1)[i]? = some x2 := e2
      rw [List.getElem?_map] at e2
      cases ek : ks[i]? with
      | none => rw [ek] at e2; cases e2
      | some kk =>
        rw [ek] at e2
        have e2' : V.ref kk.1 = x2 := Option.some.inj e2
        subst e2'
        have s2 : Same H (upd H1 T (.tup [.int (i : Nat), .ref kk.1])) := s1.trans (same_upd hT)
        have hm : kk ∈ ks := List.mem_of_getElem? ek
        have hok : kk.2.ok n := O.ok _ (List.mem_map.mpr ⟨kk, hm, rfl⟩)
        refine ⟨T, _, rfl, SqT.of' upd_same, rfl, _, _, rfl, _, _, rfl, rfl, ?_⟩
        refine ⟨_, rfl, _, rfl, spIsBar_ok hok (SqT.of' (s2 _ _ (B.el kk hm))) ⟨_, rfl, iteF ?_⟩⟩
        refine ⟨_, rfl, _, _, rfl, rfl, _, rfl, ?_⟩
        refine ite2 (fun z => ?_) (fun z => iteF ⟨_, _, rfl, s2⟩)
        have h0 : 0 < i := by have := of_decide_eq_true z; omega
        obtain ⟨kp, ep⟩ : ∃ kp, ks[i - 1]? = some kp := by
          have := (List.getElem?_eq_some_iff.mp ek).1
          exact ⟨ks[i - 1]'(by omega), List.getElem?_eq_getElem (by omega)⟩
        have hmp : kp ∈ ks := List.mem_of_getElem? ep
        have hokp : kp.2.ok n := O.ok _ (List.mem_map.mpr ⟨kp, hmp, rfl⟩)
        refine ⟨_, rfl, _, rfl, _, rfl, _, _, rfl, rfl, t, _, _, .ref kp.1, rfl, rfl, SqT.of' (s2 _ _ B.tu), at_prev h0 (by rw [List.getElem?_map, ep]; rfl), ?_⟩
        refine ⟨kk.1, kp.1, kk.2, kp.2, rfl, rfl, SqT.of' (s2 _ _ (B.el kk hm)), SqT.of' (s2 _ _ (B.el kp hmp)), _, rfl, ?_⟩
        have hlt : kp.2.code < kk.2.code := pw_prev O.asc h0 (by rw [List.getElem?_map, ep]; rfl) (by rw [List.getElem?_map, ek]; rfl)
        rw [not_leq hn hokp hok hlt]
        exact iteF ⟨_, _, rfl, s2⟩
    · rintro σ H' ⟨v2, v3, rfl, s1⟩
      exact k H' s1
theorem scInit : FnScope ["self", "drawers", "bars"] ["self", "drawers", "bars"] (defScope sInit) := ⟨rfl, rfl, rfl, by decide +kernel, rfl, by decide +kernel, by decide +kernel⟩
theorem ok_init {f f1 f2 C : Addr} {fd fd1 fd2 : FuncData} (F : Fun K "__init__" "Cabinet.__init__" sInit f fd) (T : CabT K mg C) (G1 : FnOk P w K mg base CX0 3 f1 fd1 ["drawers"] spCheckDrawers) (g1 : mg "check_drawers" = some (.ref f1)) (k1 : PySem.W.keepIn K (.ref f1) = true) (b1 : Binds K fd1 ["drawers"] [])
    (G2 : FnOk P w K mg base CX0 4 f2 fd2 ["drawers", "bars"] spCheckBars) (g2 : mg "check_bars" = some (.ref f2)) (k2 : PySem.W.keepIn K (.ref f2) = true) (b2 : Binds K fd2 ["drawers", "bars"] []) : FnOk P w K mg base CX0 5 f fd ["self", "drawers", "bars"] (spInit C) := by
  refine F.ok scInit (fun vs H Q E h => ?_) (fun cdv A outer s H vs Q E hr h => ?_)
  · obtain ⟨p, dx, n, t, ks, rfl, _⟩ := h.h
    rfl
  · obtain ⟨p, dx, n, t, ks, rfl, hp, h1, h7, B, O, k⟩ := h.h
    refine ⟨_, pss_cons (ps_expr (pe_call G1 (hr.mono (by decide)) rfl g1 k1 b1 .nil pass0 (pa_cons (pv 1) pa_nil))) (pss_cons (ps_expr (pe_call G2 (hr.mono (by decide)) rfl g2 k2 b2 .nil pass0 (pa_cons (pv 1) (pa_cons (pv 2) pa_nil))))
      (pss_cons (ps_fld (pv 0) (pv 1) rfl) (pss_one (ps_fld (pv 0) (pv 2) rfl)))), ?_⟩
    refine ⟨_, rfl, ⟨n, rfl, h1, h7, ?_⟩⟩
    refine ⟨_, rfl, _, rfl, ⟨n, t, ks, rfl, h7, B, O, fun H1 s1 => ?_⟩⟩
    refine ⟨_, rfl, _, rfl, p, C, dx, _, rfl, s1 _ _ hp, T.cl, T.nD, (by show 0 < 1000; decide), _, rfl, _, rfl, p, C, dx, _, rfl, upd_same, T.cl, T.nB, (by show 1 < 1000; decide), ?_⟩
    refine k _ upd_same fun b o hb e => ?_
    rw [upd_ne hb, upd_ne hb]
    exact s1 _ _ e
end
end DL

set_option Elab.async false
set_option maxRecDepth 100000
namespace DL
open PySem L2
/-! ### drawing: the row of draws stands at r, the script at sc -/
def But (r : Addr) (H H' : Hp) : Prop := ∀ b o, b ≠ r → H b = some o → H' b = some o
theorem But.refl (r : Addr) (H : Hp) : But r H H := fun _ _ _ h => h
theorem But.trans {r : Addr} {H H1 H2 : Hp} (a : But r H H1) (b : But r H1 H2) : But r H H2 := fun c o hc h => b c o hc (a c o hc h)
theorem sbut {r : Addr} {H H' : Hp} (s : Same H H') : But r H H' := fun c o _ h => s c o h
theorem but_upd {r : Addr} {H : Hp} {o : HO} : But r H (upd H r o) := fun c u hc h => by rw [upd_ne hc]; exact h
theorem But.seq {K : PySem.W.Frag} {r : Addr} {H H' : Hp} {a : Addr} {xs : List V} (s : But r H H') (ha : a ≠ r) (h : SqL K H a xs) : SqL K H' a xs := by
  rcases h with (h | ⟨o, h⟩) | h
  · exact .inl (.inl (s _ _ ha h))
  · exact .inl (.inr ⟨o, s _ _ ha h⟩)
  · exact .inr h
theorem But.tup {r : Addr} {H H' : Hp} {a : Addr} {xs : List V} {ys : List V} (s : But r H H') (hr : H r = some (.lst ys)) (h : H a = some (.tup xs)) : H' a = some (.tup xs) :=
  s _ _ (ne_of h hr (by intro z; cases z)) h
structure RowOk (H : Hp) (r sc : Addr) : Prop where
  h : ∃ i m e : Int, H r = some (.lst [.ref sc, .int i, .int m, .int e]) ∧ 0 ≤ i ∧ 0 ≤ m ∧ m < 2147483647 ∧ 0 ≤ e
theorem RowOk.same {H H' : Hp} {r sc : Addr} (R : RowOk H r sc) (s : Same H H') : RowOk H' r sc := by
  obtain ⟨i, m, e, h, q⟩ := R.h
  exact ⟨⟨i, m, e, s _ _ h, q⟩⟩
theorem But.seqR {K : PySem.W.Frag} {r sc : Addr} {H H' : Hp} {a : Addr} {ns : List Int} (s : But r H H') (R : RowOk H r sc) (h : SqL K H a (ns.map V.int)) : SqL K H' a (ns.map V.int) := by
  obtain ⟨i, m, e, hR, _⟩ := R.h
  have nd : ∀ u : HO, H a = some u → u ≠ .lst [.ref sc, .int i, .int m, .int e] → a ≠ r := fun u hu hn z => by
    rw [z, hR] at hu
    exact hn (Option.some.inj hu).symm
  rcases h with (h | ⟨o, h⟩) | h
  · refine .inl (.inl (s _ _ (nd _ h fun z => ?_) h))
    injection z with z
    cases ns with
    | nil => cases z
    | cons n ns => injection z with z _; cases z
  · exact .inl (.inr ⟨o, s _ _ (nd _ h fun z => by cases z) h⟩)
  · exact .inr h
structure spTaken (K : PySem.W.Frag) (vs : List V) (H : Hp) (Q : VK) (_ : XK) : Prop where
  h : ∃ (r sc : Addr) (ns : List Int) (many : Int), vs = [.ref r, .int many] ∧ RowOk H r sc ∧ SqL K H sc (ns.map V.int) ∧ 1 ≤ many ∧ many ≤ 1000 ∧
    ∀ (v : Int) (H' : Hp), 0 ≤ v → v < many → RowOk H' r sc → But r H H' → Q (.int v) H'
section
variable {P : Program} {w : World} {K : PySem.W.Frag} {mg : Str → Option Value} {base : Heap}
theorem scTaken : FnScope ["_law_row", "_law_many", "_law_found", "_law_cell"] ["_law_row", "_law_many"] (defScope sTaken) := ⟨rfl, rfl, rfl, by decide +kernel, rfl, by decide +kernel, by decide +kernel⟩
theorem ok_taken {f : Addr} {fd : FuncData} (F : Fun K "_law_taken" "_law_taken" sTaken f fd) (T : Bt mg) : FnOk P w K mg base CX0 1 f fd ["_law_row", "_law_many"] (spTaken K) := by
  refine F.ok scTaken (fun vs H Q E h => ?_) (fun cdv A outer s H vs Q E hr h => ?_)
  · obtain ⟨r, sc, ns, many, rfl, _⟩ := h.h
    rfl
  · obtain ⟨r, sc, ns, many, rfl, R, S, h1, h2, k⟩ := h.h
    obtain ⟨i, m, e, hR, hi, hm0, hm, he⟩ := R.h
    have dv : CDivW e many := wide_div (b := 10) (by omega) (by omega) (by decide) (by decide)
    refine ⟨_, pss_cons (ps_if (pt_cmpR op_gt (pe_ix ix_list (pv 0) pe_int (fun _ _ => rfl)) pe_int (nomark _))
        (pss_cons (ps_set (i := 2) scTaken.nd rfl (.inl rfl) (pe_op op_mod (pe_callTy call_int1 (by rfl) T.int (by decide +kernel) (pa_cons (pe_ix ix_list (pv 0) pe_int (fun _ _ => rfl)) pa_nil)) (pv 1)))
        (pss_cons (ps_asg (pe_op op_fdivW (pe_ix ix_list (pv 0) pe_int (fun _ _ => rfl)) (pv 1)) (pg_sub (pv 0) pe_int set_list))
        (pss_one (ps_ret (pv 2))))) pss_nil)
      (pss_cons (ps_asg (pe_op op_add (pe_ix ix_list (pv 0) pe_int (fun _ _ => rfl)) pe_int) (pg_sub (pv 0) pe_int set_list))
      (pss_cons (ps_if (pt_cmpR op_gt (pe_ix ix_list (pv 0) pe_int (fun _ _ => rfl)) (pe_callB call_len_seq (by rfl) T.len PySem.boot_len (pa_cons (pe_ix ix_list (pv 0) pe_int (fun _ _ => rfl)) pa_nil)) (nomark _))
        (pss_cons (ps_asg (pe_op op_mod (pe_callTy call_int1 (by rfl) T.int (by decide +kernel) (pa_cons (pe_op op_add (pe_op op_mul (pe_ix ix_list (pv 0) pe_int (fun _ _ => rfl)) pe_int) pe_int) pa_nil)) pe_int) (pg_sub (pv 0) pe_int set_list))
        (pss_one (ps_ret (pe_op op_mod (pe_callTy call_int1 (by rfl) T.int (by decide +kernel) (pa_cons (pe_op op_fdiv (pe_ix ix_list (pv 0) pe_int (fun _ _ => rfl)) pe_int) pa_nil)) (pv 1))))) pss_nil)
      (pss_cons (ps_set (i := 3) scTaken.nd rfl (.inl rfl) (pe_ix ix_list (pe_ix ix_list (pv 0) pe_int (fun _ _ => rfl)) (pe_op op_sub (pe_ix ix_list (pv 0) pe_int (fun _ _ => rfl)) pe_int) (fun _ _ => rfl)))
      (pss_cons (ps_asg (pe_op op_mod (pe_callTy call_int1 (by rfl) T.int (by decide +kernel) (pa_cons (pe_op op_add (pe_op op_add (pe_op op_mul (pe_ix ix_list (pv 0) pe_int (fun _ _ => rfl)) pe_int) (pv 3)) pe_int) pa_nil)) pe_int) (pg_sub (pv 0) pe_int set_list))
      (pss_cons (ps_if (pt_cmpR op_ge (pv 3) (pe_op op_pow pe_int pe_int) (nomark _)) (pss_one (ps_asg (pe_op op_fdivW (pv 3) (pv 1)) (pg_sub (pv 0) pe_int set_list))) pss_nil)
      (pss_one (ps_ret (pe_op op_mod (pe_callTy call_int1 (by rfl) T.int (by decide +kernel) (pa_cons (pv 3) pa_nil)) (pv 1))))))))), ?_⟩
    refine ⟨_, rfl, r, _, _, .int e, rfl, rfl, SqL.of hR, rfl, _, _, rfl, rfl, _, rfl, ?_⟩
    refine ite2 (fun z => ?_) (fun _ => ?_)
    · refine ⟨_, rfl, r, _, _, .int e, rfl, rfl, SqL.of hR, rfl, .inl ⟨_, rfl, _, rfl, _, _, rfl, rfl, (by omega), ?_⟩⟩
      refine ⟨_, rfl, r, _, _, .int e, rfl, rfl, SqL.of hR, rfl, _, rfl, _, _, rfl, rfl, dv, ?_⟩
      refine ⟨_, rfl, r, _, _, 3, rfl, rfl, hR, rfl, _, rfl, ?_⟩
      exact k _ _ (Int.emod_nonneg _ (by omega)) (Int.emod_lt_of_pos _ (by omega)) ⟨⟨i, m, e / many, upd_same, hi, hm0, hm, Int.ediv_nonneg he (by omega)⟩⟩ but_upd
    · refine ⟨_, rfl, r, _, _, .int i, rfl, rfl, SqL.of hR, rfl, _, _, rfl, rfl, ?_⟩
      refine ⟨_, rfl, r, _, _, 1, rfl, rfl, hR, rfl, ?_⟩
      have S1 : SqL K (upd H r (.lst [.ref sc, .int (i + 1), .int m, .int e])) sc (ns.map V.int) := but_upd.seqR R S
      refine ⟨_, rfl, r, _, _, .int (i + 1), rfl, rfl, SqL.of upd_same, rfl, ?_⟩
      refine ⟨_, rfl, r, _, _, .ref sc, rfl, rfl, SqL.of upd_same, rfl, sc, _, rfl, .inl S1, _, _, rfl, rfl, _, rfl, ?_⟩
      refine ite2 (fun z => ?_) (fun z => ?_)
      · refine ⟨_, rfl, r, _, _, .int m, rfl, rfl, SqL.of upd_same, rfl, _, _, rfl, rfl, .inl ⟨by omega, by omega⟩, _, _, rfl, rfl, .inl ⟨_, rfl, _, _, rfl, rfl, (by show (0 : Int) < 2147483647; decide), ?_⟩⟩
        refine ⟨_, rfl, r, _, _, 2, rfl, rfl, upd_same, rfl, ?_⟩
        refine ⟨_, rfl, r, _, _, .int ((m * 48271 + 11) % 2147483647), rfl, rfl, SqL.of upd_same, rfl, _, _, rfl, rfl, ⟨by decide, by decide⟩, .inl ⟨_, rfl, _, rfl, _, _, rfl, rfl, (by omega), ?_⟩⟩
        refine k _ _ (Int.emod_nonneg _ (by omega)) (Int.emod_lt_of_pos _ (by omega)) ⟨⟨i + 1, (m * 48271 + 11) % 2147483647, e, upd_same, by omega, Int.emod_nonneg _ (by decide), Int.emod_lt_of_pos _ (by decide), he⟩⟩ (but_upd.trans but_upd)
      · have hlt : i < ns.length := by
          have := of_decide_eq_false (by simpa using z : decide ((ns.map V.int).length < i + 1) = false)
          rw [List.length_map] at this
          omega
        have hc : ∃ c, ns[i.toNat]? = some c := ⟨ns[i.toNat]'(by omega), List.getElem?_eq_getElem (by omega)⟩
        obtain ⟨c, hc⟩ := hc
        have hat : atI (ns.map V.int) ((i + 1) - 1) = some (.int c) := by
          have e1 : (i + 1) - 1 = ((i.toNat : Nat) : Int) := by omega
          rw [e1]
          exact atI_nat (by rw [List.getElem?_map, hc]; rfl)
        refine ⟨_, rfl, r, _, _, .ref sc, rfl, rfl, SqL.of upd_same, rfl, _, rfl, r, _, _, .int (i + 1), rfl, rfl, SqL.of upd_same, rfl, _, _, rfl, rfl, sc, _, _, .int c, rfl, rfl, S1, hat, ?_⟩
        refine ⟨_, rfl, r, _, _, .int m, rfl, rfl, SqL.of upd_same, rfl, _, _, rfl, rfl, .inl ⟨by omega, by omega⟩, _, rfl, _, _, rfl, rfl, _, _, rfl, rfl, .inl ⟨_, rfl, _, _, rfl, rfl, (by show (0 : Int) < 2147483647; decide), ?_⟩⟩
        refine ⟨_, rfl, r, _, _, 2, rfl, rfl, upd_same, rfl, ?_⟩
        refine ⟨_, rfl, _, _, rfl, rfl, ⟨by decide, by decide, by decide⟩, _, _, rfl, rfl, _, rfl, ?_⟩
        have m1 := Int.emod_nonneg (m * 48271 + c + 11) (show (2147483647 : Int) ≠ 0 by decide)
        have m2 := Int.emod_lt_of_pos (m * 48271 + c + 11) (show (0 : Int) < 2147483647 by decide)
        have v1 := Int.emod_nonneg c (show many ≠ 0 by omega)
        have v2 := Int.emod_lt_of_pos c (show 0 < many by omega)
        refine ite2 (fun z => ?_) (fun _ => ?_)
        · have hc0 : (10 : Int) ^ (18 : Int).toNat ≤ c := of_decide_eq_true z
          have hc1 : 0 ≤ c := by
            have : (0 : Int) ≤ (10 : Int) ^ (18 : Int).toNat := by decide
            omega
          refine ⟨_, rfl, _, rfl, _, _, rfl, rfl, wide_div (b := 10) (by omega) (by omega) (by decide) (by decide), ?_⟩
          refine ⟨_, rfl, r, _, _, 3, rfl, rfl, upd_same, rfl, ?_⟩
          refine ⟨_, rfl, .inl ⟨_, rfl, _, rfl, _, _, rfl, rfl, (by omega), ?_⟩⟩
          exact k _ _ v1 v2 ⟨⟨i + 1, _, c / many, upd_same, by omega, m1, m2, Int.ediv_nonneg hc1 (by omega)⟩⟩ ((but_upd.trans but_upd).trans but_upd)
        · refine ⟨_, rfl, .inl ⟨_, rfl, _, rfl, _, _, rfl, rfl, (by omega), ?_⟩⟩
          exact k _ _ v1 v2 ⟨⟨i + 1, _, e, upd_same, by omega, m1, m2, he⟩⟩ (but_upd.trans but_upd)
end
end DL

set_option Elab.async false
set_option maxRecDepth 100000
namespace DL
open PySem L2
theorem keys_put {kvs : List (List Key × V)} {bs : List Bar} {b : Bar} (v : V) (h : kvs.map (·.1) = bs.map Bar.key) (hn : bs.Nodup) :
    ∃ bs' : List Bar, (putK kvs b.key v).map (·.1) = bs'.map Bar.key ∧ bs'.Nodup ∧ (∀ x ∈ bs', x = b ∨ x ∈ bs) ∧ bs'.length ≤ bs.length + 1 := by
  unfold putK
  by_cases e : (kvs.any fun kv => decide (kv.1 = b.key)) = true
  · rw [if_pos e]
    refine ⟨bs, ?_, hn, fun x hx => .inr hx, Nat.le_succ _⟩
    rw [← h, List.map_map]
    refine List.map_congr_left fun kv _ => ?_
    show (if kv.1 = b.key then (kv.1, v) else kv).1 = kv.1
    by_cases q : kv.1 = b.key
    · rw [if_pos q]
    · rw [if_neg q]
  · rw [if_neg e]
    have hnot : b ∉ bs := fun hm => e (by
      rw [List.any_eq_true]
      have : b.key ∈ kvs.map (·.1) := by rw [h]; exact List.mem_map.mpr ⟨b, hm, rfl⟩
      obtain ⟨kv, hkv, q⟩ := List.mem_map.mp this
      exact ⟨kv, hkv, decide_eq_true q⟩)
    refine ⟨bs ++ [b], by rw [List.map_append, List.map_append, h]; rfl, ?_, fun x hx => ?_, by simp⟩
    · rw [List.nodup_append]
      refine ⟨hn, List.nodup_cons.mpr ⟨by simp, List.nodup_nil⟩, fun x hx y hy => ?_⟩
      rw [List.mem_singleton.mp hy]
      exact fun q => hnot (q ▸ hx)
    · rcases List.mem_append.mp hx with hx | hx
      · exact .inr hx
      · exact .inl (List.mem_singleton.mp hx)
theorem asc_of {n : Int} (hn : n ≤ 7) {xs bs : List Bar} (hp : xs.Perm bs) (hs : xs.Pairwise fun x y => x.code ≤ y.code) (hd : bs.Nodup) (ho : ∀ b ∈ bs, b.ok n) : OkBars n xs := by
  have hx : ∀ b ∈ xs, b.ok n := fun b hb => ho b (hp.mem_iff.mp hb)
  refine ⟨hx, ?_⟩
  have hd' : xs.Nodup := hp.nodup_iff.mpr hd
  have := hs.and hd'
  refine List.Pairwise.imp_of_mem (fun {a b} ha hb q => ?_) this
  obtain ⟨q1, q2⟩ := q
  rcases Int.lt_or_eq_of_le q1 with z | z
  · exact z
  · exact absurd (Bar.code_inj ((hx a ha).low hn) ((hx b hb).low hn) z) q2
structure spParts (K : PySem.W.Frag) (vs : List V) (H : Hp) (Q : VK) (_ : XK) : Prop where
  h : ∃ (r sc : Addr) (ns : List Int) (most : Int), vs = [.ref r, .int most] ∧ RowOk H r sc ∧ SqL K H sc (ns.map V.int) ∧ 1 ≤ most ∧ most ≤ 7 ∧
    ∀ (p t : Addr) (n : Int) (ks : List (Addr × Bar)) (H' : Hp), H p = none → H t = none → 1 ≤ n → n ≤ most → H' p = some (.lst [.int n, .ref t]) → BarsAt H' t ks → OkBars n (ks.map (·.2)) → ks.length ≤ 13 → RowOk H' r sc → But r H H' → Q (.ref p) H'
theorem three_at {v : Int} (h0 : 0 ≤ v) (h3 : v < 3) : ∃ c : Int, atI [V.int 3, V.int 6, V.int 14] v = some (.int c) ∧ 1 ≤ c ∧ c ≤ 14 := by
  have : v = 0 ∨ v = 1 ∨ v = 2 := by omega
  rcases this with rfl | rfl | rfl
  · exact ⟨3, rfl, by decide, by decide⟩
  · exact ⟨6, rfl, by decide, by decide⟩
  · exact ⟨14, rfl, by decide, by decide⟩
theorem two_at {v : Int} (h0 : 0 ≤ v) (h3 : v < 2) : ∃ c : Bool, atI [V.str "open", V.str "shut"] v = some (.str (wd c)) := by
  have : v = 0 ∨ v = 1 := by omega
  rcases this with rfl | rfl
  · exact ⟨false, rfl⟩
  · exact ⟨true, rfl⟩
section
variable {P : Program} {w : World} {K : PySem.W.Frag} {mg : Str → Option Value} {base : Heap}
theorem scParts : FnScope ["_law_row", "_law_most", "_law_many", "_law_found", "_law_k", "_law_drawer", "_law_other", "_law_way", "_law_stand"] ["_law_row", "_law_most"] (defScope sParts) := ⟨rfl, rfl, rfl, by decide +kernel, rfl, by decide +kernel, by decide +kernel⟩
theorem ok_parts {f f1 : Addr} {fd fd1 : FuncData} (F : Fun K "_law_parts" "_law_parts" sParts f fd) (T : Bt mg) (G : FnOk P w K mg base CX0 1 f1 fd1 ["_law_row", "_law_many"] (spTaken K)) (g1 : mg "_law_taken" = some (.ref f1)) (k1 : PySem.W.keepIn K (.ref f1) = true) (b1 : Binds K fd1 ["_law_row", "_law_many"] []) :
    FnOk P w K mg base CX0 2 f fd ["_law_row", "_law_most"] (spParts K) := by
  refine F.ok scParts (fun vs H Q E h => ?_) (fun cdv A outer s H vs Q E hr h => ?_)
  · obtain ⟨r, sc, ns, most, rfl, _⟩ := h.h
    rfl
  · obtain ⟨r, sc, ns, most, rfl, R, S, h1, h7, k⟩ := h.h
    have hu := hu_of hr
    obtain ⟨i0, m0, e0, hR0, _⟩ := id R.h
    refine ⟨_, pss_cons (ps_par (i := 2) (j := 3) (by rfl) scParts.nd rfl rfl (by decide) rfl rfl (pa_cons (pe_op op_add pe_int (pe_call G (hr.mono (by decide)) rfl g1 k1 b1 .nil pass0 (pa_cons (pv 0) (pa_cons (pv 1) pa_nil)))) (pa_cons pe_dnewT pa_nil)) (by rfl))
      (pss_cons (ps_for PassesOwn.never rfl (pi_range1 (by rfl) T.range (pa_cons (pe_call G (hr.mono (by decide)) rfl g1 k1 b1 .nil pass0 (pa_cons (pv 0) (pa_cons (pe_ix ix_list (pe_lst (pa_cons pe_int (pa_cons pe_int (pa_cons pe_int pa_nil)))) (pe_call G (hr.mono (by decide)) rfl g1 k1 b1 .nil pass0 (pa_cons (pv 0) (pa_cons pe_int pa_nil))) (fun _ _ => rfl)) pa_nil))) pa_nil)) (pg_name (i := 4) scParts.nd rfl (.inl rfl))
        (pss_cons (ps_par (i := 5) (j := 6) (by rfl) scParts.nd rfl rfl (by decide) rfl rfl (pa_cons (pe_call G (hr.mono (by decide)) rfl g1 k1 b1 .nil pass0 (pa_cons (pv 0) (pa_cons (pv 2) pa_nil))) (pa_cons (pe_call G (hr.mono (by decide)) rfl g1 k1 b1 .nil pass0 (pa_cons (pv 0) (pa_cons (pv 2) pa_nil))) pa_nil)) (by rfl))
        (pss_one (ps_if (pt_cmpR op_ne (pv 5) (pv 6) (nomark _))
          (pss_cons (ps_par (i := 7) (j := 8) (by rfl) scParts.nd rfl rfl (by decide) rfl rfl (pa_cons (pe_ix ix_list (pe_lst (pa_cons pe_str (pa_cons pe_str pa_nil))) (pe_op op_fdiv (pe_call G (hr.mono (by decide)) rfl g1 k1 b1 .nil pass0 (pa_cons (pv 0) (pa_cons pe_int pa_nil))) pe_int) (fun _ _ => rfl))
            (pa_cons (pe_ix ix_list (pe_lst (pa_cons pe_str (pa_cons pe_str pa_nil))) (pe_call G (hr.mono (by decide)) rfl g1 k1 b1 .nil pass0 (pa_cons (pv 0) (pa_cons pe_int pa_nil))) (fun _ _ => rfl)) pa_nil)) (by rfl))
          (pss_one (ps_dput hu (pv 3) (pe_tup (pa_cons (pv 5) (pa_cons (pv 7) (pa_cons (pv 6) (pa_cons (pv 8) pa_nil))))) pe_bl rfl))) pss_nil))))
      (pss_one (ps_ret (pe_lst (pa_cons (pv 2) (pa_cons (pe_callTy call_tuple_of (by rfl) T.tuple (by decide +kernel) (pa_cons (pe_callB (cr_sortB (by rfl)) (by rfl) T.sorted (by decide +kernel) (pa_cons (pv 3) pa_nil)) pa_nil)) pa_nil)))))), ?_⟩
    -- many, found
    refine ⟨_, rfl, _, rfl, ⟨⟨r, sc, ns, most, rfl, R, S, h1, by omega, fun v H1 v0 v1 R1 B1 => ?_⟩⟩⟩
    refine ⟨_, _, rfl, rfl, fun d hd => ⟨_, _, rfl, ?_⟩⟩
    obtain ⟨i1, m1, e1, hR1, _⟩ := id R1.h
    have ndr : d ≠ r := (ne_of_none hR1 hd).symm
    have hd0 : H d = none := by
      cases q : H d with
      | none => rfl
      | some o =>
        rw [B1 d o ndr q] at hd
        cases hd
    have R2 : RowOk (upd H1 d (.dT [])) r sc := R1.same (same_upd hd)
    have B2 : But r H (upd H1 d (.dT [])) := B1.trans (sbut (same_upd hd))
    -- range(..)
    refine ⟨_, rfl, (by show 3 ≤ sizeLine; decide), fun l hl => ?_⟩
    have nlr : l ≠ r := by
      obtain ⟨_, _, _, q, _⟩ := id R2.h
      exact (ne_of_none q hl).symm
    have R3 := R2.same (same_upd (o := .lst [V.int 3, V.int 6, V.int 14]) hl)
    have B3 : But r H _ := B2.trans (sbut (same_upd (o := .lst [V.int 3, V.int 6, V.int 14]) hl))
    refine ⟨_, rfl, ⟨⟨r, sc, ns, 3, rfl, R3, B3.seqR R S, by decide, by decide, fun v2 H3 w0 w1 R4 B4 => ?_⟩⟩⟩
    obtain ⟨c, hc, c1, c14⟩ := three_at w0 w1
    refine ⟨l, _, v2, .int c, rfl, rfl, SqL.of (B4 _ _ nlr upd_same), hc, ?_⟩
    have B5 : But r H H3 := B3.trans B4
    refine ⟨⟨r, sc, ns, c, rfl, R4, B5.seqR R S, c1, by omega, fun v3 H4 x0 x1 R5 B6 => ?_⟩⟩
    refine ⟨v3, rfl, by omega, by omega, ?_⟩
    have B7 : But r H H4 := B5.trans B6
    have hd4 : H4 d = some (.dT []) := B6 _ _ ndr (B4 _ _ ndr (by rw [upd_ne (ne_of_none (upd_same (H := H1) (a := d)) hl)]; exact upd_same))
    refine for_range (lo := 0) (n := v3.toNat) (fun i σ H5 => ∃ (kvs : List (List Key × V)) (bs : List Bar) (u4 u5 u6 u7 u8 : Option V), σ = [some (.ref r), some (.int most), some (.int (1 + v)), some (.ref d), u4, u5, u6, u7, u8] ∧ H5 d = some (.dT kvs) ∧ kvs.map (·.1) = bs.map Bar.key ∧ bs.Nodup ∧ (∀ b ∈ bs, b.ok (1 + v)) ∧ bs.length ≤ i ∧ RowOk H5 r sc ∧ But r H H5)
      ⟨[], [], _, _, _, _, _, rfl, hd4, rfl, List.nodup_nil, fun b hb => by simp at hb, Nat.le_refl _, R5, B7⟩ ?_ ?_
    · rintro i σ H5 hi ⟨kvs, bs, u4, u5, u6, u7, u8, rfl, hD, hk, hnd, hok, hlen, R6, B8⟩
      refine ⟨_, rfl, _, rfl, ⟨⟨r, sc, ns, 1 + v, rfl, R6, B8.seqR R S, by omega, by omega, fun a H6 a0 a1 R7 B9 => ?_⟩⟩⟩
      refine ⟨_, rfl, _, rfl, ⟨⟨r, sc, ns, 1 + v, rfl, R7, (B8.trans B9).seqR R S, by omega, by omega, fun o H7 o0 o1 R8 B10 => ?_⟩⟩⟩
      have hD7 : H7 d = some (.dT kvs) := B10 _ _ ndr (B9 _ _ ndr hD)
      have B11 : But r H H7 := (B8.trans B9).trans B10
      refine ⟨_, _, rfl, _, rfl, _, rfl, rfl, _, rfl, ?_⟩
      refine ite2 (fun z => ?_) (fun _ => ?_)
      · have hao : a ≠ o := fun q => by subst q; simp at z
        refine ⟨(by show 2 ≤ sizeLine; decide), fun l1 hl1 => ?_⟩
        have R9 := R8.same (same_upd (o := .lst [V.str "open", V.str "shut"]) hl1)
        have nl1 : l1 ≠ r := by
          obtain ⟨_, _, _, q, _⟩ := id R8.h
          exact (ne_of_none q hl1).symm
        refine ⟨_, rfl, ⟨⟨r, sc, ns, 3, rfl, R9, (B11.trans (sbut (same_upd hl1))).seqR R S, by decide, by decide, fun y H8 y0 y1 R10 B12 => ?_⟩⟩⟩
        obtain ⟨cw, hcw⟩ := two_at (v := y / 2) (by omega) (by omega)
        refine ⟨_, _, rfl, rfl, ⟨by decide, by decide⟩, l1, _, _, _, rfl, rfl, SqL.of (B12 _ _ nl1 upd_same), hcw, ?_⟩
        refine ⟨(by show 2 ≤ sizeLine; decide), fun l2 hl2 => ?_⟩
        have R11 := R10.same (same_upd (o := .lst [V.str "open", V.str "shut"]) hl2)
        have nl2 : l2 ≠ r := by
          obtain ⟨_, _, _, q, _⟩ := id R10.h
          exact (ne_of_none q hl2).symm
        have B13 : But r H7 (upd H8 l2 (.lst [V.str "open", V.str "shut"])) := ((sbut (same_upd hl1)).trans B12).trans (sbut (same_upd hl2))
        refine ⟨_, rfl, ⟨⟨r, sc, ns, 2, rfl, R11, (B11.trans B13).seqR R S, by decide, by decide, fun y2 H9 z0 z1 R12 B14 => ?_⟩⟩⟩
        obtain ⟨ct, hct⟩ := two_at z0 z1
        refine ⟨l2, _, _, _, rfl, rfl, SqL.of (B14 _ _ nl2 upd_same), hct, ?_⟩
        have B15 : But r H7 H9 := B13.trans B14
        have hD9 : H9 d = some (.dT kvs) := B15 _ _ ndr hD7
        refine ⟨_, _, rfl, _, rfl, _, rfl, _, rfl, _, rfl, _, rfl, (by show 4 ≤ sizeLine; decide), fun q hq => ?_⟩
        have hlen2 : kvs.length = bs.length := by
          have := congrArg List.length hk
          rw [List.length_map, List.length_map] at this
          exact this
        refine ⟨d, _, rfl, DPut.t (k := (⟨a, cw, o, ct⟩ : Bar).key) (by rw [upd_ne (ne_of_none hD9 hq)]; exact hD9) upd_same (by rw [hlen2]; exact small1000 (by omega)), ?_⟩
        obtain ⟨bs', g1', g2', g3', g4'⟩ := keys_put (b := ⟨a, cw, o, ct⟩) (.bl true) hk hnd
        have nqr : q ≠ r := by
          obtain ⟨_, _, _, q', _⟩ := id R12.h
          exact (ne_of_none q' hq).symm
        refine ⟨_, bs', _, _, _, _, _, rfl, upd_same, g1', g2', fun b hb => ?_, by omega, ?_, ?_⟩
        · rcases g3' b hb with rfl | hb
          · exact ⟨a0, a1, o0, o1, hao⟩
          · exact hok b hb
        · obtain ⟨i', m', e', q1, q2⟩ := (R12.same (same_upd (o := .tup (⟨a, cw, o, ct⟩ : Bar).vs) hq)).h
          exact ⟨⟨i', m', e', by rw [upd_ne (Ne.symm ndr)]; exact q1, q2⟩⟩
        · refine fun c u hc hH => ?_
          have hcd : c ≠ d := fun z' => by rw [z', hd0] at hH; cases hH
          rw [upd_ne hcd]
          exact same_upd hq _ _ (B15 _ _ hc (B11 _ _ hc hH))
      · exact ⟨kvs, bs, _, _, _, _, _, rfl, hD7, hk, hnd, hok, by omega, R8, B11⟩
    · rintro σ H5 ⟨kvs, bs, u4, u5, u6, u7, u8, rfl, hD, hk, hnd, hok, hlen, R6, B8⟩
      refine ⟨_, rfl, _, rfl, d, kvs, bs, rfl, .inl hD, hk, fun b hb => (hok b hb).low (by omega), fun ks p g1' g2' g3' hp => ?_⟩
      refine ⟨p, _, rfl, .inl ⟨SqL.of upd_same, fun t ht => ?_⟩⟩
      refine ⟨(by show 2 ≤ sizeLine; decide), fun q hq => ?_⟩
      have sp : Same H5 (upd H5 p (.lst (ks.map fun k => V.ref k.1))) := same_upd hp
      have st : Same H5 (upd (upd H5 p (.lst (ks.map fun k => V.ref k.1))) t (.tup (ks.map fun k => V.ref k.1))) := sp.trans (same_upd ht)
      have sq : Same H5 _ := st.trans (same_upd (o := .lst [.int (1 + v), .ref t]) hq)
      obtain ⟨i', m', e', qR, _⟩ := id R6.h
      have nfree : ∀ {c : Addr}, H5 c = none → H c = none := fun {c} hc => by
        cases q' : H c with
        | none => rfl
        | some o =>
          have ncr : c ≠ r := fun z => by rw [z, qR] at hc; cases hc
          rw [B8 c o ncr q'] at hc
          cases hc
      refine k q t (1 + v) ks _ (nfree (st.free hq)) (nfree (sp.free ht)) (by omega) (by omega) upd_same ⟨by rw [upd_ne (ne_of_none upd_same hq)]; exact upd_same, fun kk hkk => sq _ _ (g1' kk hkk)⟩
        (asc_of (by omega) g2' g3' hnd hok) ?_ (R6.same sq) (B8.trans (sbut sq))
      have := g2'.length_eq
      rw [List.length_map] at this
      omega
/-! ### the cabinet of a draw -/
structure spMade (C : Addr) (vs : List V) (H : Hp) (Q : VK) (_ : XK) : Prop where
  h : ∃ (p t : Addr) (n : Int) (ks : List (Addr × Bar)) (zs : List V), vs = [.ref p] ∧ H p = some (.lst (.int n :: .ref t :: zs)) ∧ 1 ≤ n ∧ n ≤ 7 ∧ BarsAt H t ks ∧ OkBars n (ks.map (·.2)) ∧
    ∀ (c : Addr) (H' : Hp), H c = none → CabAt C H' c n t → Same H H' → Q (.ref c) H'
theorem scMade : FnScope ["_law_d"] ["_law_d"] (defScope sMade) := ⟨rfl, rfl, rfl, by decide +kernel, rfl, by decide +kernel, by decide +kernel⟩
theorem ok_made {f fI C : Addr} {fd fdI : FuncData} (F : Fun K "_law_made" "_law_made" sMade f fd) (T : CabT K mg C) (M : Mk K C fI) (G : FnOk P w K mg base CX0 5 fI fdI ["self", "drawers", "bars"] (spInit C)) (bI : Binds K fdI ["self", "drawers", "bars"] []) :
    FnOk P w K mg base CX0 7 f fd ["_law_d"] (spMade C) := by
  refine F.ok scMade (fun vs H Q E h => ?_) (fun cdv A outer s H vs Q E hr h => ?_)
  · obtain ⟨p, t, n, ks, zs, rfl, _⟩ := h.h
    rfl
  · obtain ⟨p, t, n, ks, zs, rfl, hp, h1, h7, B, O, k⟩ := h.h
    refine ⟨_, pss_one (ps_ret (pe_make M G hr rfl T.mgC bI .nil pass0 (pa_cons (pe_ix ix_list (pv 0) pe_int (fun _ _ => rfl)) (pa_cons (pe_ix ix_list (pv 0) pe_int (fun _ _ => rfl)) pa_nil)))), ?_⟩
    refine ⟨_, rfl, p, _, 0, .int n, rfl, rfl, SqL.of hp, atI_nat (j := 0) rfl, _, rfl, p, _, 1, .ref t, rfl, rfl, SqL.of hp, atI_nat (j := 1) rfl, ?_⟩
    intro x dx nx ndx nex
    have s0 : Same H (upd (upd H dx (.own x)) x (.ins C dx [])) := fun b o e => by
      rw [upd_ne (ne_of_none e nx), upd_ne (ne_of_none e ndx)]
      exact e
    refine ⟨⟨x, dx, n, t, ks, rfl, upd_same, h1, h7, B.same s0, O, fun H' hx kp => ⟨rfl, ?_⟩⟩⟩
    exact k x H' nx ⟨dx, hx⟩ fun b o e => kp b o (ne_of_none e nx) (s0 b o e)
end
end DL

set_option Elab.async false
set_option maxRecDepth 100000
namespace DL
open PySem L2
/-! ### rules with the written part named, for blocks within blocks -/
theorem cr_anyK {X : Cx} {K : PySem.W.Frag} (hK : X.K = K) (hc : X.calm = true) : CallR X (.builtin "any") (rAny K) := by subst hK; exact cr_any hc
theorem pi_tupK {X : Cx} {K : PySem.W.Frag} {tg l : Expr} {tl : TE} (hK : X.K = K) (hl : PE X l tl) : PI X tg l (iTup K tl) := by subst hK; exact pi_tup hl
theorem pi_listK {X : Cx} {K : PySem.W.Frag} {tg l : Expr} {tl : TE} (hK : X.K = K) (hl : PE X l tl) : PI X tg l (iList K tl) := by subst hK; exact pi_list hl
theorem ix_listK {X : Cx} {K : PySem.W.Frag} (hK : X.K = K) : IxR X (rIxL K) := by subst hK; exact ix_list
theorem call_len_seqK {X : Cx} {K : PySem.W.Frag} (hK : X.K = K) : CallR X (.builtin "len") (fun xs H Q => ∃ p ys, xs = [.ref p] ∧ (SqL K H p ys ∨ SqT K H p ys) ∧ Q (.int ys.length) H) := by subst hK; exact call_len_seq
theorem pe_bmK {X : Cx} {K : PySem.W.Frag} {T : String} {name : Str} {id : String} {r : V → List V → Hp → VK → Prop} {o e : Expr} {es : List Expr} {to : TE} {t : TA} {apos cpos : Pos} (hK : X.K = K) (pa : PlainAttrs T) (slot : Slot T name id) (hty : typeOf (.builtin id) = pure (.type "method_descriptor")) (hm : MtR X id r) (ho : PE X o to) (ha : PA X (e :: es) t)
    (hbase : attributeBase o name X.env (eval o X.env) = eval o X.env := by rfl)
    (hfew : ((backTo cpos (starEach (e :: es) X.env)).all (fun x => !x.1) && (backToKw cpos (keywordEach [] X.env)).all (fun x => x.1.isSome)
      && decide ((e :: es).length + ([] : List Keyword).length + (if ([] : List Keyword).isEmpty then 0 else 1) < 30)) = true := by rfl)
    (hline : (apos.endLine == cpos.line) = true := by rfl) (hs : starEach (e :: es) X.env = (false, eval e X.env) :: starEach es X.env := by rfl) (hplain : (backTo cpos (starEach es X.env)).any (·.1) = false := by rfl) :
    PE X (.Call (.Attribute o name apos) (e :: es) [] cpos) (tBM K T r to t) := by subst hK; exact pe_bm pa slot hty hm ho ha hbase hfew hline hs hplain
theorem boot_any_ : bootBuiltins ("any" : Str) = some (.builtin "any") := by decide +kernel
end DL

set_option Elab.async false
set_option maxRecDepth 100000
namespace DL
open PySem L2 HT TL
/-! ### standings: a truth value a drawer (true: open) -/
def sg (b : Bool) : Nat := if b = true then 111 else 115
def sgs (b : Bool) : Str := ⟨#[sg b]⟩
def sstr (st : List Bool) : Str := ⟨(st.map sg).toArray⟩
theorem sstr_tl (st : List Bool) : (sstr st).cps.toList = st.map sg := by simp [sstr]
theorem sstr_len (st : List Bool) : (sstr st).length = st.length := by
  show (sstr st).cps.size = st.length
  rw [← Array.length_toList, sstr_tl, List.length_map]
theorem sg_inj : ∀ {a b : Bool}, sg a = sg b → a = b := by decide
theorem sstr_inj {a b : List Bool} (h : sstr a = sstr b) : a = b := by
  have h1 : a.map sg = b.map sg := by rw [← sstr_tl, ← sstr_tl, h]
  have : ∀ {a b : List Bool}, a.map sg = b.map sg → a = b := by
    intro a
    induction a with
    | nil => intro b h; cases b with | nil => rfl | cons y b => simp at h
    | cons x a ih =>
      intro b h
      cases b with
      | nil => simp at h
      | cons y b =>
        rw [List.map_cons, List.map_cons] at h
        injection h with h1 h2
        rw [sg_inj h1, ih h2]
  exact this h1
def sat (st : List Bool) (i : Int) : Bool := st.getD i.toNat false
theorem sstr_at {st : List Bool} {i : Int} (h0 : 0 ≤ i) (h1 : i < st.length) : atI (sstr st).cps.toList i = some (sg (sat st i)) := by
  have e : i = ((i.toNat : Nat) : Int) := by omega
  have hl : i.toNat < st.length := by omega
  rw [e]
  refine atI_nat ?_
  rw [sstr_tl, List.getElem?_map]
  unfold sat
  rw [Int.toNat_natCast, List.getD_eq_getElem?_getD, List.getElem?_eq_getElem hl]
  rfl
def sgn (b : Bool) : Str := if b = true then "s" else "o"
theorem sgs_sgn (x b : Bool) : decide ((V.str ⟨#[sg x]⟩) = V.str (sgn b)) = (x != b) := by revert x b; decide +kernel
theorem sgs_o (x : Bool) : decide ((V.str ⟨#[sg x]⟩) = V.str "o") = x := by revert x; decide +kernel
theorem sgs_s (x : Bool) : decide ((V.str ⟨#[sg x]⟩) = V.str "s") = !x := by revert x; decide +kernel
theorem wd_ne (a b : Bool) : decide ((V.str (wd a)) = V.str (wd b)) = (a == b) := by revert a b; decide +kernel
/-- whether the bar stands against the pull -/
def hind (b : Bar) (st : List Bool) (d : Int) : Bool := decide (b.d = d) && ((sat st d == b.w) && (sat st b.o == b.t))
def goesB (bs : List Bar) (st : List Bool) (d : Int) : Bool := !(bs.any fun b => hind b st d)
def flip (st : List Bool) (d : Int) : List Bool := st.set d.toNat (!sat st d)
theorem flip_len (st : List Bool) (d : Int) : (flip st d).length = st.length := by unfold flip; rw [List.length_set]
def drs (n : Nat) : List Int := (List.range n).map fun (i : Nat) => (i : Int)
def freeL (bs : List Bar) (st : List Bool) : List Int := (drs st.length).filter fun d => goesB bs st d
/-- the table of signs -/
structure SgT (K : PySem.W.Frag) (w : World) (mg : Str → Option Value) (aS : Addr) : Prop where
  g : mg "SIGNS" = some (.ref aS)
  o : KDct K w aS "open" (.str "o")
  s : KDct K w aS "shut" (.str "s")
theorem SgT.at {K : PySem.W.Frag} {w : World} {mg : Str → Option Value} {aS : Addr} (T : SgT K w mg aS) (b : Bool) : KDct K w aS (wd b) (.str (sgn b)) := by
  cases b
  · exact T.o
  · exact T.s
structure spHold (K : PySem.W.Frag) (vs : List V) (H : Hp) (Q : VK) (_ : XK) : Prop where
  h : ∃ (a : Addr) (b : Bar) (st : List Bool) (d : Int), vs = [.ref a, .str (sstr st), .int d] ∧ SqT K H a b.vs ∧ b.ok st.length ∧ st.length ≤ 7 ∧ 0 ≤ d ∧ d < st.length ∧ Q (.bl (hind b st d)) H
structure spMoved (vs : List V) (H : Hp) (Q : VK) (_ : XK) : Prop where
  h : ∃ (st : List Bool) (d : Int), vs = [.str (sstr st), .int d] ∧ st.length ≤ 7 ∧ 0 ≤ d ∧ d < st.length ∧ ∀ H', Same H H' → Q (.str (sstr (flip st d))) H'
theorem str_small {st : List Bool} (h : st.length ≤ 7) : (sstr st).length ≤ sizeLine := by rw [sstr_len]; exact Nat.le_of_lt (small1000 (by omega))
theorem cut_flip (st : List Bool) (d : Int) (h0 : 0 ≤ d) (h1 : d < st.length) (x : Str) (hx : x.cps.toList = [sg (!sat st d)]) : (cutS (sstr st) none (some d) ++ x) ++ cutS (sstr st) (some (d + 1)) none = sstr (flip st d) := by
  refine PyProof.Rows.ext_toList ?_
  obtain ⟨k, rfl⟩ : ∃ k : Nat, d = (k : Int) := ⟨d.toNat, by omega⟩
  have hk : k < st.length := by omega
  have e1 : ((k : Int) + 1) = ((k + 1 : Nat) : Int) := by omega
  have t1 : tl (cutS (sstr st) none (some (k : Int))) = (st.map sg).take k := by
    unfold tl cutS
    rw [HT.sIx_none, HT.sIx_nat, sstr_len, sstr_tl]
    simp [Nat.min_eq_left (Nat.le_of_lt hk)]
  have t2 : tl (cutS (sstr st) (some ((k : Int) + 1)) none) = (st.map sg).drop (k + 1) := by
    unfold tl cutS
    rw [e1, HT.sIx_none, HT.sIx_nat, sstr_len, sstr_tl]
    simp only [Nat.min_eq_left (show k + 1 ≤ st.length by omega)]
    rw [List.take_of_length_le (by rw [List.length_drop, List.length_map]; omega)]
  show tl _ = tl _
  rw [tl_append, tl_append, t1, t2, show tl x = _ from hx, show tl (sstr (flip st (k : Int))) = _ from sstr_tl _]
  unfold flip
  rw [Int.toNat_natCast, List.map_set, List.set_eq_take_append_cons_drop, if_pos (by rw [List.length_map]; exact hk)]
  simp
section
variable {P : Program} {w : World} {K : PySem.W.Frag} {mg : Str → Option Value} {base : Heap}
theorem scHinders : FnScope ["bar", "standing", "drawer", "barred", "way", "other", "stand"] ["bar", "standing", "drawer"] (defScope s_hinders) := ⟨rfl, rfl, rfl, by decide +kernel, rfl, by decide +kernel, by decide +kernel⟩
theorem ok_hinders {f aS : Addr} {fd : FuncData} (F : Fun K "hinders" "hinders" s_hinders f fd) (T : SgT K w mg aS) : FnOk P w K mg base CX0 1 f fd ["bar", "standing", "drawer"] (spHold K) := by
  refine F.ok scHinders (fun vs H Q E h => ?_) (fun cdv A outer s H vs Q E hr h => ?_)
  · obtain ⟨a, b, st, d, rfl, _⟩ := h.h
    rfl
  · obtain ⟨a, b, st, d, rfl, hq, hb, h7, d0, d1, k⟩ := h.h
    obtain ⟨b1, b2, b3, b4, b5⟩ := hb
    refine ⟨_, pss_cons (ps_asg (pv 0) (pg_tup (by rfl) (pgs_cons (pg_name (i := 3) scHinders.nd rfl (.inl rfl)) (pgs_cons (pg_name (i := 4) scHinders.nd rfl (.inl rfl)) (pgs_cons (pg_name (i := 5) scHinders.nd rfl (.inl rfl)) (pgs_cons (pg_name (i := 6) scHinders.nd rfl (.inl rfl)) pgs_nil))))))
      (pss_cons (ps_if (PW.pt (pw_or (pt_cmpR op_ne (pv 3) (pv 2) (nomark _)) (pw_or1 (pt_cmpR op_eq (pe_ix ix_str (pv 1) (pv 2) (fun _ _ => rfl)) (pe_ix ix_kdict (pe_glob (v := .ref aS) rfl T.g rfl) (pv 4) (fun _ _ => rfl)) (nomark _))))) (pss_one (ps_ret pe_bl)) pss_nil)
      (pss_one (ps_ret (pe_cmpR op_ne (pe_ix ix_str (pv 1) (pv 5) (fun _ _ => rfl)) (pe_ix ix_kdict (pe_glob (v := .ref aS) rfl T.g rfl) (pv 6) (fun _ _ => rfl)) (nomark _))))), ?_⟩
    refine ⟨_, rfl, a, _, rfl, hq, rfl, _, _, rfl, _, _, rfl, _, _, rfl, _, _, rfl, rfl, ?_⟩
    refine ⟨_, rfl, _, rfl, rfl, _, rfl, ?_⟩
    have e0 : decide ((V.int b.d) = V.int d) = decide (b.d = d) := decide_eq_decide.mpr ⟨fun z => by injection z, fun z => by rw [z]⟩
    show if (!decide ((V.int b.d) = V.int d)) = true then _ else _
    rw [e0]
    by_cases q : b.d = d
    · rw [decide_eq_true q]
      refine iteF ?_
      refine ⟨_, rfl, _, rfl, _, d, _, rfl, rfl, str_small h7, sstr_at d0 d1, _, rfl, aS, wd b.w, _, rfl, rfl, T.at b.w, rfl, _, rfl, ?_⟩
      show if decide ((V.str ⟨#[sg (sat st d)]⟩) = V.str (sgn b.w)) = true then _ else _
      rw [sgs_sgn]
      unfold hind at k
      rw [decide_eq_true q] at k
      cases e : (sat st d != b.w) with
      | true =>
        have e' : (sat st d == b.w) = false := by rw [bne, Bool.not_eq_true'] at e; exact e
        rw [e'] at k
        exact iteT k
      | false =>
        have e' : (sat st d == b.w) = true := by rw [bne, Bool.not_eq_false'] at e; exact e
        rw [e'] at k
        refine iteF ?_
        refine ⟨_, rfl, _, rfl, _, b.o, _, rfl, rfl, str_small h7, sstr_at b3 b4, _, rfl, aS, wd b.t, _, rfl, rfl, T.at b.t, rfl, ?_⟩
        show Q (.bl (!decide ((V.str ⟨#[sg (sat st b.o)]⟩) = V.str (sgn b.t)))) H
        rw [sgs_sgn, bne, Bool.not_not]
        exact k
    · rw [decide_eq_false q]
      unfold hind at k
      rw [decide_eq_false q] at k
      exact iteT k
theorem scMoved : FnScope ["standing", "drawer", "word"] ["standing", "drawer"] (defScope s_moved) := ⟨rfl, rfl, rfl, by decide +kernel, rfl, by decide +kernel, by decide +kernel⟩
theorem ok_moved {f aS : Addr} {fd : FuncData} (F : Fun K "moved" "moved" s_moved f fd) (T : SgT K w mg aS) : FnOk P w K mg base CX0 1 f fd ["standing", "drawer"] spMoved := by
  refine F.ok scMoved (fun vs H Q E h => ?_) (fun cdv A outer s H vs Q E hr h => ?_)
  · obtain ⟨st, d, rfl, _⟩ := h.h
    rfl
  · obtain ⟨st, d, rfl, h7, d0, d1, k⟩ := h.h
    refine ⟨_, pss_cons (ps_set (i := 2) scMoved.nd rfl (.inl rfl) (pe_ifExp (pt_cmpR op_eq (pe_ix ix_str (pv 0) (pv 1) (fun _ _ => rfl)) (pe_ix ix_kdict (pe_glob (v := .ref aS) rfl T.g rfl) pe_str (fun _ _ => rfl)) (nomark _)) pe_str pe_str))
      (pss_one (ps_ret (pe_op op_add_str (pe_op op_add_str (pe_slice sl_str (pv 0) po_none (po_some (pv 1))) (pe_ix ix_kdict (pe_glob (v := .ref aS) rfl T.g rfl) (pv 2) (fun _ _ => rfl))) (pe_slice sl_str (pv 0) (po_some (pe_op op_add (pv 1) pe_int)) po_none)))), ?_⟩
    refine ⟨_, rfl, _, rfl, _, d, _, rfl, rfl, str_small h7, sstr_at d0 d1, aS, _, _, rfl, rfl, T.s, rfl, _, rfl, ?_⟩
    show if decide ((V.str ⟨#[sg (sat st d)]⟩) = V.str "s") = true then _ else _
    rw [sgs_s]
    have fin : ∀ x : Bool, x = sat st d → (∃ v, ((L2.start ["standing", "drawer", "word"] [.str (sstr st), .int d]).set 2 (some (.str (wd x))))[0]? = some (some v) ∧ (∃ z, v = .str z ∧ ∃ i, i = d ∧ True)) → True := fun _ _ _ => trivial
    have small : ∀ a b : Str, a.length ≤ 7 → b.length ≤ 7 → a.length + b.length ≤ sizeLine := fun a b ha hb => Nat.le_of_lt (small1000 (by omega))
    have c7 : ∀ lo hi, (cutS (sstr st) lo hi).length ≤ 7 := fun lo hi => by
      show (cutS (sstr st) lo hi).cps.size ≤ 7
      unfold cutS
      rw [List.size_toArray, List.length_take, List.length_drop, sstr_tl, List.length_map]
      omega
    have one : ∀ b : Bool, (sgn b).length ≤ 7 ∧ (sgn b).cps.toList = [sg (!b)] := by decide +kernel
    have app : ∀ a b : Str, (a ++ b).length = a.length + b.length := fun a b => by
      show (a ++ b).cps.size = a.cps.size + b.cps.size
      rw [← Array.length_toList, ← Array.length_toList, ← Array.length_toList]
      exact (congrArg List.length (tl_append a b)).trans (List.length_append ..)
    cases e : sat st d with
    | false =>
      refine iteT ?_
      refine ⟨_, rfl, _, rfl, _, rfl, _, rfl, str_small h7, _, rfl, aS, wd false, _, rfl, rfl, T.at false, _, _, rfl, rfl, small _ _ (c7 _ _) (one false).1, ?_⟩
      refine ⟨_, rfl, _, rfl, _, _, rfl, rfl, _, rfl, _, rfl, str_small h7, _, _, rfl, rfl, ?_, ?_⟩
      · have h1 := c7 none (some d)
        have h2 := (one false).1
        have h3 := c7 (some (d + 1)) none
        have h4 := app (cutS (sstr st) none (some d)) (sgn false)
        exact Nat.le_of_lt (small1000 (by omega))
      · have := k H (Same.refl H)
        rw [← cut_flip st d d0 d1 (sgn false) (by rw [(one false).2, e])] at this
        exact this
    | true =>
      refine iteF ?_
      refine ⟨_, rfl, _, rfl, _, rfl, _, rfl, str_small h7, _, rfl, aS, wd true, _, rfl, rfl, T.at true, _, _, rfl, rfl, small _ _ (c7 _ _) (one true).1, ?_⟩
      refine ⟨_, rfl, _, rfl, _, _, rfl, rfl, _, rfl, _, rfl, str_small h7, _, _, rfl, rfl, ?_, ?_⟩
      · have h1 := c7 none (some d)
        have h2 := (one true).1
        have h3 := c7 (some (d + 1)) none
        have h4 := app (cutS (sstr st) none (some d)) (sgn true)
        exact Nat.le_of_lt (small1000 (by omega))
      · have := k H (Same.refl H)
        rw [← cut_flip st d d0 d1 (sgn true) (by rw [(one true).2, e])] at this
        exact this
end
end DL

set_option Elab.async false
set_option maxRecDepth 100000
namespace DL
open PySem L2 HT TL
theorem new_at {H : Hp} {a : Addr} {o : HO} (h : H a = none) : Same H (upd H a o) ∧ (upd H a o) a = some o := ⟨same_upd h, upd_same⟩
/-! ### comprehensions that pick, in one word -/
theorem take_pick {α : Type} (p : α → Bool) (v : α → V) {l : List α} {i : Nat} {z : α} (h : l[i]? = some z) :
    ((l.take (i + 1)).filter p).map v = if p z = true then ((l.take i).filter p).map v ++ [v z] else ((l.take i).filter p).map v := by
  obtain ⟨hl, e⟩ := List.getElem?_eq_some_iff.mp h
  rw [List.take_succ_eq_append_getElem hl, List.filter_append, e]
  by_cases q : p z = true
  · rw [if_pos q, List.filter_cons_of_pos q, List.filter_nil, List.map_append]
    rfl
  · rw [if_neg q, List.filter_cons_of_neg q, List.filter_nil, List.append_nil]
theorem lc_pick {α : Type} {J : It} {n : Nat} {G : Hp → Prop} {Y : Nat → Hp → V → Hp → Prop} (wk : Walk J n G Y) (l : List α) (hl : l.length = n) (hn : n ≤ 3000) (p : α → Bool) (v : α → V) {g : TG} {tt : TT} {te : TE} {vs : List Nat} {σ : L2.St} {H1 : Hp} {D : Addr} {Qd : Hp → Prop}
    (hD : H1 D = none) (hG : ∀ H, Same H1 H → G H)
    (hs : ∀ i x z H H' (Tk : V → Hp → Prop) (Nk : Hp → Prop), l[i]? = some z → Same H1 H → Y i H x H' → (∀ H4, p z = true → Same H H4 → Tk (v z) H4) → (∀ H4, p z = false → Same H H4 → Nk H4) →
      g x (wipe σ vs) H' fun σ2 H2 => wipe σ2 vs = wipe σ vs ∧ tt σ2 H2 fun b H3 => if b = true then te σ2 H3 Tk else Nk H3)
    (hd : ∀ H, Same H1 H → H D = some (.lst ((l.filter p).map v)) → Qd H) :
    ∃ W : Nat → Nat → Hp → Prop, (∃ m, W 0 m (upd H1 D (.lst []))) ∧ ∀ i m H, W i m H →
      (J.stop i H ∧ Qd H) ∨ (J.go i H ∧ ∃ Nx : Hp → Prop, (∀ H', Nx H' → ∃ m', m' < m ∧ W (i + 1) m' H') ∧ ∀ x H', J.yld i H x H' → g x (wipe σ vs) H' fun σ2 H2 => wipe σ2 vs = wipe σ vs ∧ tt σ2 H2 fun b H3 =>
        if b = true then te σ2 H3 fun y H4 => ∃ acc, H4 D = some (.lst acc) ∧ acc.length < sizeLine ∧ Nx (upd H4 D (.lst (acc ++ [y]))) else Nx H3) := by
  refine lc_it wk (fun i H' => Same H1 H' ∧ H' D = some (.lst (((l.take i).filter p).map v))) ⟨same_upd hD, upd_same⟩ (fun i H' _ q => hG H' q.1) ?_ ?_
  · rintro i x H H' hi ⟨s1, hD1⟩ y
    have hi' : i < l.length := by omega
    have ez : l[i]? = some l[i] := List.getElem?_eq_getElem hi'
    refine hs i x l[i] H H' _ _ ez s1 y (fun H4 hp s4 => ?_) (fun H4 hp s4 => ?_)
    · refine ⟨_, s4 _ _ hD1, ?_, fun b o e => ?_, ?_⟩
      · rw [List.length_map]
        have h1 := List.length_filter_le p (l.take i)
        rw [List.length_take] at h1
        have h2 : (3000 : Nat) < sizeLine := by decide
        omega
      · rw [upd_ne (ne_of_none e hD)]
        exact s4 _ _ (s1 b o e)
      · rw [upd_same, take_pick p v ez, if_pos hp]
    · refine ⟨s1.trans s4, ?_⟩
      rw [take_pick p v ez, if_neg (by rw [hp]; exact Bool.false_ne_true)]
      exact s4 _ _ hD1
  · rintro H ⟨s1, hD1⟩
    rw [← hl, List.take_length] at hD1
    exact hd H s1 hD1
/-! ### walks over the bars of a tuple -/
theorem walk_bars {K : PySem.W.Frag} {a : Addr} {α : Type} {l : List α} {f : α → V} : Walk (Itt K a) l.length (fun H => SqT K H a (l.map f)) (fun i H x H' => H' = H ∧ ∃ z, l[i]? = some z ∧ x = f z) := by
  have e : l.length = (l.map f).length := by rw [List.length_map]
  rw [e]
  refine (walk_tup (K := K) (a := a) (xs := l.map f)).mono (fun H h => h) fun i H x H' _ _ y => ⟨y.1, ?_⟩
  have h := y.2
  rw [List.getElem?_map] at h
  cases q : l[i]? with
  | none => rw [q] at h; cases h
  | some z => rw [q] at h; cases h; exact ⟨z, rfl, rfl⟩
theorem walk_lst {K : PySem.W.Frag} {a : Addr} {α : Type} {l : List α} {f : α → V} : Walk (Itl K a) l.length (fun H => SqL K H a (l.map f)) (fun i H x H' => H' = H ∧ ∃ z, l[i]? = some z ∧ x = f z) := by
  have e : l.length = (l.map f).length := by rw [List.length_map]
  rw [e]
  refine (walk_list (K := K) (a := a) (xs := l.map f)).mono (fun H h => h) fun i H x H' _ _ y => ⟨y.1, ?_⟩
  have h := y.2
  rw [List.getElem?_map] at h
  cases q : l[i]? with
  | none => rw [q] at h; cases h
  | some z => rw [q] at h; cases h; exact ⟨z, rfl, rfl⟩
end DL

set_option Elab.async false
set_option maxRecDepth 100000
namespace DL
open PySem L2 HT TL
structure CabOk (C : Addr) (H : Hp) (c : Addr) (n : Int) (bs : List Bar) : Prop where
  h : ∃ (t : Addr) (ks : List (Addr × Bar)), CabAt C H c n t ∧ BarsAt H t ks ∧ ks.map (·.2) = bs ∧ OkBars n bs ∧ 1 ≤ n ∧ n ≤ 7 ∧ bs.length ≤ 100
theorem tYes_of {σ : L2.St} {H : Hp} {Q : Bool → Hp → Prop} (h : Q true H) : tYes σ H Q := h
theorem CabOk.same {C : Addr} {H H' : Hp} {c : Addr} {n : Int} {bs : List Bar} (B : CabOk C H c n bs) (s : Same H H') : CabOk C H' c n bs := by
  obtain ⟨t, ks, ⟨dx, h1⟩, h2, h3⟩ := B.h
  exact ⟨⟨t, ks, ⟨dx, s _ _ h1⟩, h2.same s, h3⟩⟩
structure spGetD (C : Addr) (vs : List V) (H : Hp) (Q : VK) (_ : XK) : Prop where
  h : ∃ (c dx : Addr) (n : Int) (t : Addr), vs = [.ref c] ∧ H c = some (.ins C dx (cfl n t)) ∧ Q (.int n) H
structure spGetB (C : Addr) (vs : List V) (H : Hp) (Q : VK) (_ : XK) : Prop where
  h : ∃ (c dx : Addr) (n : Int) (t : Addr), vs = [.ref c] ∧ H c = some (.ins C dx (cfl n t)) ∧ Q (.ref t) H
/-- the two properties of the class -/
structure CabP (P : Program) (w : World) (K : PySem.W.Frag) (mg : Str → Option Value) (base : Heap) (C : Addr) : Prop where
  cl : Cls K C
  d : ∃ p g fd, PropOf K C "drawers" p g ∧ FnOk P w K mg base CX0 1 g fd ["self"] (spGetD C) ∧ Binds K fd ["self"] []
  b : ∃ p g fd, PropOf K C "bars" p g ∧ FnOk P w K mg base CX0 1 g fd ["self"] (spGetB C) ∧ Binds K fd ["self"] []
structure spGoes (C : Addr) (vs : List V) (H : Hp) (Q : VK) (_ : XK) : Prop where
  h : ∃ (c : Addr) (bs : List Bar) (st : List Bool) (d : Int), vs = [.ref c, .str (sstr st), .int d] ∧ CabOk C H c st.length bs ∧ 0 ≤ d ∧ d < st.length ∧ ∀ H', Same H H' → Q (.bl (goesB bs st d)) H'
structure spBarring (C : Addr) (vs : List V) (H : Hp) (Q : VK) (_ : XK) : Prop where
  h : ∃ (c t : Addr) (ks : List (Addr × Bar)) (st : List Bool) (d : Int), vs = [.ref c, .str (sstr st), .int d] ∧ CabAt C H c st.length t ∧ BarsAt H t ks ∧ OkBars st.length (ks.map (·.2)) ∧ st.length ≤ 7 ∧ ks.length ≤ 100 ∧ 0 ≤ d ∧ d < st.length ∧
    ∀ (p : Addr) (H' : Hp), H p = none → Same H H' → H' p = some (.lst ((ks.filter fun k => hind k.2 st d).map fun k => V.ref k.1)) → Q (.ref p) H'
structure spFreeDrawers (C : Addr) (vs : List V) (H : Hp) (Q : VK) (_ : XK) : Prop where
  h : ∃ (c : Addr) (bs : List Bar) (st : List Bool), vs = [.ref c, .str (sstr st)] ∧ CabOk C H c st.length bs ∧ ∀ (p : Addr) (H' : Hp), H p = none → Same H H' → H' p = some (.lst ((freeL bs st).map V.int)) → Q (.ref p) H'
theorem take_succ_map {α β : Type} (f : α → β) {l : List α} {i : Nat} {x : α} (h : l[i]? = some x) : (l.take i).map f ++ [f x] = (l.take (i + 1)).map f := by
  obtain ⟨hl, e⟩ := List.getElem?_eq_some_iff.mp h
  rw [List.take_succ_eq_append_getElem hl, List.map_append, ← e]
  rfl
theorem any_take {ks : List (Addr × Bar)} {bs : List Bar} (e : ks.map (·.2) = bs) (f : Bar → Bool) : ((ks.take (ks.map fun k => V.ref k.1).length).map fun k => f k.2).any id = bs.any f := by
  rw [List.length_map, List.take_length, ← e, List.any_map, List.any_map]
  rfl
section
variable {P : Program} {w : World} {K : PySem.W.Frag} {mg : Str → Option Value} {base : Heap}
theorem scDrawers : FnScope ["self"] ["self"] (defScope sDrawers) := ⟨rfl, rfl, rfl, by decide +kernel, rfl, by decide +kernel, by decide +kernel⟩
theorem ok_getD {f C : Addr} {fd : FuncData} (F : Fun K "drawers" "Cabinet.drawers" sDrawers f fd) (T : CabT K mg C) : FnOk P w K mg base CX0 1 f fd ["self"] (spGetD C) := by
  refine F.ok scDrawers (fun vs H Q E h => ?_) (fun cdv A outer s H vs Q E hr h => ?_)
  · obtain ⟨c, dx, n, t, rfl, _⟩ := h.h
    rfl
  · obtain ⟨c, dx, n, t, rfl, hc, k⟩ := h.h
    exact ⟨_, pss_one (ps_ret (pe_fld (pv 0) rfl)), ⟨_, rfl, c, C, dx, _, _, rfl, hc, T.cl, T.nD, cfl_d n t, k⟩⟩
theorem scBars : FnScope ["self"] ["self"] (defScope sBars) := ⟨rfl, rfl, rfl, by decide +kernel, rfl, by decide +kernel, by decide +kernel⟩
theorem ok_getB {f C : Addr} {fd : FuncData} (F : Fun K "bars" "Cabinet.bars" sBars f fd) (T : CabT K mg C) : FnOk P w K mg base CX0 1 f fd ["self"] (spGetB C) := by
  refine F.ok scBars (fun vs H Q E h => ?_) (fun cdv A outer s H vs Q E hr h => ?_)
  · obtain ⟨c, dx, n, t, rfl, _⟩ := h.h
    rfl
  · obtain ⟨c, dx, n, t, rfl, hc, k⟩ := h.h
    exact ⟨_, pss_one (ps_ret (pe_fld (pv 0) rfl)), ⟨_, rfl, c, C, dx, _, _, rfl, hc, T.cl, T.nB, cfl_b n t, k⟩⟩
abbrev nGoes : List Str := ["cabinet", "standing", "drawer", "bar"]
theorem scAg : FnScope nGoes ["cabinet", "standing", "drawer"] (defScope s_bars_against) := ⟨rfl, rfl, rfl, by decide +kernel, rfl, by decide +kernel, by decide +kernel⟩
theorem ok_against {f f1 C : Addr} {fd fd1 : FuncData} (F : Fun K "bars_against" "bars_against" s_bars_against f fd) (CP : CabP P w K mg base C) (G : FnOk P w K mg base CX0 1 f1 fd1 ["bar", "standing", "drawer"] (spHold K)) (g1 : mg "hinders" = some (.ref f1)) (k1 : PySem.W.keepIn K (.ref f1) = true) (b1 : Binds K fd1 ["bar", "standing", "drawer"] []) :
    FnOk P w K mg base CX0 4 f fd ["cabinet", "standing", "drawer"] (spBarring C) := by
  refine F.ok scAg (fun vs H Q E h => ?_) (fun cdv A outer s H vs Q E hr h => ?_)
  · obtain ⟨c, t, ks, st, d, rfl, _⟩ := h.h
    rfl
  · obtain ⟨c, t, ks, st, d, rfl, ⟨dx, hc⟩, B, O, n7, n100, d0, d1, k⟩ := h.h
    obtain ⟨pB, gB, fdB, hpB, GB, bB⟩ := CP.b
    refine ⟨_, pss_one (ps_ret (pe_lc (own := [("bar", 3)]) (g := gName 3) (by rfl) scAg.nd (pi_tup (pe_prop (pv 0) CP.cl hpB GB (hr.mono (by decide)) bB .nil pass0 rfl)) (blkOk_by (N := nGoes) (sc := defScope s_bars_against) (by decide +kernel)) (fun _ _ _ _ _ => pg_name (i := 3) scAg.nd rfl (Or.inl rfl))
        (fun _ _ _ _ _ => pts_one (pt_val (pe_call G (hr.mono (by decide)) rfl g1 k1 b1 .nil pass0 (pa_cons (pv 3) (pa_cons (pv 1) (pa_cons (pv 2) pa_nil)))))) (fun _ _ _ _ _ => pv 3))), ?_⟩
    refine ⟨_, rfl, c, dx, _, rfl, hc, ⟨⟨c, dx, _, t, rfl, hc, ?_⟩⟩⟩
    refine ⟨t, rfl, ⟨_, SqT.of' B.tu⟩, fun D hD => ?_⟩
    refine lc_pick (walk_bars (K := K) (a := t) (l := ks) (f := fun k => V.ref k.1)) ks rfl (by omega) (fun k => hind k.2 st d) (fun k => V.ref k.1) hD (fun H' s1 => SqT.of' (s1 _ _ B.tu)) ?_ (fun H' s1 hD1 => k D H' hD s1 hD1)
    rintro i x kk H1 H1' Tk Nk ek s1 ⟨rfl, z, ez, rfl⟩ kT kF
    rw [ek] at ez
    cases ez
    have hm : kk ∈ ks := List.mem_of_getElem? ek
    have hok : kk.2.ok st.length := O.ok _ (List.mem_map.mpr ⟨kk, hm, rfl⟩)
    refine ⟨rfl, ?_⟩
    refine ⟨_, rfl, _, rfl, _, rfl, ⟨⟨kk.1, kk.2, st, d, rfl, SqT.of' (s1 _ _ (B.el kk hm)), hok, by omega, d0, d1, _, rfl, ?_⟩⟩⟩
    cases e : hind kk.2 st d with
    | true => exact iteT ⟨_, rfl, kT _ e (Same.refl _)⟩
    | false => exact iteF (kF _ e (Same.refl _))
theorem goes_empty {ks : List (Addr × Bar)} {bs : List Bar} (e : ks.map (·.2) = bs) (st : List Bool) (d : Int) : ((ks.filter fun k => hind k.2 st d).map fun k => V.ref k.1).isEmpty = goesB bs st d := by
  subst e
  unfold goesB
  induction ks with
  | nil => rfl
  | cons k ks ih =>
    rw [List.map_cons, List.any_cons]
    by_cases q : hind k.2 st d = true
    · rw [List.filter_cons, if_pos q, q]
      rfl
    · rw [List.filter_cons, if_neg q]
      have q' : hind k.2 st d = false := by simpa using q
      rw [q', Bool.false_or]
      exact ih
theorem scGoes : FnScope ["cabinet", "standing", "drawer"] ["cabinet", "standing", "drawer"] (defScope s_goes) := ⟨rfl, rfl, rfl, by decide +kernel, rfl, by decide +kernel, by decide +kernel⟩
theorem ok_goes {f f1 C : Addr} {fd fd1 : FuncData} (F : Fun K "goes" "goes" s_goes f fd) (G : FnOk P w K mg base CX0 4 f1 fd1 ["cabinet", "standing", "drawer"] (spBarring C)) (g1 : mg "bars_against" = some (.ref f1)) (k1 : PySem.W.keepIn K (.ref f1) = true) (b1 : Binds K fd1 ["cabinet", "standing", "drawer"] []) :
    FnOk P w K mg base CX0 6 f fd ["cabinet", "standing", "drawer"] (spGoes C) := by
  refine F.ok scGoes (fun vs H Q E h => ?_) (fun cdv A outer s H vs Q E hr h => ?_)
  · obtain ⟨c, bs, st, d, rfl, _⟩ := h.h
    rfl
  · obtain ⟨c, bs, st, d, rfl, B, d0, d1, k⟩ := h.h
    obtain ⟨t, ks, hc, hB, ebs, O, n1, n7, n100⟩ := B.h
    refine ⟨_, pss_one (ps_ret (pe_notT (pe_call G (hr.mono (by decide)) rfl g1 k1 b1 .nil pass0 (pa_cons (pv 0) (pa_cons (pv 1) (pa_cons (pv 2) pa_nil)))))), ?_⟩
    refine ⟨_, rfl, _, rfl, _, rfl, ⟨⟨c, t, ks, st, d, rfl, hc, hB, by rw [ebs]; exact O, by omega, by rw [← ebs, List.length_map] at n100; exact n100, d0, d1, fun p H' hp s1 h1 => ?_⟩⟩⟩
    refine ⟨_, .inl ⟨_, SqL.of h1, rfl⟩, ?_⟩
    rw [Bool.not_not, goes_empty ebs]
    exact k H' s1
end
end DL

set_option Elab.async false
set_option maxRecDepth 100000
namespace DL
open PySem L2 HT TL
theorem drs_get {n i : Nat} (h : i < n) : (drs n)[i]? = some (i : Int) := by
  unfold drs
  rw [List.getElem?_map, List.getElem?_range h]
  rfl
theorem take_succ_filter {α : Type} (f : α → Bool) {l : List α} {i : Nat} {x : α} (h : l[i]? = some x) : (l.take (i + 1)).filter f = if f x = true then (l.take i).filter f ++ [x] else (l.take i).filter f := by
  obtain ⟨hl, e⟩ := List.getElem?_eq_some_iff.mp h
  rw [List.take_succ_eq_append_getElem hl, List.filter_append, e]
  by_cases q : f x = true
  · rw [if_pos q, List.filter_cons_of_pos q, List.filter_nil]
  · rw [if_neg q, List.filter_cons_of_neg q, List.filter_nil, List.append_nil]
theorem drs_len (n : Nat) : (drs n).length = n := by unfold drs; rw [List.length_map, List.length_range]
/-- a drawn cabinet's parts: the list at p -/
structure DrOk (H : Hp) (p : Addr) (n : Int) (bs : List Bar) : Prop where
  h : ∃ (t : Addr) (ks : List (Addr × Bar)) (zs : List V), H p = some (.lst (.int n :: .ref t :: zs)) ∧ BarsAt H t ks ∧ ks.map (·.2) = bs ∧ OkBars n bs ∧ 1 ≤ n ∧ n ≤ 7 ∧ bs.length ≤ 100
theorem DrOk.same {H H' : Hp} {p : Addr} {n : Int} {bs : List Bar} (B : DrOk H p n bs) (s : Same H H') : DrOk H' p n bs := by
  obtain ⟨t, ks, zs, h1, h2, h3⟩ := B.h
  exact ⟨⟨t, ks, zs, s _ _ h1, h2.same s, h3⟩⟩
structure spLawFree (vs : List V) (H : Hp) (Q : VK) (_ : XK) : Prop where
  h : ∃ (p : Addr) (bs : List Bar) (st : List Bool), vs = [.ref p, .str (sstr st)] ∧ DrOk H p st.length bs ∧ ∀ (q : Addr) (H' : Hp), H q = none → Same H H' → H' q = some (.lst ((freeL bs st).map V.int)) → Q (.ref q) H'
theorem occ_so (b : Bool) : Builtin.Str.occurrences ("so" : Str) ⟨#[sg b]⟩ 0 ("so" : Str).length 1 = [if b = true then 1 else 0] := by revert b; decide +kernel
theorem os_at (b : Bool) : atI ("os" : Str).cps.toList (((if b = true then 1 else 0 : Nat) : Int)) = some (sg (!b)) := by revert b; decide +kernel
theorem join_codes (cs : List Nat) : Txt.join "" (cs.map fun c => (⟨#[c]⟩ : Str)) = ⟨cs.toArray⟩ := by
  rw [join_eq]
  refine PyProof.Rows.ext_toList ?_
  show tl _ = cs
  rw [tl_join]
  have z : tl ("" : Str) = [] := by decide +kernel
  rw [z]
  have : ∀ l : List Nat, joinL [] ((l.map fun c => (⟨#[c]⟩ : Str)).map tl) = l := by
    intro l
    induction l with
    | nil => rfl
    | cons a l ih =>
      cases l with
      | nil => rfl
      | cons b l =>
        show [a] ++ ([] ++ joinL [] (((b :: l).map fun c => (⟨#[c]⟩ : Str)).map tl)) = _
        rw [ih]
        rfl
  exact this cs
theorem sum_ones (cs : List Nat) : ((cs.map fun c => (⟨#[c]⟩ : Str)).map (·.length)).sum = cs.length := by
  induction cs with
  | nil => rfl
  | cons a l ih =>
    rw [List.map_cons, List.map_cons, List.sum_cons, ih, List.length_cons]
    show 1 + l.length = _
    omega
theorem flip_sat {st : List Bool} {d : Int} {i : Nat} (h : i < st.length) (d0 : 0 ≤ d) : (flip st d)[i]? = some (if (i : Int) = d then !sat st d else sat st i) := by
  unfold flip sat
  rw [Int.toNat_natCast]
  by_cases q : (i : Int) = d
  · subst q
    rw [if_pos rfl, Int.toNat_natCast, List.getElem?_set_self h]
  · rw [if_neg q, List.getElem?_set_ne (by omega), List.getD_eq_getElem?_getD, List.getElem?_eq_getElem h]
    rfl
section
variable {P : Program} {w : World} {K : PySem.W.Frag} {mg : Str → Option Value} {base : Heap}
abbrev nFD : List Str := ["cabinet", "standing", "drawer"]
theorem scFD : FnScope nFD ["cabinet", "standing"] (defScope s_free_drawers) := ⟨rfl, rfl, rfl, by decide +kernel, rfl, by decide +kernel, by decide +kernel⟩
theorem ok_freeDrawers {f f1 C : Addr} {fd fd1 : FuncData} (F : Fun K "free_drawers" "free_drawers" s_free_drawers f fd) (T : Bt mg) (CP : CabP P w K mg base C) (G : FnOk P w K mg base CX0 6 f1 fd1 ["cabinet", "standing", "drawer"] (spGoes C)) (g1 : mg "goes" = some (.ref f1)) (k1 : PySem.W.keepIn K (.ref f1) = true) (b1 : Binds K fd1 ["cabinet", "standing", "drawer"] []) :
    FnOk P w K mg base CX0 8 f fd ["cabinet", "standing"] (spFreeDrawers C) := by
  refine F.ok scFD (fun vs H Q E h => ?_) (fun cdv A outer s H vs Q E hr h => ?_)
  · obtain ⟨c, bs, st, rfl, _⟩ := h.h
    rfl
  · obtain ⟨c, bs, st, rfl, B, k⟩ := h.h
    obtain ⟨t, ks, ⟨dx, hc⟩, hB, ebs, O, n1, n7, n100⟩ := id B.h
    obtain ⟨pD, gD, fdD, hpD, GD, bD⟩ := CP.d
    refine ⟨_, pss_one (ps_ret
      (pe_lc (own := [("drawer", 2)]) (g := gName 2) (by rfl) scFD.nd (pi_range1 (by rfl) T.range (pa_cons (pe_prop (pv 0) CP.cl hpD GD (hr.mono (by decide)) bD .nil pass0 rfl) pa_nil)) (blkOk_by (N := nFD) (sc := defScope s_free_drawers) (by decide +kernel)) (fun _ _ _ _ _ => pg_name (i := 2) scFD.nd rfl (by first | exact Or.inl rfl | exact Or.inr rfl))
        (fun _ _ _ _ _ => pts_one (pt_val (pe_call G (hr.mono (by decide)) rfl g1 k1 b1 .nil pass0 (pa_cons (pv 0) (pa_cons (pv 1) (pa_cons (pv 2) pa_nil)))))) (fun _ _ _ _ _ => pv 2))), ?_⟩
    refine ⟨_, rfl, c, dx, _, rfl, hc, ⟨⟨c, dx, _, t, rfl, hc, ?_⟩⟩⟩
    refine ⟨_, rfl, by omega, by omega, fun D hD => ?_⟩
    refine lc_range (lo := 0) (n := st.length) (fun i H' => Same H H' ∧ H' D = some (.lst ((((drs st.length).take i).filter fun d => goesB bs st d).map V.int))) ⟨same_upd hD, upd_same⟩ ?_ ?_
    · rintro i H' hi ⟨s1, hD1⟩
      refine ⟨rfl, ?_⟩
      have ei : (0 : Int) + (i : Nat) = (i : Int) := by omega
      refine ⟨_, rfl, _, rfl, _, rfl, ⟨⟨c, bs, st, (0 : Int) + (i : Nat), rfl, B.same s1, by omega, by omega, fun H2 s2 => ⟨_, rfl, ?_⟩⟩⟩⟩
      rw [take_succ_filter (fun d => goesB bs st d) (drs_get hi), ei]
      cases e : goesB bs st i with
      | true =>
        refine iteT ⟨_, rfl, _, s2 _ _ hD1, ?_, fun b o eb => ?_, ?_⟩
        · rw [List.length_map]
          have := List.length_filter_le (fun d => goesB bs st d) ((drs st.length).take i)
          rw [List.length_take, drs_len] at this
          exact small1000 (by omega)
        · rw [upd_ne (ne_of_none eb hD)]
          exact s2 _ _ (s1 _ _ eb)
        · rw [upd_same, if_pos rfl, List.map_append]
          rfl
      | false =>
        refine iteF ⟨fun b o eb => s2 _ _ (s1 _ _ eb), ?_⟩
        rw [if_neg Bool.false_ne_true]
        exact s2 _ _ hD1
    · rintro H' ⟨s1, hD1⟩
      refine k D H' hD s1 ?_
      rw [List.take_of_length_le (by rw [drs_len]; exact Nat.le_refl _)] at hD1
      exact hD1
theorem scLHold : FnScope ["_law_bar", "_law_standing", "_law_drawer"] ["_law_bar", "_law_standing", "_law_drawer"] (defScope s__law_hold) := ⟨rfl, rfl, rfl, by decide +kernel, rfl, by decide +kernel, by decide +kernel⟩
theorem ok_lawHold {f : Addr} {fd : FuncData} (F : Fun K "_law_hold" "_law_hold" s__law_hold f fd) : FnOk P w K mg base CX0 1 f fd ["_law_bar", "_law_standing", "_law_drawer"] (spHold K) := by
  refine F.ok scLHold (fun vs H Q E h => ?_) (fun cdv A outer s H vs Q E hr h => ?_)
  · obtain ⟨a, b, st, d, rfl, _⟩ := h.h
    rfl
  · obtain ⟨a, b, st, d, rfl, hq, hb, h7, d0, d1, k⟩ := h.h
    obtain ⟨b1, b2, b3, b4, b5⟩ := hb
    refine ⟨_, pss_cons (ps_if (PW.pt (pw_or (pt_cmpR op_ne (pe_ix ix_tup (pv 0) pe_int (fun _ _ => rfl)) (pv 2) (nomark _)) (pw_or1 (pt_cmpR op_ne (pe_ix ix_tup (pv 0) pe_int (fun _ _ => rfl)) (pe_ifExp (pt_cmpR op_eq (pe_ix ix_str (pv 1) (pv 2) (fun _ _ => rfl)) pe_str (nomark _)) pe_str pe_str) (nomark _))))) (pss_one (ps_ret pe_bl)) pss_nil)
      (pss_one (ps_ret (pe_cmpR op_ne (pe_ix ix_tup (pv 0) pe_int (fun _ _ => rfl)) (pe_ifExp (pt_cmpR op_eq (pe_ix ix_str (pv 1) (pe_ix ix_tup (pv 0) pe_int (fun _ _ => rfl)) (fun _ _ => rfl)) pe_str (nomark _)) pe_str pe_str) (nomark _)))), ?_⟩
    refine ⟨_, rfl, a, _, 0, .int b.d, rfl, rfl, hq, atI_nat (j := 0) rfl, _, rfl, rfl, _, rfl, ?_⟩
    have e0 : decide ((V.int b.d) = V.int d) = decide (b.d = d) := decide_eq_decide.mpr ⟨fun z => by injection z, fun z => by rw [z]⟩
    show if (!decide ((V.int b.d) = V.int d)) = true then _ else _
    rw [e0]
    unfold hind at k
    by_cases q : b.d = d
    · rw [decide_eq_true q] at k ⊢
      refine iteF ?_
      refine ⟨_, rfl, a, _, 1, .str (wd b.w), rfl, rfl, hq, atI_nat (j := 1) rfl, ?_⟩
      refine ⟨_, rfl, _, rfl, _, d, _, rfl, rfl, str_small h7, sstr_at d0 d1, rfl, _, rfl, ?_⟩
      show if decide ((V.str ⟨#[sg (sat st d)]⟩) = V.str "s") = true then _ else _
      rw [sgs_s]
      have second : ∀ H0 : Hp, H0 = H → (sat st d == b.w) = true → (tRet (tOp rNe (tOp (rIxT K) (tVar 0) (tC (.int 3))) (tIf (tTest (tOp rEq (tOp rIxS (tVar 1) (tOp (rIxT K) (tVar 0) (tC (.int 2)))) (tC (.str "o")))) (tC (.str "open")) (tC (.str "shut"))))
          { nx := fun _ H' => Q .non H', rt := Q } (L2.start ["_law_bar", "_law_standing", "_law_drawer"] [.ref a, .str (sstr st), .int d]) H0) := by
        intro H0 e0 e1
        subst e0
        rw [e1] at k
        refine ⟨_, rfl, a, _, 3, .str (wd b.t), rfl, rfl, hq, atI_nat (j := 3) rfl, ?_⟩
        refine ⟨_, rfl, _, rfl, a, _, 2, .int b.o, rfl, rfl, hq, atI_nat (j := 2) rfl, _, b.o, _, rfl, rfl, str_small h7, sstr_at b3 b4, rfl, _, rfl, ?_⟩
        show if decide ((V.str ⟨#[sg (sat st b.o)]⟩) = V.str "o") = true then _ else _
        rw [sgs_o]
        cases e : sat st b.o with
        | true =>
          rw [e] at k
          refine iteT ⟨rfl, ?_⟩
          show Q (.bl (!decide ((V.str (wd b.t)) = V.str (wd false)))) H0
          rw [wd_ne]
          revert k; cases b.t <;> exact id
        | false =>
          rw [e] at k
          refine iteF ⟨rfl, ?_⟩
          show Q (.bl (!decide ((V.str (wd b.t)) = V.str (wd true)))) H0
          rw [wd_ne]
          revert k; cases b.t <;> exact id
      cases e : sat st d with
      | false =>
        refine iteT ⟨rfl, _, rfl, ?_⟩
        show if (!decide ((V.str (wd b.w)) = V.str (wd false))) = true then _ else _
        rw [wd_ne]
        cases ew : b.w with
        | false => exact iteF (second H rfl (by rw [e, ew]; rfl))
        | true =>
          rw [e, ew] at k
          exact iteT k
      | true =>
        refine iteF ⟨rfl, _, rfl, ?_⟩
        show if (!decide ((V.str (wd b.w)) = V.str (wd true))) = true then _ else _
        rw [wd_ne]
        cases ew : b.w with
        | true => exact iteF (second H rfl (by rw [e, ew]; rfl))
        | false =>
          rw [e, ew] at k
          exact iteT k
    · rw [decide_eq_false q] at k ⊢
      exact iteT k
end
end DL

set_option Elab.async false
set_option maxRecDepth 100000
namespace DL
open PySem L2 HT TL
section
variable {P : Program} {w : World} {K : PySem.W.Frag} {mg : Str → Option Value} {base : Heap}
abbrev nLF : List Str := ["_law_d", "_law_standing", "_law_drawer", "_law_bar"]
theorem scLF : FnScope nLF ["_law_d", "_law_standing"] (defScope s__law_free) := ⟨rfl, rfl, rfl, by decide +kernel, rfl, by decide +kernel, by decide +kernel⟩
theorem ok_lawFree {f f1 : Addr} {fd fd1 : FuncData} (F : Fun K "_law_free" "_law_free" s__law_free f fd) (T : Bt mg) (G : FnOk P w K mg base CX0 1 f1 fd1 ["_law_bar", "_law_standing", "_law_drawer"] (spHold K)) (g1 : mg "_law_hold" = some (.ref f1)) (k1 : PySem.W.keepIn K (.ref f1) = true)
    (b1 : Binds K fd1 ["_law_bar", "_law_standing", "_law_drawer"] []) (zA : mg "any" = none) : FnOk P w K mg base CX0 2 f fd ["_law_d", "_law_standing"] spLawFree := by
  refine F.ok scLF (fun vs H Q E h => ?_) (fun cdv A outer s H vs Q E hr h => ?_)
  · obtain ⟨p, bs, st, rfl, _⟩ := h.h
    rfl
  · obtain ⟨p, bs, st, rfl, B, k⟩ := h.h
    obtain ⟨t, ks, zs, hp, hB, ebs, O, n1, n7, n100⟩ := id B.h
    refine ⟨_, pss_one (ps_ret
      (pe_lc (own := [("_law_drawer", 2)]) (g := gName 2) (by rfl) scLF.nd (pi_range1 (by rfl) T.range (pa_cons (pe_ix ix_list (pv 0) pe_int (fun _ _ => rfl)) pa_nil)) (blkOk_by (N := nLF) (sc := defScope s__law_free) (by decide +kernel)) (fun _ _ _ _ _ => pg_name (i := 2) scLF.nd rfl (by first | exact Or.inl rfl | exact Or.inr rfl))
        (fun _ _ _ _ _ => pts_one (pt_not (pt_val (pe_callB (cr_anyK (K := K) rfl rfl) (by rfl) zA boot_any_ (pa_cons
          (by exact (pe_lc (own := [("_law_bar", 3)]) (g := gName 3) (tt := tYes) (by rfl) scLF.nd (pi_tupK (K := K) rfl (pe_ix (ix_listK (K := K) rfl) (pv 0) pe_int (fun _ _ => rfl))) (blkOk_by (N := nLF) (by rfl)) (fun _ _ _ _ _ => pg_name (i := 3) scLF.nd rfl (Or.inl rfl)) (fun _ _ _ _ _ => pts_nil)
            (fun _ _ _ _ _ => pe_call G (hr.mono (by decide)) rfl g1 k1 b1 .nil pass0 (pa_cons (pv 3) (pa_cons (pv 1) (pa_cons (pv 2) pa_nil)))))) pa_nil))))) (fun _ _ _ _ _ => pv 2))), ?_⟩
    refine ⟨_, rfl, p, _, 0, .int _, rfl, rfl, SqL.of hp, atI_nat (j := 0) rfl, _, rfl, by omega, by omega, fun D hD => ?_⟩
    refine lc_range (lo := 0) (n := st.length) (fun i H' => Same H H' ∧ H' D = some (.lst ((((drs st.length).take i).filter fun d => goesB bs st d).map V.int))) ⟨same_upd hD, upd_same⟩ ?_ ?_
    · rintro i H' hi ⟨s1, hD1⟩
      refine ⟨rfl, ?_⟩
      have ei : (0 : Int) + (i : Nat) = (i : Int) := by omega
      refine ⟨_, rfl, p, _, 1, .ref t, rfl, rfl, SqL.of (s1 _ _ hp), atI_nat (j := 1) rfl, t, rfl, ⟨_, SqT.of' (s1 _ _ hB.tu)⟩, fun D2 hD2 => ?_⟩
      refine lc_tup (K := K) (a := t) (xs := ks.map fun k => V.ref k.1) (fun j H2 => Same H' H2 ∧ H2 D2 = some (.lst (((ks.take j).map fun k => hind k.2 st i).map V.bl))) ⟨same_upd hD2, upd_same⟩ (fun j H2 _ q => SqT.of' (q.1 _ _ (s1 _ _ hB.tu))) ?_ ?_
      · rintro j x H2 hj ⟨s2, hD3⟩
        rw [List.getElem?_map] at hj
        cases ek : ks[j]? with
        | none => rw [ek] at hj; cases hj
        | some kk =>
          rw [ek] at hj
          cases hj
          have hm : kk ∈ ks := List.mem_of_getElem? ek
          have hok : kk.2.ok st.length := O.ok _ (by rw [← ebs]; exact List.mem_map.mpr ⟨kk, hm, rfl⟩)
          refine ⟨rfl, tYes_of (iteT ?_)⟩
          refine ⟨_, rfl, _, rfl, _, rfl, ⟨⟨kk.1, kk.2, st, (0 : Int) + (i : Nat), rfl, SqT.of' (s2 _ _ (s1 _ _ (hB.el kk hm))), hok, by omega, by omega, by omega, ?_⟩⟩⟩
          refine ⟨_, hD3, ?_, fun b o e => ?_, ?_⟩
          · rw [List.length_map, List.length_map, List.length_take]
            have h2 : ks.length ≤ 100 := by rw [← ebs, List.length_map] at n100; exact n100
            exact small1000 (by omega)
          · rw [upd_ne (ne_of_none e hD2)]
            exact s2 b o e
          · rw [upd_same, ei]
            congr 2
            rw [List.map_map, List.map_map]
            exact take_succ_map (V.bl ∘ fun k => hind k.2 st i) ek
      · rintro H2 ⟨s2, hD3⟩
        refine ⟨D2, _, rfl, SqL.of hD3, _, rfl, ?_⟩
        rw [any_take ebs fun b => hind b st i]
        rw [take_succ_filter (fun d => goesB bs st d) (drs_get hi)]
        show if (goesB bs st i) = true then _ else _
        cases e : goesB bs st i with
        | true =>
          refine iteT ⟨_, rfl, _, s2 _ _ hD1, ?_, fun b o eb => ?_, ?_⟩
          · rw [List.length_map]
            have := List.length_filter_le (fun d => goesB bs st d) ((drs st.length).take i)
            rw [List.length_take, drs_len] at this
            exact small1000 (by omega)
          · rw [upd_ne (ne_of_none eb hD)]
            exact s2 _ _ (s1 _ _ eb)
          · rw [upd_same, if_pos rfl, List.map_append, ei]
            rfl
        | false =>
          refine iteF ⟨fun b o eb => s2 _ _ (s1 _ _ eb), ?_⟩
          rw [if_neg Bool.false_ne_true]
          exact s2 _ _ hD1
    · rintro H' ⟨s1, hD1⟩
      refine k D H' hD s1 ?_
      rw [List.take_of_length_le (by rw [drs_len]; exact Nat.le_refl _)] at hD1
      exact hD1
abbrev nLM : List Str := ["_law_standing", "_law_drawer", "_law_at"]
theorem scLM : FnScope nLM ["_law_standing", "_law_drawer"] (defScope s__law_moved) := ⟨rfl, rfl, rfl, by decide +kernel, rfl, by decide +kernel, by decide +kernel⟩
theorem ok_lawMoved {f : Addr} {fd : FuncData} (F : Fun K "_law_moved" "_law_moved" s__law_moved f fd) (T : Bt mg) : FnOk P w K mg base CX0 1 f fd ["_law_standing", "_law_drawer"] spMoved := by
  refine F.ok scLM (fun vs H Q E h => ?_) (fun cdv A outer s H vs Q E hr h => ?_)
  · obtain ⟨st, d, rfl, _⟩ := h.h
    rfl
  · obtain ⟨st, d, rfl, h7, d0, d1, k⟩ := h.h
    refine ⟨_, pss_one (ps_ret (pe_join pe_str
      (pe_lc (own := [("_law_at", 2)]) (g := gName 2) (tt := tYes) (by rfl) scLM.nd (pi_range1 (by rfl) T.range (pa_cons (pe_callB call_len_str (by rfl) T.len PySem.boot_len (pa_cons (pv 0) pa_nil)) pa_nil)) (blkOk_by (N := nLM) (sc := defScope s__law_moved) (by decide +kernel)) (fun _ _ _ _ _ => pg_name (i := 2) scLM.nd rfl (by first | exact Or.inl rfl | exact Or.inr rfl)) (fun _ _ _ _ _ => pts_nil)
        (fun _ _ _ _ _ => pe_ifExp (pt_cmpR op_ne (pv 2) (pv 1) (nomark _)) (pe_ix ix_str (pv 0) (pv 2) (fun _ _ => rfl)) (pe_ix ix_str pe_str (pe_bmK (K := K) rfl PySem.F.plainAttrs_str PySem.F.slot_str_index PySem.F.type_str_index mt_sindex pe_str (pa_cons (pe_ix ix_str (pv 0) (pv 2) (fun _ _ => rfl)) pa_nil)) (fun _ _ => rfl)))))), ?_⟩
    refine ⟨⟨_, rfl⟩, ?_⟩
    refine ⟨_, rfl, _, rfl, str_small h7, _, rfl, ?_⟩
    rw [sstr_len]
    refine ⟨by omega, by omega, fun D hD => ?_⟩
    refine lc_range (lo := 0) (n := st.length) (fun i H' => Same H H' ∧ H' D = some (.lst ((((flip st d).take i).map fun b => sgs b).map V.str))) ⟨same_upd hD, upd_same⟩ ?_ ?_
    · rintro i H' hi ⟨s1, hD1⟩
      refine ⟨rfl, tYes_of (iteT ?_)⟩
      have ei : (0 : Int) + (i : Nat) = (i : Int) := by omega
      have small : ((((flip st d).take i).map fun b => sgs b).map V.str).length < sizeLine := by
        rw [List.length_map, List.length_map, List.length_take, flip_len]
        exact small1000 (by omega)
      have fin : ∀ b : Bool, (flip st d)[i]? = some b → ∃ acc, H' D = some (.lst acc) ∧ acc.length < sizeLine ∧ Same H (upd H' D (.lst (acc ++ [.str ⟨#[sg b]⟩]))) ∧ (upd H' D (.lst (acc ++ [.str ⟨#[sg b]⟩]))) D = some (.lst ((((flip st d).take (i + 1)).map fun b => sgs b).map V.str)) := by
        intro b hb
        refine ⟨_, hD1, small, fun c o e => ?_, ?_⟩
        · rw [upd_ne (ne_of_none e hD)]
          exact s1 c o e
        · rw [upd_same, List.map_map, List.map_map, ← take_succ_map (V.str ∘ fun b => sgs b) hb]
          rfl
      refine ⟨_, rfl, _, rfl, rfl, _, rfl, ?_⟩
      have e0 : decide ((V.int ((0 : Int) + (i : Nat))) = V.int d) = decide ((i : Int) = d) := decide_eq_decide.mpr ⟨fun z => by injection z with z; omega, fun z => by rw [ei, z]⟩
      show if (!decide ((V.int ((0 : Int) + (i : Nat))) = V.int d)) = true then _ else _
      rw [e0]
      have fs := flip_sat (st := st) (d := d) hi d0
      by_cases q : (i : Int) = d
      · rw [decide_eq_true q]
        rw [if_pos q] at fs
        refine iteF ⟨rfl, ?_⟩
        refine ⟨_, rfl, _, rfl, _, (0 : Int) + (i : Nat), _, rfl, rfl, str_small h7, sstr_at (by omega) (by omega), ?_⟩
        refine ⟨_, _, _, [], rfl, rfl, occ_so _, _, _, _, rfl, rfl, (by decide +kernel), os_at _, ?_⟩
        rw [ei, q]
        exact fin _ fs
      · rw [decide_eq_false q]
        rw [if_neg q] at fs
        refine iteT ?_
        refine ⟨_, rfl, _, rfl, _, (0 : Int) + (i : Nat), _, rfl, rfl, str_small h7, sstr_at (by omega) (by omega), ?_⟩
        rw [ei]
        exact fin _ fs
    · rintro H' ⟨s1, hD1⟩
      rw [List.take_of_length_le (by rw [flip_len]; exact Nat.le_refl _)] at hD1
      have em : ((flip st d).map fun b => sgs b) = ((flip st d).map sg).map fun c => (⟨#[c]⟩ : Str) := by rw [List.map_map]; rfl
      rw [em] at hD1
      refine ⟨_, D, _, rfl, rfl, .inl (SqL.of hD1), ?_, ?_⟩
      · rw [sum_ones, List.length_map, List.length_map, flip_len]
        have z : ("" : Str).length = 0 := by decide +kernel
        rw [z]
        omega
      · rw [join_codes]
        exact k H' s1
end
end DL

set_option Elab.async false
set_option maxRecDepth 100000

set_option Elab.async false
set_option maxRecDepth 100000
namespace DL
open PySem L2 HT TL
/-! ### the checks -/
/-- isinstance of a cabinet -/
structure CabI (K : PySem.W.Frag) (mg : Str → Option Value) (C : Addr) : Prop where
  cl : Cls K C
  mgC : mg "Cabinet" = some (.ref C)
  ha : PySem.W.findIn K (.ref C) "__class__" = some (some (.builtin "object.__class__"))
  hn : PySem.W.specialIn K (.builtin "object.__class__") "__get__" = some (some (.builtin "getset_descriptor.__get__"))
  htk : PySem.W.takesIn K (.builtin "object.__class__") = some true
  hm : PySem.W.mroIn K C (.type "object") = some true
  kk : PySem.W.kitOne K (.ref C) (.ref C) = some true
structure spCkCab (C : Addr) (vs : List V) (H : Hp) (Q : VK) (_ : XK) : Prop where
  h : ∃ (c : Addr) (n : Int) (t : Addr), vs = [.ref c] ∧ CabAt C H c n t ∧ Q .non H
theorem CabOk.cab {C : Addr} {H : Hp} {c : Addr} {n : Int} {bs : List Bar} (B : CabOk C H c n bs) : ∃ t, CabAt C H c n t ∧ n ≤ 7 := by
  obtain ⟨t, ks, h1, h2, h3, h4, h5, h6, h7⟩ := B.h
  exact ⟨t, h1, h6⟩
section
variable {P : Program} {w : World} {K : PySem.W.Frag} {mg : Str → Option Value} {base : Heap}
theorem scCkCab : FnScope ["cabinet"] ["cabinet"] (defScope s_check_cabinet) := ⟨rfl, rfl, rfl, by decide +kernel, rfl, by decide +kernel, by decide +kernel⟩
theorem ok_ckCab {f C : Addr} {fd : FuncData} (F : Fun K "check_cabinet" "check_cabinet" s_check_cabinet f fd) (T : Bt mg) (I : CabI K mg C) : FnOk P w K mg base CX0 1 f fd ["cabinet"] (spCkCab C) := by
  refine F.ok scCkCab (fun vs H Q E h => ?_) (fun cdv A outer s H vs Q E hr h => ?_)
  · obtain ⟨c, n, t, rfl, _⟩ := h.h
    rfl
  · obtain ⟨c, n, t, rfl, ⟨dx, hc⟩, k⟩ := h.h
    refine ⟨_, pss_one (ps_if (pt_not (pt_val (pe_callB call_isi (by rfl) T.isinstance (by decide +kernel) (pa_cons (pv 0) (pa_cons (pe_glob (v := .ref C) rfl I.mgC rfl) pa_nil))))) (pss_one ps_never) pss_nil), ?_⟩
    exact ⟨_, rfl, _, _, _, _, true, rfl, .own C, .base (.ins hc I.cl I.ha I.hn I.htk I.hm), I.kk, _, rfl, iteF k⟩
end
end DL

set_option Elab.async false
set_option maxRecDepth 100000
namespace DL
open PySem PySem.Spec PyProof.Rows L2
/-! ### text * number -/
theorem op_mul_str {X : Cx} : OpR X (binaryOp .Mult) (fun x y H Q => ∃ (z : Str) (n : Int), x = .str z ∧ y = .int n ∧ MulOk z n ∧ Q (.str (Txt.mul z n)) H) := by
  intro pins s σ H x y v u Q I rx ry h
  obtain ⟨z, n, rfl, rfl, ok, q⟩ := h
  obtain ⟨t, rfl⟩ := rx
  obtain ⟨t', rfl⟩ := ry
  exact SB.mul ok fun t2 k => ⟨.str _, H, I.tok k, ⟨_, rfl⟩, q⟩
theorem mulOk_one {z : Str} {n : Int} (hz : z.length = 1) (h1 : 1 ≤ n) (h7 : n ≤ 7) : MulOk z n := by
  refine ⟨?_, fun _ _ => ?_, fun _ _ => ?_⟩
  · rw [decide_eq_false (by omega), decide_eq_false (by omega)]; rfl
  · rw [hz]
    have : n = 1 ∨ n = 2 ∨ n = 3 ∨ n = 4 ∨ n = 5 ∨ n = 6 ∨ n = 7 := by omega
    rcases this with rfl | rfl | rfl | rfl | rfl | rfl | rfl <;> decide
  · rw [hz]
    have : n = 1 ∨ n = 2 ∨ n = 3 ∨ n = 4 ∨ n = 5 ∨ n = 6 ∨ n = 7 := by omega
    rcases this with rfl | rfl | rfl | rfl | rfl | rfl | rfl <;> decide +kernel
/-! ### for a, b in zip(x, y), two texts -/
end DL

set_option Elab.async false
set_option maxRecDepth 100000
namespace DL
open PySem L2 HT TL
/-! ### patterns and rows -/
theorem pg_tupK {X : Cx} {K : PySem.W.Frag} {pos : Pos} {es : List Expr} {k : Nat} {t : TGs} {n : Nat} (hK : X.K = K) (hc : X.calm = true) (h : PGs X es t) (h1 : (assignEach es X.env).length = n := by rfl) (h2 : List.findIdx? (fun x => x.1) (assignEach es X.env) = none := by rfl) :
    PG X (.Tuple es k pos) (gTup K n t) := by subst hK; exact pg_tup hc h h1 h2
theorem SqT.same {K : PySem.W.Frag} {H H' : Hp} {a : Addr} {xs : List V} (s : Same H H') (h : SqT K H a xs) : SqT K H' a xs := by
  rcases h with (h | ⟨o, h⟩) | h
  · exact .inl (.inl (s _ _ h))
  · exact .inl (.inr ⟨o, s _ _ h⟩)
  · exact .inr h
def runB (bs : List Bar) (st : List Bool) : List Int → Option (List Bool)
  | [] => some st
  | d :: ds => if goesB bs st d = true then runB bs (flip st d) ds else none
theorem runB_cons (bs : List Bar) (st : List Bool) (d : Int) (ds : List Int) : runB bs st (d :: ds) = if goesB bs st d = true then runB bs (flip st d) ds else none := rfl
def shutS (n : Nat) : List Bool := List.replicate n false
structure spFirst (vs : List V) (H : Hp) (Q : VK) (_ : XK) : Prop where
  h : ∃ n : Nat, vs = [.int n] ∧ 1 ≤ n ∧ n ≤ 7 ∧ Q (.str (sstr (shutS n))) H
theorem mul_shut {n : Nat} (h1 : 1 ≤ n) (h7 : n ≤ 7) : Txt.mul "s" (n : Int) = sstr (shutS n) := by
  have : n = 1 ∨ n = 2 ∨ n = 3 ∨ n = 4 ∨ n = 5 ∨ n = 6 ∨ n = 7 := by omega
  rcases this with rfl | rfl | rfl | rfl | rfl | rfl | rfl <;> decide +kernel
section
variable {P : Program} {w : World} {K : PySem.W.Frag} {mg : Str → Option Value} {base : Heap}
theorem scFirst : FnScope ["drawers"] ["drawers"] (defScope s_first_standing) := ⟨rfl, rfl, rfl, by decide +kernel, rfl, by decide +kernel, by decide +kernel⟩
theorem ok_first {f aS : Addr} {fd : FuncData} (F : Fun K "first_standing" "first_standing" s_first_standing f fd) (T : SgT K w mg aS) : FnOk P w K mg base CX0 1 f fd ["drawers"] spFirst := by
  refine F.ok scFirst (fun vs H Q E h => ?_) (fun cdv A outer s H vs Q E hr h => ?_)
  · obtain ⟨n, rfl, _⟩ := h.h
    rfl
  · obtain ⟨n, rfl, h1, h7, k⟩ := h.h
    refine ⟨_, pss_one (ps_ret (pe_op op_mul_str (pe_ix ix_kdict (pe_glob (v := .ref aS) rfl T.g rfl) pe_str (fun _ _ => rfl)) (pv 0))), ?_⟩
    refine ⟨aS, _, _, rfl, rfl, T.s, _, rfl, "s", (n : Int), rfl, rfl, mulOk_one (by decide +kernel) (by omega) (by omega), ?_⟩
    rw [mul_shut h1 h7]
    exact k
end
end DL

set_option Elab.async false
set_option maxRecDepth 100000

set_option Elab.async false
set_option maxRecDepth 100000
namespace DL
open PySem L2 HT TL
/-! ### a drawn cabinet: its parts at p, itself at c; the row of draws at r -/
structure Lay (C r p c : Addr) (H : Hp) (n : Int) (bs : List Bar) : Prop where
  h : ∃ (t : Addr) (ks : List (Addr × Bar)) (zs : List V), H p = some (.lst (.int n :: .ref t :: zs)) ∧ CabAt C H c n t ∧ BarsAt H t ks ∧ ks.map (·.2) = bs ∧ OkBars n bs ∧ 1 ≤ n ∧ n ≤ 7 ∧ bs.length ≤ 100 ∧ p ≠ r
theorem Lay.dr {C r p c : Addr} {H : Hp} {n : Int} {bs : List Bar} (L : Lay C r p c H n bs) : DrOk H p n bs := by
  obtain ⟨t, ks, zs, h1, h2, h3, h4, h5, h6, h7, h8, _⟩ := L.h
  exact ⟨⟨t, ks, zs, h1, h3, h4, h5, h6, h7, h8⟩⟩
theorem Lay.cab {C r p c : Addr} {H : Hp} {n : Int} {bs : List Bar} (L : Lay C r p c H n bs) : CabOk C H c n bs := by
  obtain ⟨t, ks, zs, h1, h2, h3, h4, h5, h6, h7, h8, _⟩ := L.h
  exact ⟨⟨t, ks, h2, h3, h4, h5, h6, h7, h8⟩⟩
theorem Lay.but {C r sc p c : Addr} {H H' : Hp} {n : Int} {bs : List Bar} (L : Lay C r p c H n bs) (R : RowOk H r sc) (B : But r H H') : Lay C r p c H' n bs := by
  obtain ⟨t, ks, zs, h1, ⟨dx, h2⟩, h3, h4, h5, h6, h7, h8, h9⟩ := L.h
  obtain ⟨i, m, e, hR, _⟩ := R.h
  exact ⟨⟨t, ks, zs, B _ _ h9 h1, ⟨dx, B _ _ (ne_of h2 hR (by intro z; cases z)) h2⟩, ⟨B.tup hR h3.tu, fun k hk => B.tup hR (h3.el k hk)⟩, h4, h5, h6, h7, h8, h9⟩⟩
theorem Lay.same {C r p c : Addr} {H H' : Hp} {n : Int} {bs : List Bar} (L : Lay C r p c H n bs) (s : Same H H') : Lay C r p c H' n bs := by
  obtain ⟨t, ks, zs, h1, ⟨dx, h2⟩, h3, h4⟩ := L.h
  exact ⟨⟨t, ks, zs, s _ _ h1, ⟨dx, s _ _ h2⟩, h3.same s, h4⟩⟩
theorem Lay.n1 {C r p c : Addr} {H : Hp} {n : Int} {bs : List Bar} (L : Lay C r p c H n bs) : 1 ≤ n ∧ n ≤ 7 := by
  obtain ⟨t, ks, zs, h1, h2, h3, h4, h5, h6, h7, h8⟩ := L.h
  exact ⟨h6, h7⟩
/-- the first part, the number of drawers -/
theorem Lay.at0 {C r p c : Addr} {H : Hp} {n : Int} {bs : List Bar} (L : Lay C r p c H n bs) (K : PySem.W.Frag) : ∃ xs, SqL K H p xs ∧ atI xs 0 = some (.int n) := by
  obtain ⟨t, ks, zs, h1, _⟩ := L.h
  exact ⟨_, SqL.of h1, atI_nat (j := 0) rfl⟩
/-- as the parts were drawn, the cabinet made -/
theorem Lay.mk' {C r p c t sc : Addr} {H1 H2 H3 : Hp} {n : Int} {ks : List (Addr × Bar)} (R1 : RowOk H1 r sc) (hp0 : H1 p = none) (hp : H3 p = some (.lst [.int n, .ref t])) (hcab : CabAt C H3 c n t) (hB : BarsAt H2 t ks) (s : Same H2 H3) (O : OkBars n (ks.map (·.2))) (n1 : 1 ≤ n) (n7 : n ≤ 7) (h13 : ks.length ≤ 13) :
    Lay C r p c H3 n (ks.map (·.2)) := by
  obtain ⟨i1, m1, e1, q1, _⟩ := id R1.h
  exact ⟨⟨t, ks, [], hp, hcab, hB.same s, rfl, O, n1, n7, by rw [List.length_map]; omega, (ne_of_none q1 hp0).symm⟩⟩
theorem free_in {bs : List Bar} {st : List Bool} {d : Int} (h : d ∈ freeL bs st) : 0 ≤ d ∧ d < st.length := by
  have hm := (List.mem_filter.mp h).1
  unfold drs at hm
  obtain ⟨i, hi, rfl⟩ := List.mem_map.mp hm
  have := List.mem_range.mp hi
  omega
theorem free_len (bs : List Bar) (st : List Bool) : (freeL bs st).length ≤ st.length := by
  have := List.length_filter_le (fun d => goesB bs st d) (drs st.length)
  rw [drs_len] at this
  exact this

end DL

set_option Elab.async false
set_option maxRecDepth 100000
set_option maxHeartbeats 1000000

set_option Elab.async false
set_option maxRecDepth 100000
set_option maxHeartbeats 1000000

set_option Elab.async false
set_option maxRecDepth 100000
set_option maxHeartbeats 1000000
namespace DL
open PySem L2
/-! ### the checks with what they raise -/
/-- what is_bar says False of -/
def NoBar (K : PySem.W.Frag) (H : Hp) (n : Int) (v : V) : Prop := (∃ t : Value, TyX K H v t ∧ PySem.W.kitOne K t (.type "tuple") = some false) ∨
  (∃ (a : Addr) (xs : List V), v = .ref a ∧ SqT K H a xs ∧ xs.length ≠ 4) ∨
  ∃ (a : Addr) (x0 x1 x2 x3 : V), v = .ref a ∧ SqT K H a [x0, x1, x2, x3] ∧ scV x0 = true ∧ scV x1 = true ∧ scV x2 = true ∧ scV x3 = true ∧ barB n x0 x1 x2 x3 = false
theorem NoBar.sp {K : PySem.W.Frag} {H : Hp} {n : Int} {v : V} {Q : VK} {E : XK} (h : NoBar K H n v) (k : Q (.bl false) H) : spIsBar K [.int n, v] H Q E := by
  rcases h with ⟨t, h1, h2⟩ | ⟨a, xs, rfl, h1, h2⟩ | ⟨a, x0, x1, x2, x3, rfl, h1, c0, c1, c2, c3, h2⟩
  · exact ⟨⟨n, .inl ⟨v, t, rfl, h1, h2, k⟩⟩⟩
  · exact ⟨⟨n, .inr (.inl ⟨a, xs, rfl, h1, h2, k⟩)⟩⟩
  · exact ⟨⟨n, .inr (.inr ⟨a, x0, x1, x2, x3, rfl, h1, c0, c1, c2, c3, by rw [h2]; exact k⟩)⟩⟩
end DL

set_option Elab.async false
set_option maxRecDepth 100000
namespace DL
open PySem L2 HT TL RZ
/-! ### sets of drawers -/
/-- a set: its drawers stand at a -/
structure SetAt (K : PySem.W.Frag) (H : Hp) (n : Int) (a : Addr) (ns : List Int) : Prop where
  at' : SqT K H a (ns.map V.int)
  low : ∀ d ∈ ns, 0 ≤ d ∧ d < n
  asc : ns.Pairwise (· < ·)
theorem SetAt.same {K : PySem.W.Frag} {H H' : Hp} {n : Int} {a : Addr} {ns : List Int} (S : SetAt K H n a ns) (s : Same H H') : SetAt K H' n a ns := ⟨SqT.same s S.at', S.low, S.asc⟩
end DL

set_option Elab.async false
set_option maxRecDepth 100000
namespace DL
open PySem PySem.Spec PyProof.Rows L2
/-! ### a walk over a list or a tuple, whichever it is -/
/-- at a: a list or a tuple -/
def SqA (K : PySem.W.Frag) (H : Hp) (a : Addr) (xs : List V) : Prop := SqL K H a xs ∨ SqT K H a xs
/-! ### two for in one comprehension -/
end DL

set_option Elab.async false
set_option maxRecDepth 100000
namespace DL
open PySem L2 HT TL
/-! ### rows in their order: by their number of pulls, then by their pulls; as numbers -/
def rcode (r : List Int) : Int := r.foldl (fun a d => a * 8 + (d + 1)) 0
theorem rcode_snoc (r : List Int) (d : Int) : rcode (r ++ [d]) = rcode r * 8 + (d + 1) := by
  unfold rcode
  rw [List.foldl_append]
  rfl
theorem rcode_nil : rcode [] = 0 := rfl
def Low7 (r : List Int) : Prop := ∀ d ∈ r, 0 ≤ d ∧ d ≤ 6
theorem snoc_ind {α : Type} {p : List α → Prop} (h0 : p []) (hs : ∀ l a, p l → p (l ++ [a])) (l : List α) : p l := by
  have : ∀ m : List α, p m.reverse := fun m => by
    induction m with
    | nil => exact h0
    | cons a m ih =>
      rw [List.reverse_cons]
      exact hs _ _ ih
  have h := this l.reverse
  rw [List.reverse_reverse] at h
  exact h
theorem Low7.init {r : List Int} {d : Int} (h : Low7 (r ++ [d])) : Low7 r ∧ 0 ≤ d ∧ d ≤ 6 := ⟨fun x hx => h x (List.mem_append_left _ hx), h d (List.mem_append_right _ (List.mem_singleton.mpr rfl))⟩
theorem rcode_nn : ∀ {r : List Int}, Low7 r → 0 ≤ rcode r := by
  intro r
  refine snoc_ind (p := fun r => Low7 r → 0 ≤ rcode r) (fun _ => Int.le_refl _) (fun l a ih h => ?_) r
  obtain ⟨h1, h2, h3⟩ := h.init
  have := ih h1
  rw [rcode_snoc]
  omega
theorem rcode_inj' : ∀ a b : List Int, Low7 a → Low7 b → rcode a = rcode b → a = b := by
  intro a
  refine snoc_ind (p := fun a => ∀ b, Low7 a → Low7 b → rcode a = rcode b → a = b) (fun b _ hb e => ?_) (fun l x ih b ha hb e => ?_) a
  · revert hb e
    refine snoc_ind (p := fun b => Low7 b → rcode [] = rcode b → [] = b) (fun _ _ => rfl) (fun l y _ hb e => ?_) b
    obtain ⟨h1, h2, h3⟩ := hb.init
    have := rcode_nn h1
    rw [rcode_snoc, rcode_nil] at e
    omega
  · obtain ⟨h1, h2, h3⟩ := ha.init
    have p1 := rcode_nn h1
    revert hb e
    refine snoc_ind (p := fun b => Low7 b → rcode (l ++ [x]) = rcode b → l ++ [x] = b) (fun _ e => ?_) (fun m y _ hb e => ?_) b
    · rw [rcode_snoc, rcode_nil] at e
      omega
    · obtain ⟨g1, g2, g3⟩ := hb.init
      have p2 := rcode_nn g1
      rw [rcode_snoc, rcode_snoc] at e
      rw [ih m h1 g1 (by omega), show x = y by omega]
theorem rcode_inj {a b : List Int} (ha : Low7 a) (hb : Low7 b) (h : rcode a = rcode b) : a = b := rcode_inj' a b ha hb h
/-- a row is before another -/
def Bef (a b : List Int) : Prop := rcode a < rcode b ∧ a.length ≤ b.length
/-- rows in order, each behind the first one but one pull longer than one of those ahead of the i-th -/
structure Asc (rs : List (List Int)) (i : Nat) : Prop where
  pw : rs.Pairwise Bef
  low : ∀ x ∈ rs, Low7 x
  par : ∀ x ∈ rs, x = [] ∨ ∃ (j : Nat) (q : List Int) (d : Int), j < i ∧ rs[j]? = some q ∧ x = q ++ [d]
structure AscD (rs : List (List Int)) (i : Nat) (p : List Int) (D : Int) : Prop where
  pw : rs.Pairwise Bef
  low : ∀ x ∈ rs, Low7 x
  at' : rs[i]? = some p
  par : ∀ x ∈ rs, x = [] ∨ (∃ (j : Nat) (q : List Int) (d : Int), j < i ∧ rs[j]? = some q ∧ x = q ++ [d]) ∨ ∃ d : Int, d < D ∧ x = p ++ [d]
theorem Asc.during {rs : List (List Int)} {i : Nat} {p : List Int} (A : Asc rs i) (h : rs[i]? = some p) : AscD rs i p 0 := by
  refine ⟨A.pw, A.low, h, fun x hx => ?_⟩
  rcases A.par x hx with q | q
  · exact .inl q
  · exact .inr (.inl q)
theorem AscD.done {rs : List (List Int)} {i : Nat} {p : List Int} {D : Int} (A : AscD rs i p D) : Asc rs (i + 1) := by
  refine ⟨A.pw, A.low, fun x hx => ?_⟩
  rcases A.par x hx with q | ⟨j, q, d, h1, h2, h3⟩ | ⟨d, h1, h2⟩
  · exact .inl q
  · exact .inr ⟨j, q, d, by omega, h2, h3⟩
  · exact .inr ⟨i, p, d, by omega, A.at', h2⟩
theorem AscD.up {rs : List (List Int)} {i : Nat} {p : List Int} {D D' : Int} (A : AscD rs i p D) (h : D ≤ D') : AscD rs i p D' := by
  refine ⟨A.pw, A.low, A.at', fun x hx => ?_⟩
  rcases A.par x hx with q | q | ⟨d, h1, h2⟩
  · exact .inl q
  · exact .inr (.inl q)
  · exact .inr (.inr ⟨d, by omega, h2⟩)
theorem AscD.below {rs : List (List Int)} {i : Nat} {p : List Int} {D d : Int} (A : AscD rs i p D) (hD : D ≤ d) (h0 : 0 ≤ d) : ∀ x ∈ rs, Bef x (p ++ [d]) := by
  intro x hx
  have hp : Low7 p := A.low p (List.mem_of_getElem? A.at')
  have pn := rcode_nn hp
  have lx := A.low x hx
  rcases A.par x hx with rfl | ⟨j, q, e, h1, h2, rfl⟩ | ⟨e, h1, rfl⟩
  · refine ⟨?_, by simp⟩
    rw [rcode_snoc, rcode_nil]
    omega
  · obtain ⟨g1, g2, g3⟩ := lx.init
    obtain ⟨l1, e1⟩ := List.getElem?_eq_some_iff.mp h2
    obtain ⟨l2, e2⟩ := List.getElem?_eq_some_iff.mp A.at'
    have := List.pairwise_iff_getElem.mp A.pw j i l1 l2 h1
    rw [e1, e2] at this
    obtain ⟨b1, b2⟩ := this
    refine ⟨?_, by rw [List.length_append, List.length_append]; exact Nat.add_le_add_right b2 _⟩
    rw [rcode_snoc, rcode_snoc]
    omega
  · refine ⟨?_, by rw [List.length_append, List.length_append]; exact Nat.le_refl _⟩
    rw [rcode_snoc, rcode_snoc]
    omega
theorem AscD.add {rs : List (List Int)} {i : Nat} {p : List Int} {D d : Int} (A : AscD rs i p D) (hD : D ≤ d) (h0 : 0 ≤ d) (h6 : d ≤ 6) : AscD (rs ++ [p ++ [d]]) i p (d + 1) := by
  have hp : Low7 p := A.low p (List.mem_of_getElem? A.at')
  have keep : ∀ (j : Nat) (q : List Int), rs[j]? = some q → (rs ++ [p ++ [d]])[j]? = some q := fun j q h => by
    rw [List.getElem?_append_left (List.getElem?_eq_some_iff.mp h).1]
    exact h
  refine ⟨?_, fun x hx => ?_, keep i p A.at', fun x hx => ?_⟩
  · rw [List.pairwise_append]
    refine ⟨A.pw, List.pairwise_singleton _ _, fun x hx y hy => ?_⟩
    rw [List.mem_singleton.mp hy]
    exact A.below hD h0 x hx
  · rcases List.mem_append.mp hx with hx | hx
    · exact A.low x hx
    · rw [List.mem_singleton.mp hx]
      intro e he
      rcases List.mem_append.mp he with he | he
      · exact hp e he
      · rw [List.mem_singleton.mp he]; exact ⟨h0, h6⟩
  · rcases List.mem_append.mp hx with hx | hx
    · rcases A.par x hx with q | ⟨j, q, e, h1, h2, h3⟩ | ⟨e, h1, h2⟩
      · exact .inl q
      · exact .inr (.inl ⟨j, q, e, h1, keep j q h2, h3⟩)
      · exact .inr (.inr ⟨e, by omega, h2⟩)
    · exact .inr (.inr ⟨d, by omega, List.mem_singleton.mp hx⟩)
/-! ### the pulls that go, one after another -/
theorem drs_pw (n : Nat) : (drs n).Pairwise (· < ·) := by
  unfold drs
  rw [List.pairwise_map]
  exact List.pairwise_lt_range.imp fun h => by omega
theorem free_pw (bs : List Bar) (st : List Bool) : (freeL bs st).Pairwise (· < ·) := (drs_pw st.length).filter _
theorem free_mem {bs : List Bar} {st : List Bool} {d : Int} : d ∈ freeL bs st ↔ (0 ≤ d ∧ d < st.length) ∧ goesB bs st d = true := by
  refine ⟨fun h => ⟨free_in h, (List.mem_filter.mp h).2⟩, fun h => ?_⟩
  refine List.mem_filter.mpr ⟨?_, h.2⟩
  unfold drs
  exact List.mem_map.mpr ⟨d.toNat, List.mem_range.mpr (by omega), by omega⟩
theorem pw_drop {l : List Int} (h : l.Pairwise (· < ·)) {t : Nat} {d : Int} (hd : l[t]? = some d) : (∀ x ∈ l.drop (t + 1), d + 1 ≤ x) ∧ l.drop t = d :: l.drop (t + 1) := by
  obtain ⟨h1, h2⟩ := List.getElem?_eq_some_iff.mp hd
  have e : l.drop t = d :: l.drop (t + 1) := by rw [List.drop_eq_getElem_cons h1, h2]
  refine ⟨fun x hx => ?_, e⟩
  have hp : (l.drop t).Pairwise (· < ·) := List.Pairwise.sublist (List.drop_sublist t l) h
  rw [e, List.pairwise_cons] at hp
  have := hp.1 x hx
  omega
theorem mem_take_succ {α : Type} {l : List α} {t : Nat} {d x : α} (hd : l[t]? = some d) (h : x ∈ l.take (t + 1)) : x ∈ l.take t ∨ x = d := by
  obtain ⟨h1, h2⟩ := List.getElem?_eq_some_iff.mp hd
  rw [List.take_succ_eq_append_getElem h1, h2] at h
  rcases List.mem_append.mp h with h | h
  · exact .inl h
  · exact .inr (List.mem_singleton.mp h)
/-! ### the queue: an entry is a standing and its row -/
abbrev Ent := List Bool × List Int
def Led (bs : List Bar) (s0 : List Bool) (e : Ent) : Prop := runB bs s0 e.2 = some e.1 ∧ (Low7 e.2 ∧ ∀ d ∈ e.2, 0 ≤ d ∧ d < s0.length) ∧ e.1.length = s0.length
theorem runB_snoc {bs : List Bar} : ∀ {r : List Int} {st : List Bool} {d : Int}, runB bs st (r ++ [d]) = (runB bs st r).bind fun s => if goesB bs s d = true then some (flip s d) else none
  | [], st, d => by
    show runB bs st [d] = _
    rw [runB_cons]
    rfl
  | x :: r, st, d => by
    show runB bs st (x :: (r ++ [d])) = _
    rw [runB_cons, runB_cons]
    by_cases q : goesB bs st x = true
    · rw [if_pos q, if_pos q]
      exact runB_snoc
    · rw [if_neg q, if_neg q]
      rfl
theorem Led.step {bs : List Bar} {s0 : List Bool} {p : Ent} {d : Int} (L : Led bs s0 p) (hd : d ∈ freeL bs p.1) (h7 : s0.length ≤ 7) : Led bs s0 (flip p.1 d, p.2 ++ [d]) := by
  obtain ⟨⟨d0, d1⟩, hg⟩ := free_mem.mp hd
  refine ⟨?_, ⟨fun x hx => ?_, fun x hx => ?_⟩, by rw [flip_len]; exact L.2.2⟩
  · show runB bs s0 (p.2 ++ [d]) = _
    rw [runB_snoc, L.1, Option.bind_some, if_pos hg]
  · rcases List.mem_append.mp hx with hx | hx
    · exact L.2.1.1 x hx
    · rw [List.mem_singleton.mp hx]
      have := L.2.2
      omega
  · rcases List.mem_append.mp hx with hx | hx
    · exact L.2.1.2 x hx
    · rw [List.mem_singleton.mp hx]
      have := L.2.2
      omega
structure BI (bs : List Bar) (s0 : List Bool) (i : Nat) (es : List Ent) : Prop where
  nd : (es.map (·.1)).Nodup
  asc : Asc (es.map (·.2)) i
  led : ∀ e ∈ es, Led bs s0 e
  ex : ∀ (j : Nat) (p : Ent), j < i → es[j]? = some p → ∀ d ∈ freeL bs p.1, ∃ e ∈ es, e.1 = flip p.1 d ∧ rcode e.2 ≤ rcode (p.2 ++ [d]) ∧ e.2.length ≤ p.2.length + 1
  root : (s0, []) ∈ es
structure BD (bs : List Bar) (s0 : List Bool) (i : Nat) (p : Ent) (t : Nat) (D : Int) (es : List Ent) : Prop where
  nd : (es.map (·.1)).Nodup
  asc : AscD (es.map (·.2)) i p.2 D
  led : ∀ e ∈ es, Led bs s0 e
  at' : es[i]? = some p
  ex : ∀ (j : Nat) (p : Ent), j < i → es[j]? = some p → ∀ d ∈ freeL bs p.1, ∃ e ∈ es, e.1 = flip p.1 d ∧ rcode e.2 ≤ rcode (p.2 ++ [d]) ∧ e.2.length ≤ p.2.length + 1
  exd : ∀ d ∈ (freeL bs p.1).take t, ∃ e ∈ es, e.1 = flip p.1 d ∧ rcode e.2 ≤ rcode (p.2 ++ [d]) ∧ e.2.length ≤ p.2.length + 1
  dle : ∀ d ∈ (freeL bs p.1).drop t, D ≤ d
  root : (s0, []) ∈ es
theorem BI.begin {bs : List Bar} {s0 : List Bool} : BI bs s0 0 [(s0, [])] := by
  refine ⟨by simp, ⟨List.pairwise_singleton _ _, fun x hx => ?_, fun x hx => .inl (List.mem_singleton.mp hx)⟩, fun e he => ?_, fun j p hj => by omega, List.mem_singleton.mpr rfl⟩
  · rw [List.mem_singleton.mp hx]
    intro d hd
    cases hd
  · rw [List.mem_singleton.mp he]
    exact ⟨rfl, ⟨fun d hd => (by cases hd), fun d hd => (by cases hd)⟩, rfl⟩
theorem BI.during {bs : List Bar} {s0 : List Bool} {i : Nat} {es : List Ent} {p : Ent} (B : BI bs s0 i es) (h : es[i]? = some p) : BD bs s0 i p 0 0 es :=
  ⟨B.nd, B.asc.during (by rw [List.getElem?_map, h]; rfl), B.led, h, B.ex, fun d hd => (by cases hd), fun d hd => (free_in (List.mem_of_mem_drop hd)).1, B.root⟩
theorem BD.done {bs : List Bar} {s0 : List Bool} {i : Nat} {p : Ent} {D : Int} {es : List Ent} (B : BD bs s0 i p (freeL bs p.1).length D es) : BI bs s0 (i + 1) es := by
  refine ⟨B.nd, B.asc.done, B.led, fun j q hj hq => ?_, B.root⟩
  by_cases e : j = i
  · subst e
    rw [B.at'] at hq
    cases hq
    have := B.exd
    rw [List.take_length] at this
    exact this
  · exact B.ex j q (by omega) hq
theorem BD.free {bs : List Bar} {s0 : List Bool} {i : Nat} {p : Ent} {t : Nat} {D : Int} {es : List Ent} (B : BD bs s0 i p t D es) {d : Int} (hd : (freeL bs p.1)[t]? = some d) (h7 : s0.length ≤ 7) :
    d ∈ freeL bs p.1 ∧ D ≤ d ∧ 0 ≤ d ∧ d ≤ 6 := by
  have hm := List.mem_of_getElem? hd
  obtain ⟨d0, d1⟩ := free_in hm
  have := (B.led p (List.mem_of_getElem? B.at')).2.2
  obtain ⟨_, e⟩ := pw_drop (free_pw bs p.1) hd
  exact ⟨hm, B.dle d (by rw [e]; exact List.mem_cons_self), d0, by omega⟩
theorem BD.old {bs : List Bar} {s0 : List Bool} {i : Nat} {p : Ent} {t : Nat} {D : Int} {es : List Ent} (B : BD bs s0 i p t D es) {d : Int} (hd : (freeL bs p.1)[t]? = some d) (h7 : s0.length ≤ 7) (h : flip p.1 d ∈ es.map (·.1)) : BD bs s0 i p (t + 1) (d + 1) es := by
  obtain ⟨hm, hD, d0, d6⟩ := B.free hd h7
  refine ⟨B.nd, B.asc.up (by omega), B.led, B.at', B.ex, fun x hx => ?_, (pw_drop (free_pw bs p.1) hd).1, B.root⟩
  rcases mem_take_succ hd hx with hx | rfl
  · exact B.exd x hx
  · obtain ⟨e, he, h1⟩ := List.mem_map.mp h
    obtain ⟨b1, b2⟩ := B.asc.below hD d0 e.2 (List.mem_map.mpr ⟨e, he, rfl⟩)
    rw [List.length_append] at b2
    exact ⟨e, he, h1, Int.le_of_lt b1, b2⟩
theorem BD.new {bs : List Bar} {s0 : List Bool} {i : Nat} {p : Ent} {t : Nat} {D : Int} {es : List Ent} (B : BD bs s0 i p t D es) {d : Int} (hd : (freeL bs p.1)[t]? = some d) (h7 : s0.length ≤ 7) (h : ¬ flip p.1 d ∈ es.map (·.1)) : BD bs s0 i p (t + 1) (d + 1) (es ++ [(flip p.1 d, p.2 ++ [d])]) := by
  obtain ⟨hm, hD, d0, d6⟩ := B.free hd h7
  have mono : ∀ {e : Ent}, e ∈ es → e ∈ es ++ [(flip p.1 d, p.2 ++ [d])] := fun he => List.mem_append_left _ he
  refine ⟨?_, ?_, fun e he => ?_, ?_, fun j q hj hq x hx => ?_, fun x hx => ?_, (pw_drop (free_pw bs p.1) hd).1, mono B.root⟩
  · rw [List.map_append, List.nodup_append]
    refine ⟨B.nd, by simp, fun x hx y hy => ?_⟩
    rw [List.mem_singleton.mp hy]
    intro z
    have z' : x = flip p.1 d := z
    rw [z'] at hx
    exact h hx
  · rw [List.map_append]
    exact B.asc.add hD d0 d6
  · rcases List.mem_append.mp he with he | he
    · exact B.led e he
    · rw [List.mem_singleton.mp he]
      exact (B.led p (List.mem_of_getElem? B.at')).step hm h7
  · rw [List.getElem?_append_left (List.getElem?_eq_some_iff.mp B.at').1]
    exact B.at'
  · have hq' : es[j]? = some q := by
      have := (List.getElem?_eq_some_iff.mp B.at').1
      rw [List.getElem?_append_left (by omega)] at hq
      exact hq
    obtain ⟨e, he, h1⟩ := B.ex j q hj hq' x hx
    exact ⟨e, mono he, h1⟩
  · rcases mem_take_succ hd hx with hx | rfl
    · obtain ⟨e, he, h1⟩ := B.exd x hx
      exact ⟨e, mono he, h1⟩
    · exact ⟨_, List.mem_append_right _ (List.mem_singleton.mpr rfl), rfl, Int.le_refl _, by rw [List.length_append]; exact Nat.le_refl _⟩
/-- every row that goes ends where an entry stands whose row is not behind it -/
theorem BI.opt {bs : List Bar} {s0 : List Bool} {es : List Ent} (B : BI bs s0 es.length es) (h7 : s0.length ≤ 7) : ∀ (r : List Int), (∀ d ∈ r, 0 ≤ d ∧ d < s0.length) → ∀ st, runB bs s0 r = some st → ∃ e ∈ es, e.1 = st ∧ rcode e.2 ≤ rcode r ∧ e.2.length ≤ r.length := by
  intro r
  refine snoc_ind (p := fun (r : List Int) => (∀ d ∈ r, 0 ≤ d ∧ d < s0.length) → ∀ st, runB bs s0 r = some st → ∃ e ∈ es, e.1 = st ∧ rcode e.2 ≤ rcode r ∧ e.2.length ≤ r.length) (fun _ st h => ?_) (fun l d ih hl st h => ?_) r
  · cases h
    exact ⟨_, B.root, rfl, Int.le_refl _, Nat.le_refl _⟩
  · rw [runB_snoc] at h
    cases hr : runB bs s0 l with
    | none => rw [hr] at h; cases h
    | some s1 =>
      rw [hr, Option.bind_some] at h
      by_cases hg : goesB bs s1 d = true
      · rw [if_pos hg] at h
        cases h
        obtain ⟨e, he, h1, h2, h3⟩ := ih (fun x hx => hl x (List.mem_append_left _ hx)) s1 hr
        obtain ⟨j, hj⟩ := List.getElem?_of_mem he
        have el := (B.led e he).2.2
        have hdm : d ∈ freeL bs e.1 := free_mem.mpr ⟨by have := hl d (List.mem_append_right _ (List.mem_singleton.mpr rfl)); omega, by rw [h1]; exact hg⟩
        obtain ⟨f, hf, g1, g2, g3⟩ := B.ex j e (List.getElem?_eq_some_iff.mp hj).1 hj d hdm
        refine ⟨f, hf, by rw [g1, h1], ?_, ?_⟩
        · rw [rcode_snoc] at g2 ⊢
          omega
        · rw [List.length_append]
          show f.2.length ≤ l.length + 1
          omega
      · rw [if_neg hg] at h
        cases h
/-! ### there are not many standings -/
theorem few : ∀ (n : Nat) (l : List (List Bool)), l.Nodup → (∀ x ∈ l, x.length = n) → l.length ≤ 2 ^ n
  | 0, l, hn, h => by
    cases l with
    | nil => exact Nat.zero_le _
    | cons a l =>
      cases l with
      | nil => exact Nat.le_refl _
      | cons b l =>
        have h1 := List.length_eq_zero_iff.mp (h a (by simp))
        have h2 := List.length_eq_zero_iff.mp (h b (by simp))
        rw [h1, h2] at hn
        simp at hn
  | n + 1, l, hn, h => by
    have part : ∀ b : Bool, (l.filter fun x => x.head? == some b).length ≤ 2 ^ n := fun b => by
      have e : ((l.filter fun x => x.head? == some b).map List.tail).length = (l.filter fun x => x.head? == some b).length := List.length_map ..
      rw [← e]
      have hd : ∀ x ∈ l.filter fun x => x.head? == some b, x = b :: x.tail := fun x hx => by
        have := (List.mem_filter.mp hx).2
        cases x with
        | nil => cases this
        | cons c x =>
          have : some c = some b := eq_of_beq this
          cases this
          rfl
      refine few n _ ?_ fun x hx => ?_
      · have h1 : (l.filter fun x => x.head? == some b).Nodup := hn.filter _
        unfold List.Nodup at h1 ⊢
        rw [List.pairwise_map]
        refine List.Pairwise.imp_of_mem (fun {x y} hx hy q z => q ?_) h1
        rw [hd x hx, hd y hy, z]
      · obtain ⟨y, hy, rfl⟩ := List.mem_map.mp hx
        rw [List.length_tail, h y (List.mem_filter.mp hy).1]
        rfl
    have split : l.length = (l.filter fun x => x.head? == some true).length + (l.filter fun x => x.head? == some false).length := by
      clear part hn
      induction l with
      | nil => rfl
      | cons a l ih =>
        have := ih fun x hx => h x (List.mem_cons_of_mem _ hx)
        have ha := h a List.mem_cons_self
        cases a with
        | nil => cases ha
        | cons c a =>
          cases c
          · rw [List.filter_cons_of_neg (by simp), List.filter_cons_of_pos (by simp), List.length_cons, List.length_cons]
            omega
          · rw [List.filter_cons_of_pos (by simp), List.filter_cons_of_neg (by simp), List.length_cons, List.length_cons]
            omega
    have p1 := part true
    have p2 := part false
    rw [Nat.pow_succ]
    omega
theorem led_few {bs : List Bar} {s0 : List Bool} {es : List Ent} (nd : (es.map (·.1)).Nodup) (led : ∀ e ∈ es, Led bs s0 e) (h7 : s0.length ≤ 7) : es.length ≤ 128 := by
  have := few s0.length (es.map (·.1)) nd fun x hx => by
    obtain ⟨e, he, rfl⟩ := List.mem_map.mp hx
    exact (led e he).2.2
  rw [List.length_map] at this
  have h2 : 2 ^ s0.length ≤ 2 ^ 7 := Nat.pow_le_pow_right (by decide) h7
  have h3 : (2 : Nat) ^ 7 = 128 := rfl
  omega
end DL

set_option Elab.async false
set_option maxRecDepth 100000
namespace DL
open PySem L2 HT TL
/-! ### a dict that is made within a for's head is read only from then on -/
def tFrz (te : TE) : TE := fun σ H Q => te σ H fun x H1 => ∃ d u, x = V.ref d ∧ H1 d = some u ∧ Mut (some u) ∧ ∀ od, Q x (upd H1 d (.frz od u))
theorem pe_frz {X : Cx} {e : Expr} {te : TE} (he : PE X e te) : PE X e (tFrz te) := by
  refine ⟨fun pins s σ H Q I h => thn (he.run pins s σ H _ I h) fun v s1 ⟨x, H1, I1, r, d, u, ex, hd, mu, q⟩ => ?_⟩
  obtain ⟨od, I2⟩ := I1.lock hd mu
  exact ⟨x, _, I2, r, q od⟩
/-! ### rows in a dict -/
abbrev KEnt := Addr × Ent
def kvsOf (ks : List KEnt) : List (Key × V) := ks.map fun k => (.inr (sstr k.2.1), .ref k.1)
structure RowsEl (H : Hp) (ks : List KEnt) : Prop where
  el : ∀ k ∈ ks, H k.1 = some (.tup (k.2.2.map V.int))
theorem RowsEl.same {H H' : Hp} {ks : List KEnt} (R : RowsEl H ks) (s : Same H H') : RowsEl H' ks := ⟨fun k hk => s _ _ (R.el k hk)⟩
theorem val_some {ks : List KEnt} {k : KEnt} (nd : ((ks.map (·.2)).map (·.1)).Nodup) (hk : k ∈ ks) : valV (kvsOf ks) (.inr (sstr k.2.1)) = some (.ref k.1) := by
  induction ks with
  | nil => cases hk
  | cons a ks ih =>
    rw [List.map_cons, List.map_cons, List.nodup_cons] at nd
    unfold valV kvsOf
    rw [List.map_cons, List.find?_cons]
    by_cases q : (.inr (sstr a.2.1) : Key) = .inr (sstr k.2.1)
    · rw [decide_eq_true q]
      rcases List.mem_cons.mp hk with rfl | hk
      · rfl
      · injection q with q
        refine absurd (List.mem_map.mpr ⟨k.2, List.mem_map.mpr ⟨k, hk, rfl⟩, (sstr_inj q).symm⟩) nd.1
    · rw [decide_eq_false q]
      rcases List.mem_cons.mp hk with rfl | hk
      · exact absurd rfl q
      · exact ih nd.2 hk
theorem val_none {ks : List KEnt} {st : List Bool} (h : ¬ st ∈ (ks.map (·.2)).map (·.1)) : valV (kvsOf ks) (.inr (sstr st)) = none := by
  unfold valV kvsOf
  have : (ks.map fun k => ((.inr (sstr k.2.1) : Key), V.ref k.1)).find? (fun kv => decide (kv.1 = .inr (sstr st))) = none := by
    rw [List.find?_eq_none]
    intro kv hkv
    obtain ⟨k, hk, rfl⟩ := List.mem_map.mp hkv
    intro z
    have z' : (.inr (sstr k.2.1) : Key) = .inr (sstr st) := of_decide_eq_true z
    injection z' with z'
    exact h (List.mem_map.mpr ⟨k.2, List.mem_map.mpr ⟨k, hk, rfl⟩, sstr_inj z'⟩)
  rw [this]
  rfl
theorem kvs_len (ks : List KEnt) : (kvsOf ks).length = ks.length := List.length_map ..
theorem ascD_len {rs : List (List Int)} {i : Nat} {p : List Int} {D : Int} (A : AscD rs i p D) : ∀ (m : Nat) (x : List Int), rs[m]? = some x → x.length ≤ m := by
  intro m
  induction m using Nat.strongRecOn with
  | _ m ih =>
    intro x hx
    have key : ∀ (j : Nat) (q : List Int) (d : Int), rs[j]? = some q → x = q ++ [d] → x.length ≤ m := fun j q d hj e => by
      have el : x.length = q.length + 1 := by rw [e, List.length_append]; rfl
      obtain ⟨l1, e1⟩ := List.getElem?_eq_some_iff.mp hx
      obtain ⟨l2, e2⟩ := List.getElem?_eq_some_iff.mp hj
      rcases Nat.lt_trichotomy j m with h | h | h
      · have := ih j h q hj
        omega
      · subst h
        rw [hx] at hj
        cases hj
        omega
      · have := List.pairwise_iff_getElem.mp A.pw m j l1 l2 h
        rw [e1, e2] at this
        have := this.2
        omega
    rcases A.par x (List.mem_of_getElem? hx) with rfl | ⟨j, q, d, _, hj, e⟩ | ⟨d, _, e⟩
    · exact Nat.zero_le _
    · exact key j q d hj e
    · exact key i p d A.at' e
structure spRows (C : Addr) (vs : List V) (H : Hp) (Q : VK) (_ : XK) : Prop where
  h : ∃ (c : Addr) (bs : List Bar) (st : List Bool), vs = [.ref c, .str (sstr st)] ∧ CabOk C H c st.length bs ∧
    ∀ (a : Addr) (ks : List KEnt) (H' : Hp), H a = none → Same H H' → H' a = some (.dK (kvsOf ks)) → RowsEl H' ks → BI bs st ks.length (ks.map (·.2)) → Q (.ref a) H'
section
variable {P : Program} {w : World} {K : PySem.W.Frag} {mg : Str → Option Value} {base : Heap}
abbrev nRf : List Str := ["cabinet", "standing", "rows", "queue", "done", "place", "drawer", "beyond"]
theorem scRf : FnScope nRf ["cabinet", "standing"] (defScope s_rows_from) := ⟨rfl, rfl, rfl, by decide +kernel, rfl, by decide +kernel, by decide +kernel⟩
theorem ok_rowsFrom {f f1 f2 C : Addr} {fd fd1 fd2 : FuncData} (F : Fun K "rows_from" "rows_from" s_rows_from f fd) (T : Bt mg)
    (G1 : FnOk P w K mg base CX0 8 f1 fd1 ["cabinet", "standing"] (spFreeDrawers C)) (g1 : mg "free_drawers" = some (.ref f1)) (k1 : PySem.W.keepIn K (.ref f1) = true) (b1 : Binds K fd1 ["cabinet", "standing"] [])
    (G2 : FnOk P w K mg base CX0 1 f2 fd2 ["standing", "drawer"] spMoved) (g2 : mg "moved" = some (.ref f2)) (k2 : PySem.W.keepIn K (.ref f2) = true) (b2 : Binds K fd2 ["standing", "drawer"] []) : FnOk P w K mg base CX0 10 f fd ["cabinet", "standing"] (spRows C) := by
  refine F.ok scRf (fun vs H Q E h => ?_) (fun cdv A outer s H vs Q E hr h => ?_)
  · obtain ⟨c, bs, st, rfl, _⟩ := h.h
    rfl
  · obtain ⟨c, bs, st, rfl, B, k⟩ := h.h
    have hu := hu_of hr
    obtain ⟨_, _, n7⟩ := B.cab
    have h7 : st.length ≤ 7 := by omega
    refine ⟨_, pss_cons (ps_set (i := 2) scRf.nd rfl (Or.inl rfl) (pe_disp (pps_cons (pv 1) (pe_tup pa_nil) pps_nil) (by rfl) (by rfl) (fun z => by cases z) (by decide)))
      (pss_cons (ps_set (i := 3) scRf.nd rfl (Or.inl rfl) (pe_lst (pa_cons (pv 1) pa_nil)))
      (pss_cons (ps_set (i := 4) scRf.nd rfl (Or.inl rfl) pe_int)
      (pss_cons (ps_while PassesOwn.never (pt_cmpR op_lt (pv 4) (pe_callB call_len_seq (by rfl) T.len PySem.boot_len (pa_cons (pv 3) pa_nil)) (nomark _))
        (pss_cons (ps_set (i := 5) scRf.nd rfl (Or.inl rfl) (pe_ix ix_list (pv 3) (pv 4) (fun _ _ => rfl)))
        (pss_cons (ps_aug (i := 4) scRf.nd rfl (Or.inl rfl) pe_int in_add)
        (pss_one (ps_for PassesOwn.never rfl (pi_list (pe_call G1 (hr.mono (by decide)) rfl g1 k1 b1 .nil pass0 (pa_cons (pv 0) (pa_cons (pv 5) pa_nil)))) (pg_name (i := 6) scRf.nd rfl (Or.inl rfl))
          (pss_cons (ps_set (i := 7) scRf.nd rfl (Or.inl rfl) (pe_call G2 (hr.mono (by decide)) rfl g2 k2 b2 .nil pass0 (pa_cons (pv 5) (pa_cons (pv 6) pa_nil))))
          (pss_one (ps_if (pt_cmp (pc_dnotin hu (pv 7) (pv 2)))
            (pss_cons (ps_dput hu (pv 2) (pv 7) (pe_tup (StX.pa_star (pe_dget hu (pv 2) (pv 5) (fun _ _ => rfl)) (pa_cons (pv 6) pa_nil))) rfl)
            (pss_one (ps_expr (pe_bm PySem.F.plainAttrs_list PySem.F.slot_list_append PySem.F.type_list_append mt_append (pv 3) (pa_cons (pv 7) pa_nil))))) pss_nil))))))))
      (pss_one (ps_ret (pv 2)))))), ?_⟩
    intro a ha
    refine ⟨_, rfl, (by show 0 ≤ sizeLine; decide), fun e0 he0 => ?_⟩
    have hae : a ≠ e0 := ne_of_none upd_same he0
    refine ⟨by rw [upd_ne hae]; exact upd_same, [(.inr (sstr st), .ref e0)], rfl, by show 1 ≤ 15; decide, ?_⟩
    refine ⟨_, rfl, (by show 1 ≤ sizeLine; decide), fun q hq => ?_⟩
    have hqa : q ≠ a := fun z => by rw [z, upd_same] at hq; cases hq
    have he0' : H e0 = none := by rw [upd_ne hae.symm] at he0; exact he0
    have hq0 : q ≠ e0 := fun z => by rw [z, upd_ne hae.symm, upd_same] at hq; cases hq
    have hqH : H q = none := by rw [upd_ne hqa, upd_ne hq0, upd_ne hqa] at hq; exact hq
    have S0 : Same H (upd (upd (upd (upd H a (.dK [])) e0 (.tup [])) a (.dK (mergeK [] [(.inr (sstr st), .ref e0)]))) q (.lst [.str (sstr st)])) := fun b o eb => by
      rw [upd_ne (ne_of_none eb hqH), upd_ne (ne_of_none eb ha), upd_ne (ne_of_none eb he0'), upd_ne (ne_of_none eb ha)]
      exact eb
    refine while_by (fun σ H' => ∃ (i : Nat) (ks : List KEnt) (u5 u6 u7 : Option V), σ = [some (.ref c), some (.str (sstr st)), some (.ref a), some (.ref q), some (.int i), u5, u6, u7] ∧ i ≤ ks.length ∧ BI bs st i (ks.map (·.2)) ∧ H' a = some (.dK (kvsOf ks)) ∧ RowsEl H' ks ∧
        H' q = some (.lst (ks.map fun k => .str (sstr k.2.1))) ∧ Same H H')
      (fun (σ : L2.St) (_ : Hp) => 128 - (match σ[4]? with | some (some (V.int i)) => i.toNat | _ => 0)) ?_ ?_ ?_
    · refine ⟨0, [(e0, (st, []))], _, _, _, rfl, Nat.zero_le _, BI.begin, ?_, ⟨fun k hk => ?_⟩, upd_same, S0⟩
      · rw [upd_ne hqa.symm, upd_same]
        rfl
      · rw [List.mem_singleton.mp hk]
        show (upd (upd (upd (upd H a (.dK [])) e0 (.tup [])) a (.dK (mergeK [] [(.inr (sstr st), .ref e0)]))) q (.lst [.str (sstr st)])) e0 = some (.tup [])
        rw [upd_ne hq0.symm, upd_ne hae.symm, upd_same]
    · rintro σ H1 ⟨i, ks, u5, u6, u7, rfl, hi, I, hA, hE, hQ, s1⟩
      have hfew : ks.length ≤ 128 := by
        have := led_few I.nd I.led h7
        rw [List.length_map] at this
        exact this
      refine ⟨_, rfl, _, rfl, q, _, rfl, .inl (SqL.of hQ), _, _, rfl, rfl, _, rfl, ?_⟩
      rw [List.length_map]
      refine ite2 (fun z => ?_) (fun z => ?_)
      · have hlt : i < ks.length := by have := of_decide_eq_true z; omega
        obtain ⟨kp, hkp⟩ : ∃ kp, ks[i]? = some kp := ⟨_, List.getElem?_eq_getElem hlt⟩
        have hpe : (ks.map (·.2))[i]? = some kp.2 := by rw [List.getElem?_map, hkp]; rfl
        have hpl : kp.2.1.length = st.length := (I.led kp.2 (List.mem_of_getElem? hpe)).2.2
        refine ⟨_, rfl, _, rfl, q, _, _, .str (sstr kp.2.1), rfl, rfl, SqL.of hQ, atI_nat (by rw [List.getElem?_map, hkp]; rfl), ?_⟩
        refine ⟨_, rfl, _, _, rfl, rfl, ?_⟩
        refine ⟨_, rfl, _, rfl, ⟨⟨c, bs, kp.2.1, rfl, by rw [hpl]; exact B.same s1, fun fq H2 hfq s2 h2 => ?_⟩⟩⟩
        have hfa : fq ≠ a := fun z => by rw [z, hA] at hfq; cases hfq
        have hfqq : fq ≠ q := fun z => by rw [z, hQ] at hfq; cases hfq
        refine ⟨fq, rfl, ⟨_, SqL.of h2⟩, ?_⟩
        refine for_list (K := K) (a := fq) (xs := (freeL bs kp.2.1).map V.int) (fun t σ H' => ∃ (D : Int) (ks' : List KEnt) (u6 u7 : Option V), σ = [some (.ref c), some (.str (sstr st)), some (.ref a), some (.ref q), some (.int ((i : Int) + 1)), some (.str (sstr kp.2.1)), u6, u7] ∧ BD bs st i kp.2 t D (ks'.map (·.2)) ∧
            (∃ more, ks' = ks ++ more) ∧ H' a = some (.dK (kvsOf ks')) ∧ RowsEl H' ks' ∧ H' q = some (.lst (ks'.map fun k => .str (sstr k.2.1))) ∧ Same H H' ∧ H' fq = some (.lst ((freeL bs kp.2.1).map V.int)))
          ⟨0, ks, _, _, rfl, I.during hpe, ⟨[], by rw [List.append_nil]⟩, s2 _ _ hA, hE.same s2, s2 _ _ hQ, s1.trans s2, h2⟩ ?_ ?_ ?_
        · rintro t σ H' _ ⟨D, ks', u6, u7, _, _, _, _, _, _, _, h⟩
          exact SqL.of h
        · rintro t x σ H3 hx ⟨D, ks', u6, u7, rfl, I', ⟨more, hmore⟩, hA', hE', hQ', s3, hF⟩
          rw [List.getElem?_map] at hx
          cases hd : (freeL bs kp.2.1)[t]? with
          | none => rw [hd] at hx; cases hx
          | some d =>
            rw [hd] at hx
            cases hx
            obtain ⟨dm, dD, d0, d6⟩ := I'.free hd h7
            have d1 := (free_in dm).2
            have hfew' : ks'.length ≤ 128 := by
              have := led_few I'.nd I'.led h7
              rw [List.length_map] at this
              exact this
            refine ⟨_, rfl, _, rfl, ⟨⟨kp.2.1, d, rfl, by omega, d0, d1, fun H4 s4 => ?_⟩⟩⟩
            have hA4 := s4 _ _ hA'
            have hQ4 := s4 _ _ hQ'
            have hE4 := hE'.same s4
            have hF4 := s4 _ _ hF
            have s34 := s3.trans s4
            refine ⟨_, rfl, _, rfl, a, _, rfl, DGet.k (k := Sum.inr (sstr (flip kp.2.1 d))) hA4, _, rfl, ?_⟩
            by_cases hin : flip kp.2.1 d ∈ (ks'.map (·.2)).map (·.1)
            · obtain ⟨e, he, h1⟩ := List.mem_map.mp hin
              obtain ⟨k', hk', rfl⟩ := List.mem_map.mp he
              have hv := val_some I'.nd hk'
              rw [h1] at hv
              rw [hv]
              exact iteF ⟨_, ks', _, _, rfl, I'.old hd h7 hin, ⟨more, hmore⟩, hA4, hE4, hQ4, s34, hF4⟩
            · have hv := val_none hin
              rw [hv]
              refine iteT ?_
              have hkpm : kp ∈ ks' := by rw [hmore]; exact List.mem_append_left _ (List.mem_of_getElem? hkp)
              refine ⟨_, rfl, _, rfl, a, .ref kp.1, rfl, by rw [← val_some I'.nd hkpm]; exact DGet.k (k := Sum.inr (sstr kp.2.1)) hA4, ?_⟩
              refine ⟨kp.1, _, rfl, .inl (SqT.of' (hE4.el kp hkpm)), _, rfl, ?_, fun tn htn => ?_⟩
              · have hl := ascD_len I'.asc i kp.2.2 (by rw [List.getElem?_map, I'.at']; rfl)
                show (kp.2.2.map V.int ++ [V.int d]).length ≤ sizeLine
                rw [List.length_append, List.length_map]
                exact Nat.le_of_lt (small1000 (by show kp.2.2.length + 1 ≤ 1000; omega))
              · have hta : tn ≠ a := fun z => by rw [z, hA4] at htn; cases htn
                have htq : tn ≠ q := fun z => by rw [z, hQ4] at htn; cases htn
                have htf : tn ≠ fq := fun z => by rw [z, hF4] at htn; cases htn
                have hsm : (kvsOf ks').length < sizeLine := by rw [kvs_len]; exact small1000 (by omega)
                refine ⟨_, rfl, _, rfl, a, _, rfl, DPut.k (k := Sum.inr (sstr (flip kp.2.1 d))) (by rw [upd_ne hta.symm]; exact hA4) hsm, ?_⟩
                refine ⟨_, rfl, .inl ⟨rfl, _, SqL.of (by rw [upd_ne hqa, upd_ne htq.symm]; exact hQ4)⟩, _, rfl, q, _, _, rfl, rfl, by rw [upd_ne hqa, upd_ne htq.symm]; exact hQ4, by rw [List.length_map]; exact small1000 (by omega), ?_⟩
                have hat : tn ≠ a := hta
                refine ⟨d + 1, ks' ++ [(tn, (flip kp.2.1 d, kp.2.2 ++ [d]))], _, _, rfl, ?_, ⟨more ++ [(tn, (flip kp.2.1 d, kp.2.2 ++ [d]))], by rw [hmore, List.append_assoc]⟩, ?_, ⟨fun k' hk' => ?_⟩, ?_, fun b o eb => ?_, ?_⟩
                · rw [List.map_append]
                  exact I'.new hd h7 hin
                · rw [upd_ne hqa.symm, upd_same, putK_new _ hv]
                  unfold kvsOf
                  rw [List.map_append]
                  rfl
                · have hk1 : k'.1 ≠ a ∧ k'.1 ≠ q ∧ (upd H4 tn (.tup (kp.2.2.map V.int ++ [V.int d]))) k'.1 = some (.tup (k'.2.2.map V.int)) := by
                    rcases List.mem_append.mp hk' with hk' | hk'
                    · have := hE4.el k' hk'
                      exact ⟨ne_of this hA4 (by intro z; cases z), ne_of this hQ4 (by intro z; cases z), by rw [upd_ne (ne_of_none this htn)]; exact this⟩
                    · rw [List.mem_singleton.mp hk']
                      refine ⟨hta, htq, ?_⟩
                      show (upd H4 tn (.tup (kp.2.2.map V.int ++ [V.int d]))) tn = some (.tup ((kp.2.2 ++ [d]).map V.int))
                      rw [upd_same, List.map_append]
                      rfl
                  rw [upd_ne hk1.2.1, upd_ne hk1.1]
                  exact hk1.2.2
                · rw [upd_same, List.map_append]
                  rfl
                · rw [upd_ne (ne_of_none eb hqH), upd_ne (ne_of_none eb ha), upd_ne (ne_of_none (s34 _ _ eb) htn)]
                  exact s34 _ _ eb
                · rw [upd_ne hfqq, upd_ne hfa, upd_ne htf.symm]
                  exact hF4
        · rintro σ H3 ⟨D, ks', u6, u7, rfl, I', ⟨more, hmore⟩, hA', hE', hQ', s3, hF⟩
          rw [List.length_map] at I'
          have I2 := I'.done
          refine ⟨⟨i + 1, ks', _, _, _, rfl, by rw [hmore, List.length_append]; omega, I2, hA', hE', hQ', s3⟩, ?_⟩
          show 128 - ((i : Int) + 1).toNat < 128 - (i : Int).toNat
          omega
      · have hge : ¬ i < ks.length := fun z' => z (decide_eq_true (by omega))
        obtain rfl : i = ks.length := by omega
        exact ⟨_, rfl, k a ks H1 ha s1 hA hE I⟩
    · rintro σ H1 Q1 Q2 m ⟨x, e1, y, e2, p, ys, e3, hs, j, l, e4, e5, c', e6, hq⟩
      exact ⟨x, e1, y, e2, p, ys, e3, hs, j, l, e4, e5, c', e6, m _ _ hq⟩
structure spFirstRows (C : Addr) (vs : List V) (H : Hp) (Q : VK) (_ : XK) : Prop where
  h : ∃ (c : Addr) (bs : List Bar) (n : Nat), vs = [.ref c] ∧ CabOk C H c n bs ∧ ∀ (a : Addr) (ks : List KEnt) (H' : Hp), H a = none → Same H H' → H' a = some (.dK (kvsOf ks)) → RowsEl H' ks → BI bs (shutS n) ks.length (ks.map (·.2)) → Q (.ref a) H'
theorem scFirstRows : FnScope ["cabinet"] ["cabinet"] (defScope s_first_rows) := ⟨rfl, rfl, rfl, by decide +kernel, rfl, by decide +kernel, by decide +kernel⟩
theorem ok_firstRows {f f2 f3 C : Addr} {fd fd2 fd3 : FuncData} (F : Fun K "first_rows" "first_rows" s_first_rows f fd) (CP : CabP P w K mg base C)
    (G2 : FnOk P w K mg base CX0 10 f2 fd2 ["cabinet", "standing"] (spRows C)) (g2 : mg "rows_from" = some (.ref f2)) (k2 : PySem.W.keepIn K (.ref f2) = true) (b2 : Binds K fd2 ["cabinet", "standing"] [])
    (G3 : FnOk P w K mg base CX0 1 f3 fd3 ["drawers"] spFirst) (g3 : mg "first_standing" = some (.ref f3)) (k3 : PySem.W.keepIn K (.ref f3) = true) (b3 : Binds K fd3 ["drawers"] []) : FnOk P w K mg base CX0 12 f fd ["cabinet"] (spFirstRows C) := by
  refine F.ok scFirstRows (fun vs H Q E h => ?_) (fun cdv A outer s H vs Q E hr h => ?_)
  · obtain ⟨c, bs, n, rfl, _⟩ := h.h
    rfl
  · obtain ⟨c, bs, n, rfl, B, k⟩ := h.h
    obtain ⟨t, hc, n7⟩ := B.cab
    have n1 : 1 ≤ n := by
      obtain ⟨_, _, _, _, _, _, q, _⟩ := B.h
      omega
    obtain ⟨pD, gD, fdD, hpD, GD, bD⟩ := CP.d
    refine ⟨_, pss_one (ps_ret (pe_call G2 (hr.mono (by decide)) rfl g2 k2 b2 .nil pass0 (pa_cons (pv 0) (pa_cons (pe_call G3 (hr.mono (by decide)) rfl g3 k3 b3 .nil pass0 (pa_cons (pe_prop (pv 0) CP.cl hpD GD (hr.mono (by decide)) bD .nil pass0 rfl) pa_nil)) pa_nil)))), ?_⟩
    obtain ⟨dx, hc0⟩ := hc
    have hshut : (shutS n).length = n := List.length_replicate
    refine ⟨_, rfl, _, rfl, c, dx, _, rfl, hc0, ⟨⟨c, dx, _, t, rfl, hc0, ⟨⟨n, rfl, n1, by omega, ?_⟩⟩⟩⟩⟩
    exact ⟨⟨c, bs, shutS n, rfl, by rw [hshut]; exact B, fun a ks H1 ha s1 hA hE I => k a ks H1 ha s1 hA hE I⟩⟩
end
end DL

set_option Elab.async false
set_option maxRecDepth 100000
namespace DL
open PySem L2 HT TL
/-! ### all rows, one pull longer at each turn; the first one that leads to a standing -/
theorem nd_eq {es : List Ent} (nd : (es.map (·.1)).Nodup) : ∀ {a b : Ent}, a ∈ es → b ∈ es → a.1 = b.1 → a = b := by
  induction es with
  | nil => intro a b ha; cases ha
  | cons x es ih =>
    intro a b ha hb e
    rw [List.map_cons, List.nodup_cons] at nd
    rcases List.mem_cons.mp ha with qa | ha'
    · rcases List.mem_cons.mp hb with qb | hb'
      · rw [qa, qb]
      · have hm : x.1 ∈ es.map (·.1) := List.mem_map.mpr ⟨b, hb', by rw [← e, qa]⟩
        exact absurd hm nd.1
    · rcases List.mem_cons.mp hb with qb | hb'
      · have hm : x.1 ∈ es.map (·.1) := List.mem_map.mpr ⟨a, ha', by rw [e, qb]⟩
        exact absurd hm nd.1
      · exact ih nd.2 ha' hb' e
structure LI (bs : List Bar) (s0 : List Bool) (i : Nat) (cat fst : List Ent) : Prop where
  asc : Asc (cat.map (·.2)) i
  led : ∀ e ∈ cat, Led bs s0 e
  ex : ∀ (j : Nat) (p : Ent), j < i → cat[j]? = some p → ∀ d ∈ freeL bs p.1, (flip p.1 d, p.2 ++ [d]) ∈ cat
  root : (s0, []) ∈ cat
  fnd : (fst.map (·.1)).Nodup
  fin : ∀ e ∈ fst, e ∈ cat
  fco : ∀ x ∈ cat, ∃ e ∈ fst, e.1 = x.1 ∧ rcode e.2 ≤ rcode x.2
structure LD (bs : List Bar) (s0 : List Bool) (i : Nat) (p : Ent) (t : Nat) (D : Int) (cat fst : List Ent) : Prop where
  asc : AscD (cat.map (·.2)) i p.2 D
  led : ∀ e ∈ cat, Led bs s0 e
  at' : cat[i]? = some p
  ex : ∀ (j : Nat) (p : Ent), j < i → cat[j]? = some p → ∀ d ∈ freeL bs p.1, (flip p.1 d, p.2 ++ [d]) ∈ cat
  exd : ∀ d ∈ (freeL bs p.1).take t, (flip p.1 d, p.2 ++ [d]) ∈ cat
  dle : ∀ d ∈ (freeL bs p.1).drop t, D ≤ d
  root : (s0, []) ∈ cat
  fnd : (fst.map (·.1)).Nodup
  fin : ∀ e ∈ fst, e ∈ cat
  fco : ∀ x ∈ cat, ∃ e ∈ fst, e.1 = x.1 ∧ rcode e.2 ≤ rcode x.2
theorem LI.begin {bs : List Bar} {s0 : List Bool} : LI bs s0 0 [(s0, [])] [(s0, [])] := by
  have B := BI.begin (bs := bs) (s0 := s0)
  exact ⟨B.asc, B.led, fun j p hj => by omega, List.mem_singleton.mpr rfl, B.nd, fun e he => he, fun x hx => ⟨x, hx, rfl, Int.le_refl _⟩⟩
theorem LI.during {bs : List Bar} {s0 : List Bool} {i : Nat} {cat fst : List Ent} {p : Ent} (B : LI bs s0 i cat fst) (h : cat[i]? = some p) : LD bs s0 i p 0 0 cat fst :=
  ⟨B.asc.during (by rw [List.getElem?_map, h]; rfl), B.led, h, B.ex, fun d hd => (by cases hd), fun d hd => (free_in (List.mem_of_mem_drop hd)).1, B.root, B.fnd, B.fin, B.fco⟩
theorem LD.done {bs : List Bar} {s0 : List Bool} {i : Nat} {p : Ent} {D : Int} {cat fst : List Ent} (B : LD bs s0 i p (freeL bs p.1).length D cat fst) : LI bs s0 (i + 1) cat fst := by
  refine ⟨B.asc.done, B.led, fun j q hj hq => ?_, B.root, B.fnd, B.fin, B.fco⟩
  by_cases e : j = i
  · subst e
    rw [B.at'] at hq
    cases hq
    have := B.exd
    rw [List.take_length] at this
    exact this
  · exact B.ex j q (by omega) hq
theorem LD.free {bs : List Bar} {s0 : List Bool} {i : Nat} {p : Ent} {t : Nat} {D : Int} {cat fst : List Ent} (B : LD bs s0 i p t D cat fst) {d : Int} (hd : (freeL bs p.1)[t]? = some d) (h7 : s0.length ≤ 7) :
    d ∈ freeL bs p.1 ∧ D ≤ d ∧ 0 ≤ d ∧ d ≤ 6 := by
  have hm := List.mem_of_getElem? hd
  obtain ⟨d0, d1⟩ := free_in hm
  have := (B.led p (List.mem_of_getElem? B.at')).2.2
  obtain ⟨_, e⟩ := pw_drop (free_pw bs p.1) hd
  exact ⟨hm, B.dle d (by rw [e]; exact List.mem_cons_self), d0, by omega⟩
def addF (fst : List Ent) (e : Ent) : List Ent := if e.1 ∈ fst.map (·.1) then fst else fst ++ [e]
theorem LD.add {bs : List Bar} {s0 : List Bool} {i : Nat} {p : Ent} {t : Nat} {D : Int} {cat fst : List Ent} (B : LD bs s0 i p t D cat fst) {d : Int} (hd : (freeL bs p.1)[t]? = some d) (h7 : s0.length ≤ 7) :
    LD bs s0 i p (t + 1) (d + 1) (cat ++ [(flip p.1 d, p.2 ++ [d])]) (addF fst (flip p.1 d, p.2 ++ [d])) := by
  obtain ⟨hm, hD, d0, d6⟩ := B.free hd h7
  have mono : ∀ {e : Ent}, e ∈ cat → e ∈ cat ++ [(flip p.1 d, p.2 ++ [d])] := fun he => List.mem_append_left _ he
  have last : (flip p.1 d, p.2 ++ [d]) ∈ cat ++ [(flip p.1 d, p.2 ++ [d])] := List.mem_append_right _ (List.mem_singleton.mpr rfl)
  have fsub : ∀ {e : Ent}, e ∈ fst → e ∈ addF fst (flip p.1 d, p.2 ++ [d]) := fun he => by
    unfold addF
    by_cases z : (flip p.1 d, p.2 ++ [d]).1 ∈ fst.map (·.1)
    · rw [if_pos z]; exact he
    · rw [if_neg z]; exact List.mem_append_left _ he
  refine ⟨?_, fun e he => ?_, ?_, fun j q hj hq x hx => ?_, fun x hx => ?_, (pw_drop (free_pw bs p.1) hd).1, mono B.root, ?_, fun e he => ?_, fun x hx => ?_⟩
  · rw [List.map_append]
    exact B.asc.add hD d0 d6
  · rcases List.mem_append.mp he with he | he
    · exact B.led e he
    · rw [List.mem_singleton.mp he]
      exact (B.led p (List.mem_of_getElem? B.at')).step hm h7
  · rw [List.getElem?_append_left (List.getElem?_eq_some_iff.mp B.at').1]
    exact B.at'
  · have hq' : cat[j]? = some q := by
      have := (List.getElem?_eq_some_iff.mp B.at').1
      rw [List.getElem?_append_left (by omega)] at hq
      exact hq
    exact mono (B.ex j q hj hq' x hx)
  · rcases mem_take_succ hd hx with hx | rfl
    · exact mono (B.exd x hx)
    · exact last
  · unfold addF
    by_cases z : (flip p.1 d, p.2 ++ [d]).1 ∈ fst.map (·.1)
    · rw [if_pos z]; exact B.fnd
    · rw [if_neg z, List.map_append, List.nodup_append]
      refine ⟨B.fnd, by simp, fun x hx y hy q => ?_⟩
      have e1 : y = (flip p.1 d, p.2 ++ [d]).1 := List.mem_singleton.mp hy
      rw [← e1, ← q] at z
      exact z hx
  · unfold addF at he
    by_cases z : (flip p.1 d, p.2 ++ [d]).1 ∈ fst.map (·.1)
    · rw [if_pos z] at he; exact mono (B.fin e he)
    · rw [if_neg z] at he
      rcases List.mem_append.mp he with he | he
      · exact mono (B.fin e he)
      · rw [List.mem_singleton.mp he]; exact last
  · rcases List.mem_append.mp hx with hx | hx
    · obtain ⟨e, he, h1⟩ := B.fco x hx
      exact ⟨e, fsub he, h1⟩
    · rw [List.mem_singleton.mp hx]
      by_cases z : (flip p.1 d, p.2 ++ [d]).1 ∈ fst.map (·.1)
      · obtain ⟨e, he, h1⟩ := List.mem_map.mp z
        have := (B.asc.below hD d0 e.2 (List.mem_map.mpr ⟨e, B.fin e he, rfl⟩)).1
        exact ⟨e, fsub he, h1, Int.le_of_lt this⟩
      · refine ⟨_, ?_, rfl, Int.le_refl _⟩
        unfold addF
        rw [if_neg z]
        exact List.mem_append_right _ (List.mem_singleton.mpr rfl)
/-- those from the i-th on have k pulls, none has more -/
structure LV (k i : Nat) (cat : List Ent) : Prop where
  le : ∀ x ∈ cat, x.2.length ≤ k
  eq : ∀ x ∈ cat.drop i, x.2.length = k
theorem LI.all {bs : List Bar} {s0 : List Bool} {i k : Nat} {cat fst : List Ent} (B : LI bs s0 i cat fst) (V : LV k i cat) : ∀ (r : List Int), (∀ d ∈ r, 0 ≤ d ∧ d < s0.length) → r.length ≤ k → ∀ st, runB bs s0 r = some st → (st, r) ∈ cat := by
  intro r
  refine snoc_ind (p := fun (r : List Int) => (∀ d ∈ r, 0 ≤ d ∧ d < s0.length) → r.length ≤ k → ∀ st, runB bs s0 r = some st → (st, r) ∈ cat) (fun _ _ st h => ?_) (fun l d ih hl hk st h => ?_) r
  · cases h
    exact B.root
  · rw [List.length_append] at hk
    have hk : l.length + 1 ≤ k := hk
    rw [runB_snoc] at h
    cases hr : runB bs s0 l with
    | none => rw [hr] at h; cases h
    | some s1 =>
      rw [hr, Option.bind_some] at h
      by_cases hg : goesB bs s1 d = true
      · rw [if_pos hg] at h
        cases h
        have hm := ih (fun x hx => hl x (List.mem_append_left _ hx)) (by omega) s1 hr
        obtain ⟨j, hj⟩ := List.getElem?_of_mem hm
        have el := (B.led _ hm).2.2
        have el : s1.length = s0.length := el
        have hji : j < i := by
          rcases Nat.lt_or_ge j i with h | h
          · exact h
          · have : (s1, l) ∈ cat.drop i := by
              have e : (cat.drop i)[j - i]? = some (s1, l) := by
                rw [List.getElem?_drop, show i + (j - i) = j by omega]
                exact hj
              exact List.mem_of_getElem? e
            have := V.eq _ this
            have : l.length = k := this
            omega
        exact B.ex j _ hji hj d (free_mem.mpr ⟨by have := hl d (List.mem_append_right _ (List.mem_singleton.mpr rfl)); show 0 ≤ d ∧ d < s1.length; omega, hg⟩)
      · rw [if_neg hg] at h
        cases h
/-! ### a standing as a pattern -/
theorem flat_strs (l : List Str) : (l.map V.str).all flatV = true := by
  rw [List.all_eq_true]
  intro x hx
  obtain ⟨i, _, rfl⟩ := List.mem_map.mp hx
  rfl
theorem sstr_snoc (st : List Bool) (b : Bool) (z : Str) (hz : z.cps.toList = [sg b]) : sstr st ++ z = sstr (st ++ [b]) := by
  refine PyProof.Rows.ext_toList ?_
  show tl _ = tl _
  rw [tl_append, show tl z = _ from hz, show tl (sstr st) = _ from sstr_tl _, show tl (sstr (st ++ [b])) = _ from sstr_tl _, List.map_append]
  rfl
section
variable {P : Program} {w : World} {K : PySem.W.Frag} {mg : Str → Option Value} {base : Heap}
abbrev nLA : List Str := ["_law_many", "_law_found", "_law_at", "_law_some"]
theorem scLA : FnScope nLA ["_law_many"] (defScope s__law_all) := ⟨rfl, rfl, rfl, by decide +kernel, rfl, by decide +kernel, by decide +kernel⟩
end
end DL

set_option Elab.async false
set_option maxRecDepth 100000

set_option Elab.async false
set_option maxRecDepth 100000
namespace DL
open PySem L2 HT TL
/-! ### two queues that came to their end hold the same -/
theorem sub_asc {es es' : List Ent} (h1 : (es.map (·.2)).Pairwise Bef) (h2 : (es'.map (·.2)).Pairwise Bef) (hs : ∀ e, e ∈ es ↔ e ∈ es') : es = es' := by
  induction es generalizing es' with
  | nil =>
    cases es' with
    | nil => rfl
    | cons b es' => exact absurd ((hs b).mpr List.mem_cons_self) (by simp)
  | cons a es ih =>
    cases es' with
    | nil => exact absurd ((hs a).mp List.mem_cons_self) (by simp)
    | cons b es' =>
      rw [List.map_cons, List.pairwise_cons] at h1 h2
      have hab : a = b := by
        rcases List.mem_cons.mp ((hs a).mp List.mem_cons_self) with q | q
        · exact q
        · rcases List.mem_cons.mp ((hs b).mpr List.mem_cons_self) with q' | q'
          · exact q'.symm
          · have z1 := (h1.1 b.2 (List.mem_map.mpr ⟨b, q', rfl⟩)).1
            have z2 := (h2.1 a.2 (List.mem_map.mpr ⟨a, q, rfl⟩)).1
            omega
      subst hab
      congr 1
      refine ih h1.2 h2.2 fun e => ⟨fun he => ?_, fun he => ?_⟩
      · rcases List.mem_cons.mp ((hs e).mp (List.mem_cons_of_mem _ he)) with q | q
        · have z1 := (h1.1 e.2 (List.mem_map.mpr ⟨e, he, rfl⟩)).1
          rw [q] at z1
          omega
        · exact q
      · rcases List.mem_cons.mp ((hs e).mpr (List.mem_cons_of_mem _ he)) with q | q
        · have z1 := (h2.1 e.2 (List.mem_map.mpr ⟨e, he, rfl⟩)).1
          rw [q] at z1
          omega
        · exact q
theorem BI.sub {bs : List Bar} {s0 : List Bool} {es es' : List Ent} (I : BI bs s0 es.length es) (I' : BI bs s0 es'.length es') (h7 : s0.length ≤ 7) {e : Ent} (he : e ∈ es) : e ∈ es' := by
  obtain ⟨m1, ⟨m2, m3⟩, m4⟩ := I.led e he
  obtain ⟨f, hf, g1, g2, _⟩ := I'.opt h7 e.2 m3 e.1 m1
  obtain ⟨n1, ⟨n2, n3⟩, n4⟩ := I'.led f hf
  obtain ⟨e', he', k1, k2, _⟩ := I.opt h7 f.2 n3 f.1 n1
  have : e' = e := nd_eq I.nd he' he (by rw [k1, g1])
  subst this
  have : f = e' := Prod.ext g1 (rcode_inj n2 m2 (by omega))
  rw [← this]
  exact hf
theorem BI.same {bs : List Bar} {s0 : List Bool} {es es' : List Ent} (I : BI bs s0 es.length es) (I' : BI bs s0 es'.length es') (h7 : s0.length ≤ 7) : es = es' :=
  sub_asc I.asc.pw I'.asc.pw fun _ => ⟨I.sub I' h7, I'.sub I h7⟩
/-! ### sorted texts -/
/-! ### (len(a), a) < (len(b), b) -/
end DL

set_option Elab.async false
set_option maxRecDepth 100000

set_option Elab.async false
set_option maxRecDepth 100000

set_option Elab.async false
set_option maxRecDepth 100000
namespace DL
open PySem L2 HT TL RZ
/-! ### patterns of sets -/
theorem SqA.same {K : PySem.W.Frag} {H H' : Hp} {a : Addr} {xs : List V} (s : Same H H') (h : SqA K H a xs) : SqA K H' a xs := by
  rcases h with h | h
  · exact .inl (s.seq h)
  · exact .inr (SqT.same s h)
end DL

set_option Elab.async false
set_option maxRecDepth 100000
namespace DL
open PySem L2 HT TL
/-! ### walks over a dict of rows -/
theorem kvs_at {ks : List KEnt} {i : Nat} {k : Key} {v : V} (h : (kvsOf ks)[i]? = some (k, v)) : ∃ kk, ks[i]? = some kk ∧ k = .inr (sstr kk.2.1) ∧ v = .ref kk.1 := by
  unfold kvsOf at h
  rw [List.getElem?_map] at h
  cases e : ks[i]? with
  | none => rw [e] at h; cases h
  | some kk =>
    rw [e] at h
    have h : some ((.inr (sstr kk.2.1) : Key), V.ref kk.1) = some (k, v) := h
    injection h with h
    injection h with h1 h2
    exact ⟨kk, rfl, h1.symm, h2.symm⟩
theorem walk_keysE {d : Addr} {o : Obj} {ks : List KEnt} : Walk (Itk d o (kvsOf ks)) ks.length (fun H => H d = some (.frz o (.dK (kvsOf ks)))) (fun i H x H' => H' = H ∧ ∃ k, ks[i]? = some k ∧ x = .str (sstr k.2.1)) := by
  rw [← kvs_len ks]
  refine (walk_keys (d := d) (o := o) (kvs := kvsOf ks)).mono (fun H h => h) fun i H x H' _ _ y => ?_
  obtain ⟨e, k, v, h, rfl⟩ := y
  obtain ⟨kk, e1, rfl, _⟩ := kvs_at h
  exact ⟨e, kk, e1, rfl⟩
/-- a dict of rows, locked from its making on -/
structure RowsFrz (H : Hp) (a : Addr) (od : Obj) (ks : List KEnt) : Prop where
  at' : H a = some (.frz od (.dK (kvsOf ks)))
  el : RowsEl H ks
theorem RowsFrz.same {H H' : Hp} {a : Addr} {od : Obj} {ks : List KEnt} (R : RowsFrz H a od ks) (s : Same H H') : RowsFrz H' a od ks := ⟨s _ _ R.at', R.el.same s⟩
theorem RowsFrz.but {r sc : Addr} {H H' : Hp} {a : Addr} {od : Obj} {ks : List KEnt} (R : RowsFrz H a od ks) (hR : RowOk H r sc) (B : But r H H') : RowsFrz H' a od ks := by
  obtain ⟨_, _, _, h, _⟩ := hR.h
  exact ⟨B _ _ (ne_of R.at' h (by intro z; cases z)) R.at', ⟨fun k hk => B.tup h (R.el.el k hk)⟩⟩
theorem rows_lock {H H1 : Hp} {a : Addr} {ks : List KEnt} (od : Obj) (ha : H a = none) (s1 : Same H H1) (hA : H1 a = some (.dK (kvsOf ks))) (hE : RowsEl H1 ks) :
    Same H (upd H1 a (.frz od (.dK (kvsOf ks)))) ∧ RowsFrz (upd H1 a (.frz od (.dK (kvsOf ks)))) a od ks := by
  refine ⟨fun b o eb => ?_, upd_same, ⟨fun k hk => ?_⟩⟩
  · rw [upd_ne (ne_of_none eb ha)]
    exact s1 _ _ eb
  · have := hE.el k hk
    rw [upd_ne (ne_of this hA (by intro z; cases z))]
    exact this
theorem dget_frz {H : Hp} {a : Addr} {o : Obj} {kvs : List (Key × V)} (k : Key) (h : H a = some (.frz o (.dK kvs))) : DGet H a (kV k) (valV kvs k) := .inl ⟨kvs, k, .inr ⟨o, h⟩, rfl, rfl⟩
end DL

set_option Elab.async false
set_option maxRecDepth 100000
namespace DL
open PySem L2 HT TL RZ
structure PairsAt (H : Hp) (qs : List (Addr × Int × Int)) : Prop where
  el : ∀ q ∈ qs, H q.1 = some (.tup [.int q.2.1, .int q.2.2])
theorem PairsAt.same {H H' : Hp} {qs : List (Addr × Int × Int)} (A : PairsAt H qs) (s : Same H H') : PairsAt H' qs := ⟨fun q hq => s _ _ (A.el q hq)⟩
def never (es : List Ent) (p : Int × Int) : Bool := !(es.any fun e => sat e.1 p.1 && sat e.1 p.2)
theorem any_perm {ys : List Str} {es : List Ent} (h : ys.Perm (es.map fun e => sstr e.1)) : ∃ sts : List (List Bool), ys = sts.map sstr ∧ sts.Perm (es.map (·.1)) := by
  have key : ∀ (l : List (List Bool)) (ys : List Str), ys.Perm (l.map sstr) → ∃ sts : List (List Bool), ys = sts.map sstr ∧ sts.Perm l := by
    intro l ys h
    have hs : ∀ y ∈ ys, ∃ st, y = sstr st := fun y hy => by
      obtain ⟨st, _, rfl⟩ := List.mem_map.mp (h.mem_iff.mp hy)
      exact ⟨st, rfl⟩
    have ex : ∃ sts : List (List Bool), ys = sts.map sstr := by
      clear h
      induction ys with
      | nil => exact ⟨[], rfl⟩
      | cons y ys ih =>
        obtain ⟨sts, e⟩ := ih fun z hz => hs z (List.mem_cons_of_mem _ hz)
        obtain ⟨st, e2⟩ := hs y List.mem_cons_self
        exact ⟨st :: sts, by rw [List.map_cons, e2, e]⟩
    obtain ⟨sts, e⟩ := ex
    refine ⟨sts, e, ?_⟩
    rw [e] at h
    refine List.perm_iff_count.mpr fun st => ?_
    have := List.perm_iff_count.mp h (sstr st)
    have cm : ∀ l : List (List Bool), (l.map sstr).count (sstr st) = l.count st := fun l => by
      induction l with
      | nil => rfl
      | cons a l ih =>
        rw [List.map_cons, List.count_cons, List.count_cons, ih]
        by_cases q : a = st
        · subst q
          simp
        · have q' : ¬ sstr a = sstr st := fun z => q (sstr_inj z)
          simp [q, q']
    rw [cm, cm] at this
    exact this
  have e : (es.map fun e => sstr e.1) = (es.map (·.1)).map sstr := by rw [List.map_map]; rfl
  rw [e] at h
  exact key _ _ h
end DL

set_option Elab.async false
set_option maxRecDepth 100000
set_option maxHeartbeats 1000000

set_option Elab.async false
set_option maxRecDepth 100000

set_option Elab.async false
set_option maxRecDepth 100000
set_option maxHeartbeats 1000000

set_option Elab.async false
set_option maxRecDepth 100000
set_option maxHeartbeats 1000000
namespace DL
open PySem L2 HT TL
/-! ### forms of single values: standings, tries, whatever they are -/
def sgnB (n : Int) (z : Str) : V → Bool
  | .str y => decide ((y.length : Int) = n) && y.cps.toList.all fun c => decide (c ∈ z.cps.toList)
  | _ => false
end DL

set_option Elab.async false
set_option maxRecDepth 100000

set_option Elab.async false
set_option maxRecDepth 100000
set_option maxHeartbeats 1000000

set_option Elab.async false
set_option maxRecDepth 100000
set_option maxHeartbeats 1000000

set_option Elab.async false
set_option maxRecDepth 100000
set_option maxHeartbeats 1000000
namespace DL
open PySem L2 HT TL
/-! ### standings, patterns, drawers, lengths that are refused, whatever they are -/
def NoStr (K : PySem.W.Frag) (H : Hp) (v : V) : Prop := ∃ t, (∀ H', Same H H' → TyX K H' v t) ∧ PySem.W.kitOne K t (.type "str") = some false
def BadSgn (K : PySem.W.Frag) (z : Str) (H : Hp) (n : Int) (v : V) : Prop := NoStr K H v ∨ ∃ y, v = .str y ∧ y.length ≤ 1000 ∧ sgnB n z (.str y) = false
theorem BadSgn.same {K : PySem.W.Frag} {z : Str} {H H' : Hp} {n : Int} {v : V} (h : BadSgn K z H n v) (s : Same H H') : BadSgn K z H' n v := by
  rcases h with ⟨t, h1, h2⟩ | h
  · exact .inl ⟨t, fun H2 s2 => h1 H2 (s.trans s2), h2⟩
  · exact .inr h
end DL

set_option Elab.async false
set_option maxRecDepth 100000
set_option maxHeartbeats 1000000
namespace DL
open PySem L2 HT TL RZ
/-! ### a dict comprehension by a walk -/
theorem dc_it {J : It} {n : Nat} {G : Hp → Prop} {Y : Nat → Hp → V → Hp → Prop} (w : Walk J n G Y) {g : TG} {tt : TT} {tk tv : TE} {vs : List Nat} {σ : L2.St} {H1 : Hp} {D : Addr} {Qd : Hp → Prop} (Pv : Nat → Hp → Prop) (h0 : Pv 0 (upd H1 D (.dK []))) (hG : ∀ i H, i ≤ n → Pv i H → G H)
    (hs : ∀ i x H H', i < n → Pv i H → Y i H x H' → g x (wipe σ vs) H' fun σ2 H2 => wipe σ2 vs = wipe σ vs ∧ tt σ2 H2 fun b H3 =>
      if b = true then tk σ2 H3 fun y H4 => tv σ2 H4 fun z H5 => ∃ kvs k, y = kV k ∧ H5 D = some (.dK kvs) ∧ kvs.length < sizeLine ∧ Pv (i + 1) (upd H5 D (.dK (putK kvs k z))) else Pv (i + 1) H3) (hd : ∀ H, Pv n H → Qd H) :
    ∃ W : Nat → Nat → Hp → Prop, (∃ m, W 0 m (upd H1 D (.dK []))) ∧ ∀ i m H, W i m H →
      (J.stop i H ∧ Qd H) ∨ (J.go i H ∧ ∃ Nx : Hp → Prop, (∀ H', Nx H' → ∃ m', m' < m ∧ W (i + 1) m' H') ∧ ∀ x H', J.yld i H x H' → g x (wipe σ vs) H' fun σ2 H2 => wipe σ2 vs = wipe σ vs ∧ tt σ2 H2 fun b H3 =>
        if b = true then tk σ2 H3 fun y H4 => tv σ2 H4 fun z H5 => ∃ kvs k, y = kV k ∧ H5 D = some (.dK kvs) ∧ kvs.length < sizeLine ∧ Nx (upd H5 D (.dK (putK kvs k z))) else Nx H3) := by
  refine ⟨fun i m H => m = n - i ∧ i ≤ n ∧ Pv i H, ⟨n, rfl, Nat.zero_le _, h0⟩, ?_⟩
  rintro i m H ⟨em, hi, p⟩
  have q := hG i H hi p
  rcases Nat.lt_or_ge i n with hlt | hge
  · exact .inr ⟨w.goes i H hlt q, Pv (i + 1), fun H' p' => ⟨n - (i + 1), by omega, rfl, hlt, p'⟩, fun x H' y => hs i x H H' hlt p (w.yields i H x H' hlt q y)⟩
  · obtain rfl : i = n := Nat.le_antisymm hi hge
    exact .inl ⟨w.stops H q, hd H p⟩
/-! ### y = {..}, a dict comprehension by itself in a row -/
section
variable {X : Cx}
theorem ps_setDc {j : Nat} {nm : Str} {pn : Pos} {kx vx tg iter : Expr} {ifs : List Expr} {scope : Scope} {own : List (Str × Nat)} {dpos rpos : Pos} {wi : TI} {g : TG} {tt : TT} {tk tv : TE} (calm : X.calm = true) (nd : X.N.Nodup) (at_ : X.N[j]? = some nm) (loc : X.env.scope.names.lookup nm = some .local)
    (sw : swapsWith (.DictComp kx vx [⟨tg, iter, ifs, 0⟩] scope dpos) (some (.Name nm pn)) rpos.line X.env = pure true) (pi : PI X tg iter wi) (bk : BlkOk X.N X.env.scope scope own)
    (gs : ∀ (z : Shared) (Hz : Hp) (Cz : Addr) (cz : List (Str × Addr)) (fz : List Addr), PG (X.blk z Hz scope (compEnvC scope cz Cz X.env) fz) tg g)
    (ts : ∀ (z : Shared) (Hz : Hp) (Cz : Addr) (cz : List (Str × Addr)) (fz : List Addr), PTs (X.blk z Hz scope (compEnvC scope cz Cz X.env) fz) ifs tt)
    (ks : ∀ (z : Shared) (Hz : Hp) (Cz : Addr) (cz : List (Str × Addr)) (fz : List Addr), PE (X.blk z Hz scope (compEnvC scope cz Cz X.env) fz) kx tk)
    (es : ∀ (z : Shared) (Hz : Hp) (Cz : Addr) (cz : List (Str × Addr)) (fz : List Addr), PE (X.blk z Hz scope (compEnvC scope cz Cz X.env) fz) vx tv)
    (fo : ∀ x, foldedSetIterable iter X.env x = pure x := by intro _; rfl) :
    PS X (.Assign [.Name nm pn] (.DictComp kx vx [⟨tg, iter, ifs, 0⟩] scope dpos) rpos) (tAsg (tDc wi g tt tk tv (own.map (·.2))) (gName j)) := by
  constructor
  intro pins s σ H D inv asked
  rw [exec_Assign_Name_used _ _ _ _ sw]
  refine wpAny_bind (wpAny_standAt (wpAny_bind ?_))
  have asked' : tDc wi g tt tk tv (own.map (·.2)) σ H fun v Hv => gName j v σ Hv D.nx := asked
  have body := dc_core (use := some (assign (.Name nm pn) X.env)) (pos := dpos) (pos' := firstIterPos [⟨tg, iter, ifs, 0⟩] dpos) (Qf := fun _ z => SP X pins D .next z) calm nd inv pi bk gs ts ks es fo asked' ?_
  · exact wpAny_bind (thn body fun _ _ hz => wpAny_pure (wpAny_pure hz))
  intro a C s1 m H1 inv1 hq ns fp
  show wpAny _ _ (assign (.Name nm pn) X.env (.ref a)) _ _ _
  refine wpAny_assign_Name (store_ok2 (v := .ref a) inv1 nd at_ (.inl loc) rfl ?_ (.inr loc))
  rintro s2 inv2 ⟨b, keeps, hb⟩
  obtain ⟨p0, p1, p2, p3, p4, p5⟩ := fp
  have nb : C ≠ b := hb.elim (fun z => z ▸ p1) fun z e => p4 nm b z e.symm
  exact ⟨m, ns.sameBut keeps nb, fun h3 k3 => ⟨_, H1, inv2.turned (t' := s2.toks) (fun x o hx e => (k3.2 x hx).trans e) p0 p1 p3 p4 p5, hq⟩⟩
end
/-! ### told standings as keys -/
end DL

set_option Elab.async false
set_option maxRecDepth 100000
set_option maxHeartbeats 1000000
namespace DL
open PySem PySem.Spec PyProof.Rows L2 HT TL
/-! ### list(d.values()) of a dict that is locked -/
section
variable {X : Cx} {e : Expr} {te : TE} {a1 a2 : Pos}
def tVw (te : TE) : TE := fun σ H Q => te σ H fun x H1 => ∃ (d : Addr) (o : Obj) (kvs : List (Key × V)), x = .ref d ∧ H1 d = some (.frz o (.dK kvs)) ∧ ∀ b, H1 b = none → Q (.ref b) (upd H1 b (viewO "dict_values" b d))
theorem pe_vw (he : PE X e te) (hb : attributeBase e "values" X.env (eval e X.env) = eval e X.env := by rfl) (hl : (a1.endLine == a2.line) = true := by rfl) : PE X (.Call (.Attribute e "values" a1) [] [] a2) (tVw te) := by
  constructor
  intro pins s σ H Q I h
  have e0 := he.run pins s σ H _ I h
  refine wpAny_Call_method (id := "dict.values") (T := "dict") hb rfl hl F.plainAttrs_dict F.slot_dict_values F.type_dict_values (thn e0 ?_)
  rintro u t ⟨x, H1, J, rx, d, o, kvs, rfl, hd, q⟩
  have eu : u = Value.ref d := rx
  subst eu
  obtain ⟨hs, _, _, _, _, vs, _, _, _, hm⟩ := J.frzK hd
  have hD := hm.dictOf
  refine ⟨hD.typeIs, hD.mapOf.noDict, ?_⟩
  have J2 := J.laid (t' := t.toks) (fun b o z => (Heap.get?_push_of_some _ z : (t.heap.push (DSub.viewOb "dict_values" d)).get? b = some o)) (Nat.le_refl _) (viewO_ok (P := X.prog) (w := X.w) (T := "dict_values") (d := d) (h := t.heap.push (DSub.viewOb "dict_values" d)) (Heap.get?_push_size _ rfl))
  have z : EP X pins σ Q (.ref t.heap.objs.size) { t with heap := t.heap.push (DSub.viewOb "dict_values" d) } := ⟨.ref t.heap.objs.size, _, J2, rfl, q _ (J.hok.fresh (Nat.le_refl _))⟩
  show wpAny _ _ (callWith a2 (.builtin "dict.values") [.ref d] [] []) _ X.xe t
  exact method_meetsIn F.slot_dict_values F.entry_dict_values rfl (PySem.evalArgs_none ⟨rfl, hD.typeIs, F.args_dict_values_1 _, _, meets_dict_values (mixKind X.prog X.w) d hs, ⟨vs, hD⟩, z⟩)
theorem cr_listVw (calm : X.calm = true) : CallR X (.type "list") (fun xs H Q => ∃ (b d : Addr) (o : Obj) (kvs : List (Key × V)), xs = [.ref b] ∧ H b = some (viewO "dict_values" b d) ∧ H d = some (.frz o (.dK kvs)) ∧ kvs.length ≤ sizeLine ∧
    ∀ l, H l = none → Q (.ref l) (upd H l (.lst (kvs.map Prod.snd)))) := by
  intro pins t σ H xs us Q I r h
  obtain ⟨b, d, o, kvs, rfl, hb, hd, hz, q⟩ := h
  obtain ⟨u, rfl, ru⟩ := vals1 r
  have eu : u = Value.ref b := ru
  subst eu
  obtain ⟨_, _, _, _, ep, vs, _, _, kv, hm⟩ := I.frzK hd
  have hv : t.heap.get? b = some (DSub.viewOb "dict_values" d) := (show ObjOk X.prog X.w H t.heap b (viewO "dict_values" b d) from I.hok b _ hb).1
  have len : kvs.length = vs.length := Paired.length kv
  have src := PySem.W.kdl_values (prog := X.prog) (w := X.w) (r := b) (knd := mixKind X.prog X.w) (kvs := vs) (ep := ep) (d := d)
  refine PySem.W.kdl_call src (I.ok.hd calm) ⟨⟨_, hv, rfl, rfl⟩, hm⟩ (by omega) ?_
  intro h1 k1 xs1 c1 keeps new items
  have n1 : xs1.toList.length = vs.length := by
    rw [Array.length_toList]
    exact items.1
  have rel : Vals (kvs.map Prod.snd) xs1.toList := by
    refine vals_of_at (by rw [List.length_map, n1]; exact len) fun j y u e1 e2 => ?_
    rw [Array.getElem?_toList] at e2
    obtain ⟨k, ek⟩ := items.2 j u e2
    obtain ⟨x, ex, rxu⟩ := KV.at' kv ek
    rw [List.getElem?_map, ex] at e1
    cases e1
    exact rxu
  have J := I.laid (t' := k1) (o := .lst (kvs.map Prod.snd)) keeps (Nat.le_refl _) ⟨by rw [List.length_map]; exact hz, xs1.toList, c1, rel, by rw [Array.toArray_toList]; exact new⟩
  exact ⟨.ref t.heap.objs.size, _, J, rfl, q _ (I.hok.fresh (Nat.le_refl _))⟩
end
end DL

set_option Elab.async false
set_option maxRecDepth 100000
set_option maxHeartbeats 1000000
namespace DL
open PySem L2 HT TL RZ
/-! ### a dict with standings as keys -/
def tabV (rs : List (List Bool)) (f : List Bool → V) : List (Key × V) := rs.map fun st => (.inr (sstr st), f st)
theorem tab_len (rs : List (List Bool)) (f : List Bool → V) : (tabV rs f).length = rs.length := List.length_map ..
theorem tab_snd (rs : List (List Bool)) (f : List Bool → V) : (tabV rs f).map Prod.snd = rs.map f := by unfold tabV; rw [List.map_map]; rfl
theorem tab_get {rs : List (List Bool)} {f : List Bool → V} {i : Nat} {k : Key} {v : V} (h : (tabV rs f)[i]? = some (k, v)) : ∃ st, rs[i]? = some st ∧ k = .inr (sstr st) ∧ v = f st := by
  unfold tabV at h
  rw [List.getElem?_map] at h
  cases e : rs[i]? with
  | none => rw [e] at h; cases h
  | some st =>
    rw [e] at h
    have h : some ((.inr (sstr st) : Key), f st) = some (k, v) := h
    injection h with h
    injection h with h1 h2
    exact ⟨st, rfl, h1.symm, h2.symm⟩
theorem key_ne {a b : List Bool} (h : a ≠ b) : ¬ ((.inr (sstr a) : Key) = .inr (sstr b)) := fun z => h (sstr_inj (by injection z))
theorem tab_val (rs : List (List Bool)) (f : List Bool → V) (st : List Bool) : valV (tabV rs f) (.inr (sstr st)) = if st ∈ rs then some (f st) else none := by
  induction rs with
  | nil => rfl
  | cons a rs ih =>
    by_cases e : a = st
    · subst e
      rw [if_pos List.mem_cons_self]
      exact valV_pos rfl
    · have e2 : valV (tabV (a :: rs) f) (.inr (sstr st)) = valV (tabV rs f) (.inr (sstr st)) := valV_neg (key_ne e)
      rw [e2, ih]
      have : (st ∈ a :: rs) ↔ st ∈ rs := ⟨fun h => (List.mem_cons.mp h).resolve_left fun z => e z.symm, List.mem_cons_of_mem _⟩
      simp only [this]
theorem tab_put {rs : List (List Bool)} {f : List Bool → V} {st : List Bool} {v : V} (h : st ∈ rs) : putK (tabV rs f) (.inr (sstr st)) v = tabV rs fun z => if z = st then v else f z := by
  unfold putK
  rw [if_pos]
  · unfold tabV
    rw [List.map_map]
    refine List.map_congr_left fun z _ => ?_
    show (if (.inr (sstr z) : Key) = .inr (sstr st) then _ else _) = _
    by_cases e : z = st
    · subst e
      show (if (.inr (sstr z) : Key) = .inr (sstr z) then _ else _) = ((.inr (sstr z) : Key), if z = z then v else f z)
      rw [if_pos rfl, if_pos rfl]
    · rw [if_neg (key_ne e)]
      show _ = ((.inr (sstr z) : Key), if z = st then v else f z)
      rw [if_neg e]
  · rw [valV_any, tab_val, if_pos h]
    rfl
theorem tab_snoc {rs : List (List Bool)} {f : List Bool → V} {st : List Bool} {v : V} (h : st ∉ rs) : putK (tabV rs f) (.inr (sstr st)) v = tabV (rs ++ [st]) fun z => if z = st then v else f z := by
  rw [putK_new v (by rw [tab_val, if_neg h])]
  unfold tabV
  rw [List.map_append]
  refine congr (congrArg _ (List.map_congr_left fun z hz => ?_)) ?_
  · have e : z ≠ st := fun e => h (e ▸ hz)
    show _ = ((.inr (sstr z) : Key), if z = st then v else f z)
    rw [if_neg e]
  · show _ = [((.inr (sstr st) : Key), if st = st then v else f st)]
    rw [if_pos rfl]
/-! ### levels of standings, and how often one stands in a level -/
def nextL (bs : List Bar) (st : List Bool) : List (List Bool) := (freeL bs st).map (flip st)
def lvl (bs : List Bar) (n : Nat) : Nat → List (List Bool)
  | 0 => [shutS n]
  | t + 1 => (lvl bs n t).flatMap (nextL bs)
def nSum (l : List Nat) : Nat := l.foldr (· + ·) 0
theorem nSum_add {α : Type} (l : List α) (f g : α → Nat) : nSum (l.map fun x => f x + g x) = nSum (l.map f) + nSum (l.map g) := by
  induction l with
  | nil => rfl
  | cons a l ih =>
    show f a + g a + nSum (l.map fun x => f x + g x) = (f a + nSum (l.map f)) + (g a + nSum (l.map g))
    omega
theorem nSum_zero {α : Type} (l : List α) (f : α → Nat) (h : ∀ x ∈ l, f x = 0) : nSum (l.map f) = 0 := by
  induction l with
  | nil => rfl
  | cons a l ih =>
    have h1 := h a List.mem_cons_self
    have h2 := ih fun x hx => h x (List.mem_cons_of_mem _ hx)
    show f a + nSum (l.map f) = 0
    omega
theorem nSum_one (rs : List (List Bool)) (nd : rs.Nodup) (x : List Bool) (hx : x ∈ rs) (c : List Bool → Nat) : nSum (rs.map fun st => (if st = x then 1 else 0) * c st) = c x := by
  induction rs with
  | nil => cases hx
  | cons a rs ih =>
    show (if a = x then 1 else 0) * c a + nSum (rs.map fun st => (if st = x then 1 else 0) * c st) = c x
    rw [List.nodup_cons] at nd
    by_cases e : a = x
    · subst e
      rw [if_pos rfl, nSum_zero _ _ fun z hz => by
        have : z ≠ a := fun e => nd.1 (e ▸ hz)
        rw [if_neg this, Nat.zero_mul]]
      omega
    · rw [if_neg e, Nat.zero_mul, ih nd.2 ((List.mem_cons.mp hx).resolve_left fun z => e z.symm)]
      omega
theorem nSum_count (rs : List (List Bool)) (nd : rs.Nodup) (c : List Bool → Nat) (L : List (List Bool)) (hL : ∀ x ∈ L, x ∈ rs) : nSum (rs.map fun st => L.count st * c st) = nSum (L.map c) := by
  induction L with
  | nil => exact nSum_zero _ _ fun x _ => by rw [List.count_nil, Nat.zero_mul]
  | cons a L ih =>
    have e : (rs.map fun st => (a :: L).count st * c st) = rs.map fun st => L.count st * c st + (if st = a then 1 else 0) * c st := List.map_congr_left fun z _ => by
      rw [List.count_cons, Nat.add_mul]
      congr 2
      by_cases q : z = a
      · subst q
        simp
      · rw [if_neg q]
        simp [Ne.symm q]
    rw [e, nSum_add, ih fun x hx => hL x (List.mem_cons_of_mem _ hx), nSum_one rs nd a (hL a List.mem_cons_self)]
    show nSum (L.map c) + c a = c a + nSum (L.map c)
    omega
theorem count_flat (L : List (List Bool)) (h : List Bool → List (List Bool)) (b : List Bool) : (L.flatMap h).count b = nSum (L.map fun st => (h st).count b) := by
  induction L with
  | nil => rfl
  | cons a L ih =>
    rw [List.flatMap_cons, List.count_append, ih]
    rfl
theorem len_sum (L : List (List Bool)) : nSum (L.map fun _ => 1) = L.length := by
  induction L with
  | nil => rfl
  | cons a L ih =>
    show 1 + nSum (L.map fun _ => 1) = L.length + 1
    omega
theorem int_sum (l : List Nat) : (l.map fun x : Nat => (x : Int)).sum = (nSum l : Nat) := by
  induction l with
  | nil => rfl
  | cons a l ih =>
    rw [List.map_cons, List.sum_cons, ih]
    show (a : Int) + (nSum l : Nat) = ((a + nSum l : Nat) : Int)
    omega
theorem nSum_snoc (l : List Nat) (x : Nat) : nSum (l ++ [x]) = nSum l + x := by
  induction l with
  | nil => exact Nat.add_comm x 0
  | cons a l ih =>
    show a + nSum (l ++ [x]) = a + nSum l + x
    omega
/-- all standings of a level are reached -/
theorem lvl_in {bs : List Bar} {n : Nat} {rs : List (List Bool)} (root : shutS n ∈ rs) (ex : ∀ st ∈ rs, ∀ d ∈ freeL bs st, flip st d ∈ rs) (t : Nat) : ∀ st ∈ lvl bs n t, st ∈ rs := by
  induction t with
  | zero =>
    intro st h
    rw [List.mem_singleton.mp h]
    exact root
  | succ t ih =>
    intro st h
    obtain ⟨s, hs, hm⟩ := List.mem_flatMap.mp h
    obtain ⟨d, hd, rfl⟩ := List.mem_map.mp hm
    exact ex s (ih s hs) d hd
/-- one level more, counted over the reached standings -/
theorem lvl_next {bs : List Bar} {n : Nat} {rs : List (List Bool)} (nd : rs.Nodup) (root : shutS n ∈ rs) (ex : ∀ st ∈ rs, ∀ d ∈ freeL bs st, flip st d ∈ rs) (t : Nat) (b : List Bool) :
    nSum (rs.map fun st => (lvl bs n t).count st * (nextL bs st).count b) = (lvl bs n (t + 1)).count b := by
  rw [nSum_count rs nd (fun st => (nextL bs st).count b) _ (lvl_in root ex t)]
  exact (count_flat _ _ _).symm
theorem lvl_all {bs : List Bar} {n : Nat} {rs : List (List Bool)} (nd : rs.Nodup) (root : shutS n ∈ rs) (ex : ∀ st ∈ rs, ∀ d ∈ freeL bs st, flip st d ∈ rs) (t : Nat) : nSum (rs.map fun st => (lvl bs n t).count st) = (lvl bs n t).length := by
  have := nSum_count rs nd (fun _ => 1) _ (lvl_in root ex t)
  simp only [Nat.mul_one] at this
  rw [this, len_sum]
end DL

set_option Elab.async false
set_option maxRecDepth 100000
set_option maxHeartbeats 2000000
namespace DL
open PySem L2 HT TL RZ
/-! ### o[i] += x of a dict -/
def gDct : V → V → Hp → VK → Prop := fun o i H Q => ∃ a v, o = .ref a ∧ DGet H a i (some v) ∧ Q v H
theorem pget_dct {X : Cx} (hu : X.A.units + 1 < cLine) : PGet X gDct := by
  intro pins s σ H o i ov iv Q I ro ri ⟨a, v, eo, g, q⟩
  subst eo
  have e : ov = Value.ref a := ro
  subst e
  exact d_getItem hu I g ri fun z s2 I2 rz => ⟨v, H, I2, rz, q⟩
theorem none_back {H H' : Hp} {a : Addr} (s : Same H H') (h : H' a = none) : H a = none := by
  cases e : H a with
  | none => rfl
  | some o =>
    rw [s _ _ e] at h
    cases h
/-! ### the pulls of each reached standing -/
structure PulEl (H : Hp) (bs : List Bar) (l : Addr) (st : List Bool) : Prop where
  h : ∃ ts : List (Addr × Int), H l = some (.lst (ts.map fun t => V.ref t.1)) ∧ ts.map (·.2) = freeL bs st ∧ ∀ t ∈ ts, H t.1 = some (.tup [.int t.2, .str (sstr (flip st t.2))])
theorem PulEl.mono {H H' : Hp} {bs : List Bar} {l : Addr} {st : List Bool} (p : PulEl H bs l st) (h1 : ∀ b xs, H b = some (.lst xs) → H' b = some (.lst xs)) (h2 : ∀ b xs, H b = some (.tup xs) → H' b = some (.tup xs)) : PulEl H' bs l st := by
  obtain ⟨ts, a, b, c⟩ := p.h
  exact ⟨⟨ts, h1 _ _ a, b, fun t ht => h2 _ _ (c t ht)⟩⟩
theorem PulEl.same {H H' : Hp} {bs : List Bar} {l : Addr} {st : List Bool} (p : PulEl H bs l st) (s : Same H H') : PulEl H' bs l st := p.mono (fun _ _ => s _ _) fun _ _ => s _ _
theorem PulEl.upd {H : Hp} {bs : List Bar} {l D : Addr} {st : List Bool} {o : HO} {kvs : List (Key × V)} (p : PulEl H bs l st) (hD : H D = some (.dK kvs)) : PulEl (upd H D o) bs l st := by
  refine p.mono (fun b xs h => ?_) fun b xs h => ?_
  · rw [upd_ne (ne_of h hD (by intro z; cases z))]
    exact h
  · rw [upd_ne (ne_of h hD (by intro z; cases z))]
    exact h
structure Reach (bs : List Bar) (n : Nat) (rs : List (List Bool)) : Prop where
  nd : rs.Nodup
  root : shutS n ∈ rs
  len : ∀ st ∈ rs, st.length = n
  ex : ∀ st ∈ rs, ∀ d ∈ freeL bs st, flip st d ∈ rs
  few : rs.length ≤ 128
  hd : rs[0]? = some (shutS n)
def PulsAt (H : Hp) (bs : List Bar) (rs : List (List Bool)) (f : List Bool → V) : Prop := ∀ st ∈ rs, ∃ l, f st = .ref l ∧ PulEl H bs l st
theorem PulsAt.same {H H' : Hp} {bs : List Bar} {rs : List (List Bool)} {f : List Bool → V} (p : PulsAt H bs rs f) (s : Same H H') : PulsAt H' bs rs f := fun st h => by
  obtain ⟨l, e, q⟩ := p st h
  exact ⟨l, e, q.same s⟩
theorem PulsAt.upd {H : Hp} {bs : List Bar} {rs : List (List Bool)} {f : List Bool → V} {D : Addr} {o : HO} {kvs : List (Key × V)} (p : PulsAt H bs rs f) (hD : H D = some (.dK kvs)) : PulsAt (upd H D o) bs rs f := fun st h => by
  obtain ⟨l, e, q⟩ := p st h
  exact ⟨l, e, q.upd hD⟩
/-- what the ledger of the first rows reaches -/
theorem reach_of {bs : List Bar} {n : Nat} {es : List Ent} (I : BI bs (shutS n) es.length es) (n7 : n ≤ 7) : Reach bs n (es.map (·.1)) := by
  have hshut : (shutS n).length = n := List.length_replicate
  have hf := led_few I.nd I.led (by rw [hshut]; exact n7)
  refine ⟨I.nd, List.mem_map_of_mem (f := (·.1)) I.root, fun st h => ?_, fun st h d hd => ?_, by rw [List.length_map]; exact hf, ?_⟩
  · obtain ⟨e, he, rfl⟩ := List.mem_map.mp h
    rw [(I.led e he).2.2, hshut]
  · obtain ⟨e, he, rfl⟩ := List.mem_map.mp h
    obtain ⟨j, hj⟩ := List.getElem?_of_mem he
    obtain ⟨e', he', q, _⟩ := I.ex j e (List.getElem?_eq_some_iff.mp hj).1 hj d hd
    rw [← q]
    exact List.mem_map_of_mem (f := (·.1)) he'
  · have hr := I.root
    have hp := I.asc.pw
    have hl := I.asc.low
    cases es with
    | nil => cases hr
    | cons e es =>
      rcases List.mem_cons.mp hr with h | h
      · rw [← h]
        rfl
      · exfalso
        rw [List.map_cons, List.pairwise_cons] at hp
        have h1 := (hp.1 [] (List.mem_map.mpr ⟨_, h, rfl⟩)).1
        have h2 := rcode_nn (hl e.2 (by simp))
        rw [rcode_nil] at h1
        omega
structure spPulls (C : Addr) (vs : List V) (H : Hp) (Q : VK) (_ : XK) : Prop where
  h : ∃ (c : Addr) (bs : List Bar) (n : Nat), vs = [.ref c] ∧ CabOk C H c n bs ∧
    ∀ (a : Addr) (rs : List (List Bool)) (f : List Bool → V) (H' : Hp), H a = none → Same H H' → H' a = some (.dK (tabV rs f)) → Reach bs n rs → PulsAt H' bs rs f → Q (.ref a) H'
section
variable {P : Program} {w : World} {K : PySem.W.Frag} {mg : Str → Option Value} {base : Heap}
abbrev nRP : List Str := ["cabinet", "standing", "drawer"]
theorem scRP : FnScope nRP ["cabinet"] (defScope s_reached_pulls) := ⟨rfl, rfl, rfl, by decide +kernel, rfl, by decide +kernel, by decide +kernel⟩
theorem ok_reachedPulls {f f1 f2 f3 C : Addr} {fd fd1 fd2 fd3 : FuncData} (F : Fun K "reached_pulls" "reached_pulls" s_reached_pulls f fd)
    (G1 : FnOk P w K mg base CX0 12 f1 fd1 ["cabinet"] (spFirstRows C)) (g1 : mg "first_rows" = some (.ref f1)) (k1 : PySem.W.keepIn K (.ref f1) = true) (b1 : Binds K fd1 ["cabinet"] [])
    (G2 : FnOk P w K mg base CX0 8 f2 fd2 ["cabinet", "standing"] (spFreeDrawers C)) (g2 : mg "free_drawers" = some (.ref f2)) (k2 : PySem.W.keepIn K (.ref f2) = true) (b2 : Binds K fd2 ["cabinet", "standing"] [])
    (G3 : FnOk P w K mg base CX0 1 f3 fd3 ["standing", "drawer"] spMoved) (g3 : mg "moved" = some (.ref f3)) (k3 : PySem.W.keepIn K (.ref f3) = true) (b3 : Binds K fd3 ["standing", "drawer"] []) :
    FnOk P w K mg base CX0 14 f fd ["cabinet"] (spPulls C) := by
  refine F.ok scRP (fun vs H Q E h => ?_) (fun cdv A outer s H vs Q E hr h => ?_)
  · obtain ⟨c, bs, n, rfl, _⟩ := h.h
    rfl
  · obtain ⟨c, bs, n, rfl, B, k⟩ := h.h
    obtain ⟨t, hc, n7⟩ := B.cab
    refine ⟨_, pss_one (ps_ret (pe_dc (own := [("standing", 1)]) (g := gName 1) (tt := tYes) (by rfl) scRP.nd (pi_keys (pe_frz (pe_call G1 (hr.mono (by decide)) rfl g1 k1 b1 .nil pass0 (pa_cons (pv 0) pa_nil)))) (blkOk_by (N := nRP) (sc := defScope s_reached_pulls) (by decide +kernel))
      (fun _ _ _ _ _ => pg_name (i := 1) scRP.nd rfl (Or.inr rfl)) (fun _ _ _ _ _ => pts_nil) (fun _ _ _ _ _ => pv 1)
      (fun _ _ _ _ _ => by exact (pe_lc (own := [("drawer", 2)]) (g := gName 2) (tt := tYes) (by rfl) scRP.nd (pi_listK (K := K) rfl (pe_call G2 (hr.mono (by decide)) rfl g2 k2 b2 .nil pass0 (pa_cons (pv 0) (pa_cons (pv 1) pa_nil)))) (blkOk_by (N := nRP) (by rfl)) (fun _ _ _ _ _ => pg_name (i := 2) scRP.nd rfl (Or.inl rfl)) (fun _ _ _ _ _ => pts_nil)
        (fun _ _ _ _ _ => pe_tup (pa_cons (pv 2) (pa_cons (pe_call G3 (hr.mono (by decide)) rfl g3 k3 b3 .nil pass0 (pa_cons (pv 1) (pa_cons (pv 2) pa_nil))) pa_nil))))))), ?_⟩
    refine ⟨_, rfl, ⟨⟨c, bs, n, rfl, B, fun a ks H1 ha s1 hA hE I => ?_⟩⟩⟩
    have I' : BI bs (shutS n) (ks.map (·.2)).length (ks.map (·.2)) := by rw [List.length_map]; exact I
    have RR := reach_of I' (by omega)
    rw [List.map_map] at RR
    refine ⟨a, _, rfl, hA, trivial, fun od => ?_⟩
    obtain ⟨s2, R2⟩ := rows_lock od ha s1 hA hE
    generalize (upd H1 a (.frz od (.dK (kvsOf ks)))) = H2 at s2 R2 ⊢
    refine ⟨a, od, rfl, .inl ⟨_, R2.at', fun D hD => ?_⟩⟩
    have B2 := B.same s2
    refine dc_it walk_keysE (fun i H' => Same H2 H' ∧ ∃ f : List Bool → V, H' D = some (.dK (tabV ((ks.take i).map fun k => k.2.1) f)) ∧ PulsAt H' bs ((ks.take i).map fun k => k.2.1) f) ⟨same_upd hD, fun _ => .non, upd_same, fun st h => by cases h⟩ (fun i H' _ q => q.1 _ _ R2.at') ?_ ?_
    · rintro i x H3 H3' hi ⟨s3, f, hD3, hf⟩ ⟨rfl, kk, ek, rfl⟩
      obtain ⟨hil, ei⟩ := List.getElem?_eq_some_iff.mp ek
      have hm : kk ∈ ks := List.mem_of_getElem? ek
      have hmr : kk.2.1 ∈ ks.map ((fun e : Ent => e.1) ∘ fun k : KEnt => k.2) := List.mem_map.mpr ⟨kk, hm, rfl⟩
      have hst : kk.2.1.length = n := RR.len _ hmr
      have htk : ((ks.take (i + 1)).map fun k => k.2.1) = ((ks.take i).map fun k => k.2.1) ++ [kk.2.1] := by
        rw [List.take_succ_eq_append_getElem hil, List.map_append, ei]
        rfl
      have hni : kk.2.1 ∉ (ks.take i).map fun k => k.2.1 := by
        have nd := RR.nd
        have : ((ks.take (i + 1)).map fun k => k.2.1).Nodup := nd.sublist ((List.take_sublist _ _).map _)
        rw [htk, List.nodup_append] at this
        intro h
        exact this.2.2 _ h _ (List.mem_singleton.mpr rfl) rfl
      refine ⟨rfl, tYes_of (iteT ?_)⟩
      refine ⟨_, rfl, ?_⟩
      refine ⟨_, rfl, _, rfl, ⟨⟨c, bs, kk.2.1, rfl, by rw [hst]; exact B2.same s3, fun q H5 hq s5 h5 => ?_⟩⟩⟩
      refine ⟨q, rfl, ⟨_, SqL.of h5⟩, fun D2 hD2 => ?_⟩
      refine lc_list (K := K) (a := q) (xs := (freeL bs kk.2.1).map V.int) (fun m H' => Same H5 H' ∧ ∃ ts : List (Addr × Int), H' D2 = some (.lst (ts.map fun t => V.ref t.1)) ∧ ts.map (·.2) = (freeL bs kk.2.1).take m ∧ ∀ t ∈ ts, H' t.1 = some (.tup [.int t.2, .str (sstr (flip kk.2.1 t.2))]))
        ⟨same_upd hD2, [], upd_same, rfl, fun t ht => by cases ht⟩ (fun m H' _ q => SqL.of (q.1 _ _ h5)) ?_ ?_
      · rintro m x H6 hx ⟨s6, ts, hD6, et, ht⟩
        rw [List.getElem?_map] at hx
        cases ed : (freeL bs kk.2.1)[m]? with
        | none => rw [ed] at hx; cases hx
        | some d =>
          rw [ed] at hx
          cases hx
          have hdm := List.mem_of_getElem? ed
          obtain ⟨⟨d0, d1⟩, _⟩ := free_mem.mp hdm
          obtain ⟨hml, em⟩ := List.getElem?_eq_some_iff.mp ed
          have hfl := free_len bs kk.2.1
          have tsl : ts.length = m := by
            have := congrArg List.length et
            rw [List.length_map, List.length_take] at this
            omega
          refine ⟨rfl, tYes_of (iteT ?_)⟩
          refine ⟨_, rfl, _, rfl, _, rfl, ⟨⟨kk.2.1, d, rfl, by omega, d0, d1, fun H7 s7 => ?_⟩⟩⟩
          refine ⟨(by show 2 ≤ sizeLine; decide), fun t7 nt7 => ?_⟩
          obtain ⟨s8, f8⟩ := new_at (o := .tup [V.int d, .str (sstr (flip kk.2.1 d))]) nt7
          generalize upd H7 t7 (.tup [V.int d, .str (sstr (flip kk.2.1 d))]) = H8 at s8 f8 ⊢
          have s68 := s7.trans s8
          have hD8 := s68 _ _ hD6
          refine ⟨_, hD8, by rw [List.length_map]; exact small1000 (by omega), fun b o e => ?_, ts ++ [(t7, d)], ?_, ?_, fun t ht' => ?_⟩
          · rw [upd_ne (ne_of_none e hD2)]
            exact s68 _ _ (s6 b o e)
          · rw [upd_same, List.map_append]
            rfl
          · rw [List.map_append, et, List.take_succ_eq_append_getElem hml, em]
            rfl
          · rcases List.mem_append.mp ht' with h | h
            · have e := s68 _ _ (ht t h)
              rw [upd_ne (ne_of e hD8 (by intro z; cases z))]
              exact e
            · rw [List.mem_singleton.mp h]
              rw [upd_ne (ne_of f8 hD8 (by intro z; cases z))]
              exact f8
      · rintro H6 ⟨s6, ts, hD6, et, ht⟩
        rw [List.length_map, List.take_length] at et
        have s36 := s5.trans s6
        have hD36 := s36 _ _ hD3
        have hfew := RR.few
        rw [List.length_map] at hfew
        have el : PulEl H6 bs D2 kk.2.1 := ⟨⟨ts, hD6, et, ht⟩⟩
        refine ⟨_, .inr (sstr kk.2.1), rfl, hD36, by rw [tab_len, List.length_map, List.length_take]; exact small1000 (by omega), fun b o e => ?_, fun z => if z = kk.2.1 then .ref D2 else f z, ?_, ?_⟩
        · rw [upd_ne (ne_of_none e hD)]
          exact s36 _ _ (s3 b o e)
        · rw [upd_same, htk, tab_snoc hni]
        · rw [htk]
          intro st hst'
          rcases List.mem_append.mp hst' with h | h
          · have e : st ≠ kk.2.1 := fun e => hni (e ▸ h)
            obtain ⟨l, e1, e2⟩ := hf.same s36 st h
            exact ⟨l, by show (if st = kk.2.1 then V.ref D2 else f st) = _; rw [if_neg e]; exact e1, e2.upd hD36⟩
          · rw [List.mem_singleton.mp h]
            exact ⟨D2, if_pos rfl, el.upd hD36⟩
    · rintro H3 ⟨s3, f, hD3, hf⟩
      rw [List.take_length] at hD3 hf
      exact k D _ f H3 (none_back s2 hD) (s2.trans s3) hD3 RR hf
end
end DL

set_option Elab.async false
set_option maxRecDepth 100000
set_option maxHeartbeats 2000000
namespace DL
open PySem L2 HT TL RZ
theorem nSum_take {α : Type} (l : List α) (f : α → Nat) {i : Nat} {x : α} (h : l[i]? = some x) : nSum ((l.take (i + 1)).map f) = nSum ((l.take i).map f) + f x := by
  obtain ⟨hi, e⟩ := List.getElem?_eq_some_iff.mp h
  rw [List.take_succ_eq_append_getElem hi, List.map_append, e]
  exact nSum_snoc _ _
theorem count_take {l : List (List Bool)} {i : Nat} {x : List Bool} (b : List Bool) (h : l[i]? = some x) : (l.take (i + 1)).count b = (l.take i).count b + (if x = b then 1 else 0) := by
  obtain ⟨hi, e⟩ := List.getElem?_eq_some_iff.mp h
  rw [List.take_succ_eq_append_getElem hi, List.count_append, e, List.count_cons, List.count_nil]
  by_cases q : x = b
  · subst q
    simp
  · simp [q]
theorem walk_itemsT {d : Addr} {o : Obj} {rs : List (List Bool)} {f : List Bool → V} : Walk (Iti d o (tabV rs f)) rs.length (fun H => H d = some (.frz o (.dK (tabV rs f)))) (fun i H x H' => ∃ (T : Addr) (st : List Bool), x = .ref T ∧ H T = none ∧ H' = upd H T (.tup [.str (sstr st), f st]) ∧ rs[i]? = some st) := by
  rw [← tab_len rs f]
  refine (walk_items (d := d) (o := o) (kvs := tabV rs f)).mono (fun H h => h) fun i H x H' _ _ y => ?_
  obtain ⟨T, u, v, ex, hT, eH, h1, h2⟩ := y
  have h1 : (tabV rs f)[i]?.map (fun kv => kV kv.1) = some u := h1
  have h2 : (tabV rs f)[i]?.map Prod.snd = some v := h2
  cases e : (tabV rs f)[i]? with
  | none => rw [e] at h1; cases h1
  | some p =>
    obtain ⟨a, b⟩ := p
    rw [e] at h1 h2
    obtain ⟨st, e1, rfl, rfl⟩ := tab_get e
    cases h1
    cases h2
    exact ⟨T, st, ex, hT, eH, e1⟩
def cnV (g : List Bool → Nat) : List Bool → V := fun st => .int (g st : Nat)
structure spCtBeh (vs : List V) (H : Hp) (Q : VK) (_ : XK) : Prop where
  h : ∃ (p q : Addr) (od : Obj) (bs : List Bar) (n : Nat) (rs : List (List Bool)) (f : List Bool → V) (g : List Bool → Nat), vs = [.ref p, .ref q] ∧ n ≤ 7 ∧ H p = some (.frz od (.dK (tabV rs f))) ∧ Reach bs n rs ∧ PulsAt H bs rs f ∧ H q = some (.dK (tabV rs (cnV g))) ∧
    ∀ (a : Addr) (H' : Hp), H a = none → H' a = some (.dK (tabV rs (cnV fun b => nSum (rs.map fun st => g st * (nextL bs st).count b)))) → But q H H' → Q (.ref a) H'
section
variable {P : Program} {w : World} {K : PySem.W.Frag} {mg : Str → Option Value} {base : Heap}
abbrev nCB : List Str := ["pulls", "counts", "standing", "longer", "many", "_", "beyond"]
theorem scCB : FnScope nCB ["pulls", "counts"] (defScope s_counts_behind) := ⟨rfl, rfl, rfl, by decide +kernel, rfl, by decide +kernel, by decide +kernel⟩
theorem ok_countsBehind {f : Addr} {fd : FuncData} (F : Fun K "counts_behind" "counts_behind" s_counts_behind f fd) :
    FnOk P w K mg base CX0 1 f fd ["pulls", "counts"] spCtBeh := by
  refine F.ok scCB (fun vs H Q E h => ?_) (fun cdv A outer s H vs Q E hr h => ?_)
  · obtain ⟨p, q, _, _, _, _, _, _, rfl, _⟩ := h.h
    rfl
  · obtain ⟨p, q, od, bs, n, rs, f, g, rfl, n7, hp, RR, PA, hq, k⟩ := h.h
    have hu := hu_of hr
    refine ⟨_, pss_cons (ps_setDc (j := 3) (own := [("standing", 2)]) (g := gName 2) (tt := tYes) (by rfl) scCB.nd rfl rfl (by rfl) (pi_keys (pv 0)) (blkOk_by (N := nCB) (sc := defScope s_counts_behind) (by decide +kernel)) (fun _ _ _ _ _ => pg_name (i := 2) scCB.nd rfl (Or.inl rfl)) (fun _ _ _ _ _ => pts_nil) (fun _ _ _ _ _ => pv 2) (fun _ _ _ _ _ => pe_int))
      (pss_cons (ps_for PassesOwn.never rfl (pi_items (pe_frz (pv 1))) (pg_tup (by rfl) (pgs_cons (pg_name (i := 2) scCB.nd rfl (Or.inl rfl)) (pgs_cons (pg_name (i := 4) scCB.nd rfl (Or.inl rfl)) pgs_nil)))
        (pss_one (ps_for PassesOwn.never rfl (pi_list (pe_dget hu (pv 0) (pv 2) (fun _ _ => rfl))) (pg_tup (by rfl) (pgs_cons (pg_name (i := 5) scCB.nd rfl (Or.inl rfl)) (pgs_cons (pg_name (i := 6) scCB.nd rfl (Or.inl rfl)) pgs_nil)))
          (pss_one (ps_augS (pv 3) (pv 6) (pget_dct hu) (pv 4) ip_add (set_dict hu))))))
      (pss_one (ps_ret (pv 3)))), ?_⟩
    refine ⟨_, rfl, p, od, rfl, .inl ⟨_, hp, fun D hD => ?_⟩⟩
    have hfew := RR.few
    refine dc_it (walk_keys (d := p) (o := od) (kvs := tabV rs f)) (fun i H' => Same H H' ∧ H' D = some (.dK (tabV (rs.take i) (cnV fun _ => 0)))) ⟨same_upd hD, upd_same⟩ (fun i H' _ z => z.1 _ _ hp) ?_ ?_
    · rintro i x H3 H3' hi ⟨s3, hD3⟩ ⟨rfl, key, v, ekv, rfl⟩
      obtain ⟨st, est, rfl, rfl⟩ := tab_get ekv
      obtain ⟨hil, e⟩ := List.getElem?_eq_some_iff.mp est
      have htk : rs.take (i + 1) = rs.take i ++ [st] := by rw [List.take_succ_eq_append_getElem hil, e]
      have hni : st ∉ rs.take i := by
        have : (rs.take (i + 1)).Nodup := RR.nd.sublist (List.take_sublist _ _)
        rw [htk, List.nodup_append] at this
        intro h
        exact this.2.2 _ h _ (List.mem_singleton.mpr rfl) rfl
      refine ⟨rfl, tYes_of (iteT ?_)⟩
      refine ⟨_, rfl, _, .inr (sstr st), rfl, hD3, by rw [tab_len, List.length_take]; exact small1000 (by omega), fun b o e => ?_, ?_⟩
      · rw [upd_ne (ne_of_none e hD)]
        exact s3 b o e
      · rw [upd_same, htk, tab_snoc hni]
        refine congrArg some (congrArg HO.dK ?_)
        unfold tabV
        refine List.map_congr_left fun z _ => ?_
        show ((.inr (sstr z) : Key), if z = st then (.int 0) else cnV (fun _ => 0) z) = (_, cnV (fun _ => 0) z)
        by_cases ez : z = st
        · rw [if_pos ez]
          rfl
        · rw [if_neg ez]
    · rintro H3 ⟨s3, hD3⟩
      rw [tab_len, List.take_length] at hD3
      have hq3 := s3 _ _ hq
      have hDq : D ≠ q := (ne_of_none hq hD).symm
      have hDp : D ≠ p := (ne_of_none hp hD).symm
      have hpq : p ≠ q := ne_of hp hq (by intro z; cases z)
      refine ⟨_, rfl, q, _, rfl, hq3, trivial, fun oq => ?_⟩
      have hq4 : (upd H3 q (.frz oq (.dK (tabV rs (cnV g))))) q = some (.frz oq (.dK (tabV rs (cnV g)))) := upd_same
      have hp4 : (upd H3 q (.frz oq (.dK (tabV rs (cnV g))))) p = some (.frz od (.dK (tabV rs f))) := by
        rw [upd_ne hpq]
        exact s3 _ _ hp
      have hD4 : (upd H3 q (.frz oq (.dK (tabV rs (cnV g))))) D = some (.dK (tabV rs (cnV fun _ => 0))) := by
        rw [upd_ne hDq]
        exact hD3
      have PA4 : PulsAt (upd H3 q (.frz oq (.dK (tabV rs (cnV g))))) bs rs f := (PA.same s3).upd hq3
      have B4 : But q H (upd H3 q (.frz oq (.dK (tabV rs (cnV g))))) := fun b o hb e => by
        rw [upd_ne hb]
        exact s3 b o e
      generalize (upd H3 q (.frz oq (.dK (tabV rs (cnV g))))) = H4 at hq4 hp4 hD4 PA4 B4 ⊢
      refine ⟨q, oq, _, rfl, hq4, ?_⟩
      refine for_it walk_itemsT (fun i σ H' => (∃ u2 u4 u5 u6 : Option V, σ = [some (.ref p), some (.ref q), u2, some (.ref D), u4, u5, u6]) ∧ But D H4 H' ∧ H' D = some (.dK (tabV rs (cnV fun b => nSum ((rs.take i).map fun st => g st * (nextL bs st).count b)))))
        ⟨⟨_, _, _, _, rfl⟩, But.refl _ _, hD4⟩ (fun i σ H' _ z => z.2.1 _ _ hDq.symm hq4) ?_ ?_
      · rintro i x σ H5 H6 hi ⟨⟨u2, u4, u5, u6, rfl⟩, B5, hD5⟩ ⟨T', st, rfl, hT, rfl, est⟩
        have hm : st ∈ rs := List.mem_of_getElem? est
        obtain ⟨s6, f6⟩ := new_at (o := .tup [.str (sstr st), cnV g st]) hT
        generalize upd H5 T' (.tup [.str (sstr st), cnV g st]) = H6 at s6 f6 ⊢
        refine ⟨T', _, rfl, SqT.of' f6, rfl, _, _, rfl, _, _, rfl, rfl, ?_⟩
        have B6 := B5.trans (sbut s6)
        have hD6 := s6 _ _ hD5
        have hp6 := B6 _ _ hDp.symm hp4
        obtain ⟨l, el, pl⟩ := PA4 st hm
        obtain ⟨ts, hl4, ets, hts⟩ := pl.h
        have hl6 := B6 _ _ (ne_of hl4 hD4 (by intro z; cases z)) hl4
        have dg := dget_frz (.inr (sstr st)) hp6
        rw [tab_val, if_pos hm, el] at dg
        refine ⟨_, rfl, _, rfl, p, _, rfl, dg, l, rfl, ⟨_, SqL.of hl6⟩, ?_⟩
        refine for_list (K := K) (a := l) (xs := ts.map fun t => V.ref t.1) (fun m σ H' => (∃ u5 u6 : Option V, σ = [some (.ref p), some (.ref q), some (.str (sstr st)), some (.ref D), some (cnV g st), u5, u6]) ∧ But D H4 H' ∧
            H' D = some (.dK (tabV rs (cnV fun b => nSum ((rs.take i).map fun st => g st * (nextL bs st).count b) + g st * ((nextL bs st).take m).count b))))
          ⟨⟨_, _, rfl⟩, B6, hD6⟩ (fun m σ H' _ z => SqL.of (z.2.1 _ _ (ne_of hl4 hD4 (by intro z; cases z)) hl4)) ?_ ?_
        · rintro m x σ H7 hx ⟨⟨u5, u6, rfl⟩, B7, hD7⟩
          rw [List.getElem?_map] at hx
          cases et : ts[m]? with
          | none => rw [et] at hx; cases hx
          | some t =>
            rw [et] at hx
            cases hx
            have htm := List.mem_of_getElem? et
            have ht4 := hts t htm
            have ht7 := B7 _ _ (ne_of ht4 hD4 (by intro z; cases z)) ht4
            have en : (nextL bs st)[m]? = some (flip st t.2) := by
              unfold nextL
              rw [← ets, List.map_map, List.getElem?_map, et]
              rfl
            have hb : flip st t.2 ∈ rs := RR.ex st hm t.2 (by rw [← ets]; exact List.mem_map_of_mem (f := (·.2)) htm)
            refine ⟨t.1, _, rfl, SqT.of' ht7, rfl, _, _, rfl, _, _, rfl, rfl, ?_⟩
            have dg7 := DGet.k (k := .inr (sstr (flip st t.2))) hD7
            rw [tab_val, if_pos hb] at dg7
            refine ⟨_, rfl, _, rfl, D, _, rfl, dg7, _, rfl, _, _, rfl, rfl, D, _, rfl, DPut.k (k := .inr (sstr (flip st t.2))) hD7 (by rw [tab_len]; exact small1000 (by omega)), ?_⟩
            refine ⟨⟨_, _, rfl⟩, fun b o hbD e => ?_, ?_⟩
            · rw [upd_ne hbD]
              exact B7 b o hbD e
            · rw [upd_same, tab_put hb]
              refine congrArg some (congrArg HO.dK ?_)
              unfold tabV
              refine List.map_congr_left fun z _ => congrArg (Prod.mk _) ?_
              simp only [cnV]
              rw [count_take z en]
              by_cases ez : z = flip st t.2
              · subst ez
                rw [if_pos rfl, if_pos rfl, Nat.mul_add, Nat.mul_one]
                refine congrArg V.int ?_
                omega
              · rw [if_neg ez, if_neg (fun h => ez h.symm), Nat.add_zero]
        · rintro σ H7 ⟨⟨u5, u6, rfl⟩, B7, hD7⟩
          refine ⟨⟨_, _, _, _, rfl⟩, B7, ?_⟩
          rw [hD7]
          refine congrArg some (congrArg HO.dK (congrArg (tabV rs) (congrArg cnV (funext fun b => ?_))))
          rw [nSum_take _ _ est, List.length_map, List.take_of_length_le (l := nextL bs st)]
          unfold nextL
          rw [List.length_map, ← ets, List.length_map]
          exact Nat.le_refl _
      · rintro σ H5 ⟨⟨u2, u4, u5, u6, rfl⟩, B5, hD5⟩
        rw [List.take_length] at hD5
        refine ⟨_, rfl, k D H5 hD hD5 fun b o hb e => B5 b o ?_ (B4 b o hb e)⟩
        exact ne_of_none e hD
end
end DL

set_option Elab.async false
set_option maxRecDepth 100000
set_option maxHeartbeats 2000000
namespace DL
open PySem L2 HT TL RZ
structure spCkNum0 (vs : List V) (H : Hp) (Q : VK) (_ : XK) : Prop where
  h : ∃ i lo m : Int, vs = [.int i, .int lo, .int m] ∧ lo ≤ i ∧ i ≤ m ∧ Q .non H
structure spByEnd (C : Addr) (vs : List V) (H : Hp) (Q : VK) (_ : XK) : Prop where
  h : ∃ (c : Addr) (bs : List Bar) (n t : Nat), vs = [.ref c, .int t] ∧ CabOk C H c n bs ∧ t ≤ 60 ∧
    ∀ (a : Addr) (rs : List (List Bool)) (H' : Hp), H a = none → Same H H' → H' a = some (.dK (tabV rs (cnV fun b => (lvl bs n t).count b))) → Reach bs n rs → Q (.ref a) H'
structure spCtRows (C : Addr) (vs : List V) (H : Hp) (Q : VK) (_ : XK) : Prop where
  h : ∃ (c : Addr) (bs : List Bar) (n t : Nat), vs = [.ref c, .int t] ∧ CabOk C H c n bs ∧ t ≤ 60 ∧ ∀ H', Same H H' → Q (.int ((lvl bs n t).length : Nat)) H'
section
variable {P : Program} {w : World} {K : PySem.W.Frag} {mg : Str → Option Value} {base : Heap}
theorem scCkNum0 : FnScope ["value", "least", "most"] ["value", "least", "most"] (defScope s_check_number) := ⟨rfl, rfl, rfl, by decide +kernel, rfl, by decide +kernel, by decide +kernel⟩
theorem ok_ckNum0 {f f1 : Addr} {fd fd1 : FuncData} (F : Fun K "check_number" "check_number" s_check_number f fd)
    (G : FnOk P w K mg base CX0 1 f1 fd1 ["value"] (spIsInt K)) (g1 : mg "is_integer" = some (.ref f1)) (k1 : PySem.W.keepIn K (.ref f1) = true) (b1 : Binds K fd1 ["value"] []) :
    FnOk P w K mg base CX0 2 f fd ["value", "least", "most"] spCkNum0 := by
  refine F.ok scCkNum0 (fun vs H Q E h => ?_) (fun cdv A outer s H vs Q E hr h => ?_)
  · obtain ⟨i, lo, m, rfl, _⟩ := h.h
    rfl
  · obtain ⟨i, lo, m, rfl, i0, im, k⟩ := h.h
    refine ⟨_, pss_one (ps_if (PW.pt (pw_or (pt_not (pt_val (pe_call G (hr.mono (by decide)) rfl g1 k1 b1 .nil pass0 (pa_cons (pv 0) pa_nil)))) (pw_or1 (pt_not (pt_chain op_le op_le (pv 1) (pv 0) (pv 2)))))) (pss_one ps_never) pss_nil), ?_⟩
    refine ⟨_, rfl, ⟨.int i, .type "int", true, false, rfl, .base (.int i), kit_ty (by decide +kernel), kit_ty (by decide +kernel), _, rfl, iteF ?_⟩⟩
    refine ⟨_, rfl, _, rfl, _, _, rfl, rfl, _, rfl, ?_⟩
    rw [decide_eq_true i0]
    refine iteT ⟨_, rfl, _, _, rfl, rfl, _, rfl, ?_⟩
    rw [decide_eq_true im]
    exact iteF k
abbrev nCE : List Str := ["cabinet", "length", "pulls", "counts", "_", "standing"]
theorem scCE : FnScope nCE ["cabinet", "length"] (defScope s_counts_by_end) := ⟨rfl, rfl, rfl, by decide +kernel, rfl, by decide +kernel, by decide +kernel⟩
theorem ok_countsByEnd {f f1 f2 f3 C : Addr} {fd fd1 fd2 fd3 : FuncData} (F : Fun K "counts_by_end" "counts_by_end" s_counts_by_end f fd) (T : Bt mg) (CP : CabP P w K mg base C)
    (G1 : FnOk P w K mg base CX0 14 f1 fd1 ["cabinet"] (spPulls C)) (g1 : mg "reached_pulls" = some (.ref f1)) (k1 : PySem.W.keepIn K (.ref f1) = true) (b1 : Binds K fd1 ["cabinet"] [])
    (G2 : FnOk P w K mg base CX0 1 f2 fd2 ["drawers"] spFirst) (g2 : mg "first_standing" = some (.ref f2)) (k2 : PySem.W.keepIn K (.ref f2) = true) (b2 : Binds K fd2 ["drawers"] [])
    (G3 : FnOk P w K mg base CX0 1 f3 fd3 ["pulls", "counts"] spCtBeh) (g3 : mg "counts_behind" = some (.ref f3)) (k3 : PySem.W.keepIn K (.ref f3) = true) (b3 : Binds K fd3 ["pulls", "counts"] []) :
    FnOk P w K mg base CX0 16 f fd ["cabinet", "length"] (spByEnd C) := by
  refine F.ok scCE (fun vs H Q E h => ?_) (fun cdv A outer s H vs Q E hr h => ?_)
  · obtain ⟨c, bs, n, t, rfl, _⟩ := h.h
    rfl
  · obtain ⟨c, bs, n, t, rfl, B, t60, k⟩ := h.h
    have hu := hu_of hr
    obtain ⟨tc, ⟨dx, hc⟩, n7⟩ := B.cab
    have n1 : 1 ≤ n := by
      obtain ⟨_, _, _, _, _, _, q, _⟩ := B.h
      omega
    obtain ⟨pD, gD, fdD, hpD, GD, bD⟩ := CP.d
    refine ⟨_, pss_cons (ps_set (i := 2) scCE.nd rfl (Or.inl rfl) (pe_call G1 (hr.mono (by decide)) rfl g1 k1 b1 .nil pass0 (pa_cons (pv 0) pa_nil)))
      (pss_cons (ps_setDc (j := 3) (own := [("standing", 5)]) (g := gName 5) (tt := tYes) (by rfl) scCE.nd rfl rfl (by rfl) (pi_keys (pe_frz (pv 2))) (blkOk_by (N := nCE) (sc := defScope s_counts_by_end) (by decide +kernel)) (fun _ _ _ _ _ => pg_name (i := 5) scCE.nd rfl (Or.inl rfl)) (fun _ _ _ _ _ => pts_nil) (fun _ _ _ _ _ => pv 5) (fun _ _ _ _ _ => pe_int))
      (pss_cons (ps_asg pe_int (pg_sub (pv 3) (pe_call G2 (hr.mono (by decide)) rfl g2 k2 b2 .nil pass0 (pa_cons (pe_prop (pv 0) CP.cl hpD GD (hr.mono (by decide)) bD .nil pass0 rfl) pa_nil)) (set_dict hu)))
      (pss_cons (ps_for PassesOwn.never rfl (pi_range1 (by rfl) T.range (pa_cons (pv 1) pa_nil)) (pg_name (i := 4) scCE.nd rfl (Or.inl rfl))
        (pss_one (ps_set (i := 3) scCE.nd rfl (Or.inl rfl) (pe_call G3 (hr.mono (by decide)) rfl g3 k3 b3 .nil pass0 (pa_cons (pv 2) (pa_cons (pv 3) pa_nil))))))
      (pss_one (ps_ret (pv 3)))))), ?_⟩
    refine ⟨_, rfl, ⟨⟨c, bs, n, rfl, B, fun p rs f H1 hp0 s1 hp1 RR PA1 => ?_⟩⟩⟩
    refine ⟨_, rfl, p, _, rfl, hp1, trivial, fun od => ?_⟩
    have s2 : Same H (upd H1 p (.frz od (.dK (tabV rs f)))) := fun b o e => by
      rw [upd_ne (ne_of_none e hp0)]
      exact s1 b o e
    have hp : (upd H1 p (.frz od (.dK (tabV rs f)))) p = some (.frz od (.dK (tabV rs f))) := upd_same
    have PA : PulsAt (upd H1 p (.frz od (.dK (tabV rs f)))) bs rs f := PA1.upd hp1
    generalize (upd H1 p (.frz od (.dK (tabV rs f)))) = H2 at s2 hp PA ⊢
    refine ⟨p, od, rfl, .inl ⟨_, hp, fun D hD => ?_⟩⟩
    have hfew := RR.few
    refine dc_it (walk_keys (d := p) (o := od) (kvs := tabV rs f)) (fun i H' => Same H2 H' ∧ H' D = some (.dK (tabV (rs.take i) (cnV fun _ => 0)))) ⟨same_upd hD, upd_same⟩ (fun i H' _ z => z.1 _ _ hp) ?_ ?_
    · rintro i x H3 H3' hi ⟨s3, hD3⟩ ⟨rfl, key, v, ekv, rfl⟩
      obtain ⟨st, est, rfl, rfl⟩ := tab_get ekv
      obtain ⟨hil, e⟩ := List.getElem?_eq_some_iff.mp est
      have htk : rs.take (i + 1) = rs.take i ++ [st] := by rw [List.take_succ_eq_append_getElem hil, e]
      have hni : st ∉ rs.take i := by
        have : (rs.take (i + 1)).Nodup := RR.nd.sublist (List.take_sublist _ _)
        rw [htk, List.nodup_append] at this
        intro h
        exact this.2.2 _ h _ (List.mem_singleton.mpr rfl) rfl
      refine ⟨rfl, tYes_of (iteT ?_)⟩
      refine ⟨_, rfl, _, .inr (sstr st), rfl, hD3, by rw [tab_len, List.length_take]; exact small1000 (by omega), fun b o e => ?_, ?_⟩
      · rw [upd_ne (ne_of_none e hD)]
        exact s3 b o e
      · rw [upd_same, htk, tab_snoc hni]
        refine congrArg some (congrArg HO.dK ?_)
        unfold tabV
        refine List.map_congr_left fun z _ => ?_
        show ((.inr (sstr z) : Key), if z = st then (.int 0) else cnV (fun _ => 0) z) = (_, cnV (fun _ => 0) z)
        by_cases ez : z = st
        · rw [if_pos ez]
          rfl
        · rw [if_neg ez]
    · rintro H3 ⟨s3, hD3⟩
      rw [tab_len, List.take_length] at hD3
      have s23 := s2.trans s3
      have hc3 := s23 _ _ hc
      refine ⟨_, rfl, _, rfl, c, dx, _, rfl, hc3, ⟨⟨c, dx, _, tc, rfl, hc3, ⟨⟨n, rfl, n1, by omega, ?_⟩⟩⟩⟩⟩
      refine ⟨D, _, rfl, DPut.k (k := .inr (sstr (shutS n))) hD3 (by rw [tab_len]; exact small1000 (by omega)), ?_⟩
      rw [tab_put RR.root]
      have e0 : (tabV rs fun z => if z = shutS n then V.int 1 else cnV (fun _ => 0) z) = tabV rs (cnV fun b => (lvl bs n 0).count b) := by
        unfold tabV
        refine List.map_congr_left fun z _ => congrArg (Prod.mk _) ?_
        show (if z = shutS n then V.int 1 else V.int ((0 : Nat) : Int)) = V.int (([shutS n].count z : Nat) : Int)
        rw [List.count_cons, List.count_nil]
        by_cases ez : z = shutS n
        · subst ez
          simp
        · rw [if_neg ez]
          simp [Ne.symm ez]
      rw [e0]
      have Bd : ∀ {b : Addr} {o : HO}, H2 b = some o → (upd H3 D (.dK (tabV rs (cnV fun b => (lvl bs n 0).count b)))) b = some o := fun {b o} e => by
        rw [upd_ne (ne_of_none e hD)]
        exact s3 b o e
      have hD4 : (upd H3 D (.dK (tabV rs (cnV fun b => (lvl bs n 0).count b)))) D = some (.dK (tabV rs (cnV fun b => (lvl bs n 0).count b))) := upd_same
      generalize (upd H3 D (.dK (tabV rs (cnV fun b => (lvl bs n 0).count b)))) = H4 at Bd hD4 ⊢
      have Bd : Same H2 H4 := fun b o e => Bd e
      refine ⟨_, rfl, _, rfl, by omega, by omega, ?_⟩
      rw [Int.toNat_natCast]
      have hHD : H D = none := none_back s2 hD
      refine for_range (lo := 0) (n := t) (fun i σ H' => ∃ (q : Addr) (u4 u5 : Option V), σ = [some (.ref c), some (.int t), some (.ref p), some (.ref q), u4, u5] ∧ H2 q = none ∧ Same H2 H' ∧ H' q = some (.dK (tabV rs (cnV fun b => (lvl bs n i).count b))))
        ⟨D, _, _, rfl, hD, Bd, hD4⟩ ?_ ?_
      · rintro i σ H5 hi ⟨q, u4, u5, rfl, hq2, s5, hq5⟩
        refine ⟨_, rfl, _, rfl, ⟨⟨p, q, od, bs, n, rs, f, fun b => (lvl bs n i).count b, rfl, by omega, s5 _ _ hp, RR, PA.same s5, hq5, fun a H6 ha hA B6 => ?_⟩⟩⟩
        refine ⟨a, _, _, rfl, none_back s5 ha, fun b o e => B6 b o (ne_of_none e hq2) (s5 b o e), ?_⟩
        rw [hA]
        exact congrArg some (congrArg HO.dK (congrArg (tabV rs) (congrArg cnV (funext fun b => lvl_next RR.nd RR.root RR.ex i b))))
      · rintro σ H5 ⟨q, u4, u5, rfl, hq2, s5, hq5⟩
        exact ⟨_, rfl, k q rs H5 (none_back s2 hq2) (s2.trans s5) hq5 RR⟩
theorem sum_boot : bootBuiltins ("sum" : Str) = some (.builtin "sum") := by decide +kernel
theorem scCR : FnScope ["cabinet", "length"] ["cabinet", "length"] (defScope s_count_rows) := ⟨rfl, rfl, rfl, by decide +kernel, rfl, by decide +kernel, by decide +kernel⟩
theorem ok_countRows {f f1 f2 f3 C : Addr} {fd fd1 fd2 fd3 : FuncData} (F : Fun K "count_rows" "count_rows" s_count_rows f fd) (zS : mg "sum" = none) (zL : mg "list" = none) (gM : ∃ t, mg "MOST_PULLS" = some (.int 60 t))
    (G1 : FnOk P w K mg base CX0 1 f1 fd1 ["cabinet"] (spCkCab C)) (g1 : mg "check_cabinet" = some (.ref f1)) (k1 : PySem.W.keepIn K (.ref f1) = true) (b1 : Binds K fd1 ["cabinet"] [])
    (G2 : FnOk P w K mg base CX0 2 f2 fd2 ["value", "least", "most"] spCkNum0) (g2 : mg "check_number" = some (.ref f2)) (k2 : PySem.W.keepIn K (.ref f2) = true) (b2 : Binds K fd2 ["value", "least", "most"] [])
    (G3 : FnOk P w K mg base CX0 16 f3 fd3 ["cabinet", "length"] (spByEnd C)) (g3 : mg "counts_by_end" = some (.ref f3)) (k3 : PySem.W.keepIn K (.ref f3) = true) (b3 : Binds K fd3 ["cabinet", "length"] []) :
    FnOk P w K mg base CX0 18 f fd ["cabinet", "length"] (spCtRows C) := by
  refine F.ok scCR (fun vs H Q E h => ?_) (fun cdv A outer s H vs Q E hr h => ?_)
  · obtain ⟨c, bs, n, t, rfl, _⟩ := h.h
    rfl
  · obtain ⟨c, bs, n, t, rfl, B, t60, k⟩ := h.h
    obtain ⟨tc, hc, n7⟩ := B.cab
    obtain ⟨tM, gM⟩ := gM
    refine ⟨_, pss_cons (ps_expr (pe_call G1 (hr.mono (by decide)) rfl g1 k1 b1 .nil pass0 (pa_cons (pv 0) pa_nil)))
      (pss_cons (ps_expr (pe_call G2 (hr.mono (by decide)) rfl g2 k2 b2 .nil pass0 (pa_cons (pv 1) (pa_cons pe_int (pa_cons (pe_glob (v := .int 60) rfl gM ⟨_, rfl⟩) pa_nil)))))
      (pss_one (ps_ret (pe_callB (cr_sum rfl) (by rfl) zS sum_boot (pa_cons (pe_callTy (cr_listVw rfl) (by rfl) zL (by decide +kernel) (pa_cons (pe_vw (pe_frz (pe_call G3 (hr.mono (by decide)) rfl g3 k3 b3 .nil pass0 (pa_cons (pv 0) (pa_cons (pv 1) pa_nil))))) pa_nil)) pa_nil))))), ?_⟩
    refine ⟨_, rfl, ⟨⟨c, _, tc, rfl, hc, ?_⟩⟩⟩
    refine ⟨_, rfl, ⟨⟨t, 0, 60, rfl, by omega, by omega, ?_⟩⟩⟩
    refine ⟨_, rfl, _, rfl, ⟨⟨c, bs, n, t, rfl, B, t60, fun a rs H1 ha s1 hA RR => ?_⟩⟩⟩
    refine ⟨a, _, rfl, hA, trivial, fun od => ?_⟩
    have s2 : Same H (upd H1 a (.frz od (.dK (tabV rs (cnV fun b => (lvl bs n t).count b))))) := fun b o e => by
      rw [upd_ne (ne_of_none e ha)]
      exact s1 b o e
    have f2 : (upd H1 a (.frz od (.dK (tabV rs (cnV fun b => (lvl bs n t).count b))))) a = some (.frz od (.dK (tabV rs (cnV fun b => (lvl bs n t).count b)))) := upd_same
    generalize (upd H1 a (.frz od (.dK (tabV rs (cnV fun b => (lvl bs n t).count b))))) = H2 at s2 f2 ⊢
    have hfew := RR.few
    refine ⟨a, od, _, rfl, f2, fun v nv => ?_⟩
    obtain ⟨s3, f3⟩ := new_at (o := viewO "dict_values" v a) nv
    generalize upd H2 v (viewO "dict_values" v a) = H3 at s3 f3 ⊢
    refine ⟨v, a, od, _, rfl, f3, s3 _ _ f2, by rw [tab_len]; exact Nat.le_of_lt (small1000 (by omega)), fun l nl => ?_⟩
    rw [tab_snd]
    obtain ⟨s4, f4⟩ := new_at (o := .lst (rs.map (cnV fun b => (lvl bs n t).count b))) nl
    generalize upd H3 l (.lst (rs.map (cnV fun b => (lvl bs n t).count b))) = H4 at s4 f4 ⊢
    refine ⟨l, (rs.map fun b => (lvl bs n t).count b).map fun x : Nat => (x : Int), rfl, SqL.of (by rw [f4, List.map_map, List.map_map]; rfl), ?_⟩
    rw [int_sum, lvl_all RR.nd RR.root RR.ex]
    exact k H4 ((s2.trans s3).trans s4)
end
end DL

set_option Elab.async false
set_option maxRecDepth 100000
set_option maxHeartbeats 1000000
namespace DL
open PySem PySem.Spec PyProof.Rows L2 HT TL RZ
/-! ### list.count of texts -/
def sameT (z : Str) (v : Value) : Bool := match v with
  | .str y _ => y == z
  | _ => false
section
variable {X : Cx}
def rCntS (K : PySem.W.Frag) : V → List V → Hp → VK → Prop := fun x xs H Q => ∃ (p : Addr) (ys : List Str) (z : Str), x = .ref p ∧ xs = [.str z] ∧ SqL K H p (ys.map V.str) ∧ Q (.int (ys.count z : Nat)) H
theorem count_same {z : Str} : ∀ {ys : List Str} {us : List Value}, Vals (ys.map V.str) us → us.countP (sameT z) = ys.count z
  | [], us, h => by
    cases h
    rfl
  | y :: ys, us, h => by
    cases h with
    | cons a b =>
      obtain ⟨t, rfl⟩ := a
      rw [List.countP_cons, List.count_cons, count_same b]
      rfl
theorem all_texts : ∀ {ys : List Str} {us : List Value}, Vals (ys.map V.str) us → ∀ y ∈ us, ∃ w t, y = .str w t
  | [], us, h, y, hy => by
    cases h
    cases hy
  | a :: ys, us, h, y, hy => by
    cases h with
    | cons p r =>
      rcases List.mem_cons.mp hy with e | e
      · obtain ⟨t, e2⟩ := p
        exact ⟨a, t, e.trans e2⟩
      · exact all_texts r y e
theorem mt_countS : MtR X "list.count" (rCntS X.K) := by
  intro pins s σ H x xs v us Q I rx rxs h
  obtain ⟨p, ys, z, rfl, rfl, hs, q⟩ := h
  obtain ⟨u, rfl, ru⟩ := rxs.one
  obtain ⟨t, rfl⟩ := ru
  cases rx
  obtain ⟨us, rel, ⟨⟨cls, dd, data, sl⟩, n, there, hc, hdn, hd⟩, _⟩ := I.list hs
  simp only at hc hd
  subst hc hd
  have each : ∀ y ∈ us, ∀ A2 s2, SeqAt.EqAt A2 s2 y (.str z t) (sameT z y) := fun y hy A2 s2 => by
    obtain ⟨w, tw, rfl⟩ := all_texts rel y hy
    exact SeqAt.EqAt.str_str w tw z t
  have em : us.toArray.toList.countP (sameT z) = ys.count z := count_same rel
  have run := SeqAt.list_countAt p us.toArray n dd sl (.str z t) (sameT z)
  refine call_meets PySem.F.slot_list_count ⟨_, there, rfl⟩ PySem.F.entry_list_count (PySem.F.args_list_count_2 _ _) run ⟨there, fun y hy => each y (by simpa using hy) _ _, ?_⟩
  rw [em]
  exact ⟨.int (ys.count z : Nat), H, I.tok _, ⟨s.toks, rfl⟩, q⟩
end
/-! ### tables of whole numbers -/
abbrev MRow := Addr × List Int
def refM (ms : List MRow) : List V := ms.map fun p => V.ref p.1
structure MatAt (H : Hp) (w : Addr) (ms : List MRow) : Prop where
  at' : H w = some (.lst (refM ms))
  el : ∀ p ∈ ms, H p.1 = some (.lst (p.2.map V.int))
theorem MatAt.same {H H' : Hp} {w : Addr} {ms : List MRow} (M : MatAt H w ms) (s : Same H H') : MatAt H' w ms := ⟨s _ _ M.at', fun p h => s _ _ (M.el p h)⟩
/-- a comprehension whose elements are new lists of whole numbers -/
theorem lc_mat {α : Type} {J : It} {n : Nat} {G : Hp → Prop} {Y : Nat → Hp → V → Hp → Prop} (wk : Walk J n G Y) (l : List α) (hl : l.length = n) (hn : n ≤ 3000) (r : α → List Int) {g : TG} {te : TE} {vs : List Nat} {σ : L2.St} {H1 : Hp} {D : Addr} {Qd : Hp → Prop}
    (hD : H1 D = none) (hG : ∀ H, Same H1 H → G H)
    (hs : ∀ i x z H H' (Tk : V → Hp → Prop) (Nk : Hp → Prop), l[i]? = some z → Same H1 H → Y i H x H' → (∀ a H4, H a = none → Same H H4 → H4 a = some (.lst ((r z).map V.int)) → Tk (.ref a) H4) →
      g x (wipe σ vs) H' fun σ2 H2 => wipe σ2 vs = wipe σ vs ∧ tYes σ2 H2 fun b H3 => if b = true then te σ2 H3 Tk else Nk H3)
    (hd : ∀ H cs, Same H1 H → MatAt H D cs → cs.map (·.2) = l.map r → Qd H) :
    ∃ W : Nat → Nat → Hp → Prop, (∃ m, W 0 m (upd H1 D (.lst []))) ∧ ∀ i m H, W i m H →
      (J.stop i H ∧ Qd H) ∨ (J.go i H ∧ ∃ Nx : Hp → Prop, (∀ H', Nx H' → ∃ m', m' < m ∧ W (i + 1) m' H') ∧ ∀ x H', J.yld i H x H' → g x (wipe σ vs) H' fun σ2 H2 => wipe σ2 vs = wipe σ vs ∧ tYes σ2 H2 fun b H3 =>
        if b = true then te σ2 H3 fun y H4 => ∃ acc, H4 D = some (.lst acc) ∧ acc.length < sizeLine ∧ Nx (upd H4 D (.lst (acc ++ [y]))) else Nx H3) := by
  refine lc_it wk (fun i H' => Same H1 H' ∧ ∃ cs : List MRow, MatAt H' D cs ∧ (∀ p ∈ cs, p.1 ≠ D) ∧ cs.map (·.2) = (l.take i).map r) ⟨same_upd hD, [], ⟨upd_same, fun p h => by cases h⟩, fun p h => (by cases h), rfl⟩ (fun i H' _ q => hG H' q.1) ?_ ?_
  · rintro i x H H' hi ⟨s1, cs, M, nD, ec⟩ y
    have hil : i < l.length := by omega
    have ez : l[i]? = some l[i] := List.getElem?_eq_getElem hil
    refine hs i x l[i] H H' _ _ ez s1 y fun a H4 ha s4 h4 => ?_
    · have hDl := s4 _ _ M.at'
      have na : a ≠ D := fun z => by
        rw [z, M.at'] at ha
        cases ha
      have lc : cs.length = i := by
        have := congrArg List.length ec
        rw [List.length_map, List.length_map, List.length_take] at this
        omega
      refine ⟨_, hDl, by unfold refM; rw [List.length_map]; exact Nat.lt_of_le_of_lt (by omega : cs.length ≤ 3000) (by decide), fun b o e => ?_, cs ++ [(a, r l[i])], ⟨?_, fun p hp => ?_⟩, fun p hp => ?_, ?_⟩
      · rw [upd_ne (ne_of_none e hD)]
        exact s4 _ _ (s1 b o e)
      · rw [upd_same]
        unfold refM
        rw [List.map_append]
        rfl
      · rcases List.mem_append.mp hp with h | h
        · rw [upd_ne (nD p h)]
          exact s4 _ _ (M.el p h)
        · rw [List.mem_singleton.mp h]
          rw [upd_ne na]
          exact h4
      · rcases List.mem_append.mp hp with h | h
        · exact nD p h
        · rw [List.mem_singleton.mp h]
          exact na
      · rw [List.map_append, ec, List.take_succ_eq_append_getElem hil, List.map_append]
        rfl
  · rintro H ⟨s1, cs, M, nD, ec⟩
    rw [← hl, List.take_length] at ec
    exact hd H cs s1 M ec
end DL

set_option Elab.async false
set_option maxRecDepth 100000
set_option maxHeartbeats 2000000
namespace DL
open PySem L2 HT TL RZ
def dotI (xs ys : List Int) : Int := ((xs.zip ys).map fun p => p.1 * p.2).sum
structure spDot (K : PySem.W.Frag) (vs : List V) (H : Hp) (Q : VK) (_ : XK) : Prop where
  h : ∃ (a b : Addr) (xs ys : List Int), vs = [.ref a, .ref b] ∧ SqL K H a (xs.map V.int) ∧ SqL K H b (ys.map V.int) ∧ ys.length = xs.length ∧ xs.length ≤ 1000 ∧ (∀ x ∈ xs, 0 ≤ x ∧ x < 2 ^ 40) ∧ ∀ H', Same H H' → Q (.int (dotI xs ys)) H'
def colM (M : List (List Int)) (j : Nat) : List Int := M.map fun row => row.getD j 0
def dblM (d : Int) (M : List (List Int)) : List (List Int) := M.map fun row => (List.range M.length).map fun j => dotI row (colM M j) % d
structure spDoubled (vs : List V) (H : Hp) (Q : VK) (_ : XK) : Prop where
  h : ∃ (w : Addr) (d : Int) (ms : List MRow), vs = [.ref w, .int d] ∧ 1 ≤ d ∧ MatAt H w ms ∧ (∀ p ∈ ms, p.2.length = ms.length) ∧ (∀ p ∈ ms, ∀ x ∈ p.2, 0 ≤ x ∧ x < 2 ^ 40) ∧ ms.length ≤ 128 ∧
    ∀ (w' : Addr) (ms' : List MRow) (H' : Hp), Same H H' → MatAt H' w' ms' → ms'.map (·.2) = dblM d (ms.map (·.2)) → Q (.ref w') H'
section
variable {P : Program} {w : World} {K : PySem.W.Frag} {mg : Str → Option Value} {base : Heap}
abbrev nDot : List Str := ["ones", "others", "one", "other"]
theorem scDot : FnScope nDot ["ones", "others"] (defScope s_dot) := ⟨rfl, rfl, rfl, by decide +kernel, rfl, by decide +kernel, by decide +kernel⟩
theorem ok_dot {f : Addr} {fd : FuncData} (F : Fun K "dot" "dot" s_dot f fd) (zS : mg "sum" = none) (zZ : mg "zip" = none) : FnOk P w K mg base CX0 1 f fd ["ones", "others"] (spDot K) := by
  refine F.ok scDot (fun vs H Q E h => ?_) (fun cdv A outer s H vs Q E hr h => ?_)
  · obtain ⟨a, b, xs, ys, rfl, _⟩ := h.h
    rfl
  · obtain ⟨a, b, xs, ys, rfl, hx, hy, hl, hn, hb, k⟩ := h.h
    refine ⟨_, pss_one (ps_ret (pe_callB (cr_sum rfl) (by rfl) zS sum_boot (pa_cons
      (pe_lc (own := [("one", 2), ("other", 3)]) (g := gTup K 2 (gCons (gName 2) (gCons (gName 3) gNil))) (tt := tYes) (by rfl) scDot.nd (pi_zip (by rfl) zZ (pa_cons (pv 0) (pa_cons (pv 1) pa_nil))) (blkOk_by (N := nDot) (sc := defScope s_dot) (by decide +kernel))
        (fun _ _ _ _ _ => pg_tupK (K := K) rfl rfl (pgs_cons (pg_name (i := 2) scDot.nd rfl (Or.inl rfl)) (pgs_cons (pg_name (i := 3) scDot.nd rfl (Or.inl rfl)) pgs_nil))) (fun _ _ _ _ _ => pts_nil)
        (fun _ _ _ _ _ => pe_op op_mul (pv 2) (pv 3))) pa_nil))), ?_⟩
    refine ⟨_, rfl, _, rfl, a, b, _, _, rfl, hx, hy, fun D hD => ?_⟩
    refine lc_pick (walk_zip (K := K) (a := a) (b := b) (xs := xs.map V.int) (ys := ys.map V.int) (n := (xs.zip ys).length) (by rw [List.length_zip, List.length_map, List.length_map])) (xs.zip ys) rfl (by rw [List.length_zip]; omega) (fun _ => true) (fun p => .int (p.1 * p.2)) hD (fun H' s => ⟨s.seq hx, s.seq hy⟩) ?_ ?_
    · rintro i x z H1 H1' Tk Nk ez s1 ⟨T, u, v, rfl, hT, rfl, eu, ev⟩ kT kF
      have eu : (xs.map V.int)[i]? = some u := eu
      have ev : (ys.map V.int)[i]? = some v := ev
      obtain ⟨z1, z2⟩ := z
      obtain ⟨e1, e2⟩ := List.getElem?_zip_eq_some.mp ez
      rw [List.getElem?_map, e1] at eu
      rw [List.getElem?_map, e2] at ev
      cases eu
      cases ev
      have s2 := same_upd (o := .tup [V.int z1, V.int z2]) hT
      refine ⟨T, _, rfl, SqT.of' upd_same, rfl, _, _, rfl, _, _, rfl, rfl, rfl, tYes_of (iteT ?_)⟩
      have bz := hb z1 (List.mem_of_getElem? e1)
      exact ⟨_, rfl, _, rfl, _, _, rfl, rfl, .inl ⟨by show -(2 ^ 64) < z1; omega, by show z1 < 2 ^ 64; omega⟩, kT _ rfl s2⟩
    · intro H1 s1 hD1
      rw [List.filter_eq_self.mpr fun _ _ => rfl] at hD1
      exact ⟨D, (xs.zip ys).map fun p : Int × Int => p.1 * p.2, rfl, SqL.of (by rw [hD1, List.map_map]; rfl), k H1 s1⟩
abbrev nDbl : List Str := ["ways", "divisor", "columns", "at", "row", "column"]
theorem scDbl : FnScope nDbl ["ways", "divisor"] (defScope s_doubled) := ⟨rfl, rfl, rfl, by decide +kernel, rfl, by decide +kernel, by decide +kernel⟩
theorem ok_doubled {f f1 : Addr} {fd fd1 : FuncData} (F : Fun K "doubled" "doubled" s_doubled f fd) (T : Bt mg)
    (G1 : FnOk P w K mg base CX0 1 f1 fd1 ["ones", "others"] (spDot K)) (g1 : mg "dot" = some (.ref f1)) (k1 : PySem.W.keepIn K (.ref f1) = true) (b1 : Binds K fd1 ["ones", "others"] []) :
    FnOk P w K mg base CX0 2 f fd ["ways", "divisor"] spDoubled := by
  refine F.ok scDbl (fun vs H Q E h => ?_) (fun cdv A outer s H vs Q E hr h => ?_)
  · obtain ⟨w, d, ms, rfl, _⟩ := h.h
    rfl
  · obtain ⟨wa, d, ms, rfl, d1, M, hsq, hb, hfew, k⟩ := h.h
    refine ⟨_, pss_cons (ps_set (i := 2) scDbl.nd rfl (Or.inr rfl)
        (pe_lc (own := [("at", 3)]) (g := gName 3) (tt := tYes) (by rfl) scDbl.nd (pi_range1 (by rfl) T.range (pa_cons (pe_callB call_len_seq (by rfl) T.len (by decide +kernel) (pa_cons (pv 0) pa_nil)) pa_nil)) (blkOk_by (N := nDbl) (sc := defScope s_doubled) (by decide +kernel)) (fun _ _ _ _ _ => pg_name (i := 3) scDbl.nd rfl (Or.inr rfl)) (fun _ _ _ _ _ => pts_nil)
          (fun _ _ _ _ _ => by exact (pe_lc (own := [("row", 4)]) (g := gName 4) (tt := tYes) (by rfl) scDbl.nd (pi_listK (K := K) rfl (pv 0)) (blkOk_by (N := nDbl) (by rfl)) (fun _ _ _ _ _ => pg_name (i := 4) scDbl.nd rfl (Or.inl rfl)) (fun _ _ _ _ _ => pts_nil)
            (fun _ _ _ _ _ => pe_ix (ix_listK (K := K) rfl) (pv 4) (pv 3) (fun _ _ => rfl))))))
      (pss_one (ps_ret
        (pe_lc (own := [("row", 4)]) (g := gName 4) (tt := tYes) (by rfl) scDbl.nd (pi_list (pv 0)) (blkOk_by (N := nDbl) (sc := defScope s_doubled) (by decide +kernel)) (fun _ _ _ _ _ => pg_name (i := 4) scDbl.nd rfl (Or.inr rfl)) (fun _ _ _ _ _ => pts_nil)
          (fun _ _ _ _ _ => by exact (pe_lc (own := [("column", 5)]) (g := gName 5) (tt := tYes) (by rfl) scDbl.nd (pi_listK (K := K) rfl (pv 2)) (blkOk_by (N := nDbl) (by rfl)) (fun _ _ _ _ _ => pg_name (i := 5) scDbl.nd rfl (Or.inl rfl)) (fun _ _ _ _ _ => pts_nil)
            (fun _ _ _ _ _ => pe_op op_mod (pe_call G1 (hr.mono (by decide)) rfl g1 k1 b1 .nil pass0 (pa_cons (pv 4) (pa_cons (pv 5) pa_nil))) (pv 1))))))), ?_⟩
    have hlen : (refM ms).length = ms.length := List.length_map ..
    have rowAt : ∀ p ∈ ms, ∀ j : Nat, j < ms.length → atI (p.2.map V.int) (j : Int) = some (.int (p.2.getD j 0)) := fun p hp j hj => by
      have : j < p.2.length := by rw [hsq p hp]; exact hj
      refine atI_nat ?_
      rw [List.getElem?_map, List.getElem?_eq_getElem this, List.getD_eq_getElem?_getD, List.getElem?_eq_getElem this]
      rfl
    refine ⟨_, rfl, wa, _, rfl, .inl (SqL.of M.at'), _, rfl, by omega, by rw [hlen]; omega, fun D hD => ?_⟩
    rw [Int.toNat_natCast, hlen]
    refine lc_mat (walk_range (lo := 0) (n := ms.length)) (List.range ms.length) List.length_range (by omega) (fun j => colM (ms.map (·.2)) j) hD (fun _ _ => trivial) ?_ ?_
    · rintro i x z H1 H1' Tk Nk ez s1 y kT
      obtain ⟨rfl, rfl⟩ := y
      obtain ⟨hi, e⟩ := List.getElem?_eq_some_iff.mp ez
      rw [List.getElem_range] at e
      subst e
      rw [List.length_range] at hi
      have M1 := M.same s1
      refine ⟨rfl, tYes_of (iteT ?_)⟩
      refine ⟨_, rfl, wa, rfl, ⟨_, SqL.of M1.at'⟩, fun D2 hD2 => ?_⟩
      refine lc_pick (walk_lst (K := K) (a := wa) (l := ms) (f := fun p => V.ref p.1)) ms rfl (by omega) (fun _ => true) (fun p => .int (p.2.getD i 0)) hD2 (fun H' s => s.seq (SqL.of M1.at')) ?_ ?_
      · rintro m x z H2 H2' Tk2 Nk2 ez2 s2 ⟨rfl, z', ez', rfl⟩ kT2 kF2
        rw [ez2] at ez'
        cases ez'
        have hm := List.mem_of_getElem? ez2
        refine ⟨rfl, tYes_of (iteT ?_)⟩
        refine ⟨_, rfl, _, rfl, z.1, _, _, _, rfl, rfl, SqL.of ((M1.same s2).el z hm), ?_, kT2 _ rfl (Same.refl _)⟩
        show atI _ ((0 : Int) + (i : Nat)) = _
        rw [Int.zero_add]
        exact rowAt z hm i hi
      · intro H2 s2 hD2'
        rw [List.filter_eq_self.mpr fun _ _ => rfl] at hD2'
        refine kT D2 H2 hD2 s2 ?_
        rw [hD2']
        unfold colM
        rw [List.map_map, List.map_map]
        rfl
    · intro H1 cs s1 Mc ec
      have lcs : cs.length = ms.length := by
        have := congrArg List.length ec
        rw [List.length_map, List.length_map, List.length_range] at this
        exact this
      have M1 := M.same s1
      refine ⟨_, rfl, wa, rfl, ⟨_, SqL.of M1.at'⟩, fun D2 hD2 => ?_⟩
      refine lc_mat (walk_lst (K := K) (a := wa) (l := ms) (f := fun p => V.ref p.1)) ms rfl (by omega) (fun p => (List.range ms.length).map fun j => dotI p.2 (colM (ms.map (·.2)) j) % d) hD2 (fun H' s => s.seq (SqL.of M1.at')) ?_ ?_
      · rintro i x z H2 H2' Tk Nk ez s2 ⟨rfl, z', ez', rfl⟩ kT
        rw [ez] at ez'
        cases ez'
        have hm := List.mem_of_getElem? ez
        have M2 := M1.same s2
        have Mc2 := Mc.same s2
        refine ⟨rfl, tYes_of (iteT ?_)⟩
        refine ⟨_, rfl, D, rfl, ⟨_, SqL.of Mc2.at'⟩, fun D3 hD3 => ?_⟩
        refine lc_pick (walk_lst (K := K) (a := D) (l := cs) (f := fun p => V.ref p.1)) cs rfl (by omega) (fun _ => true) (fun c => .int (dotI z.2 c.2 % d)) hD3 (fun H' s => s.seq (SqL.of Mc2.at')) ?_ ?_
        · rintro m x y H3 H3' Tk3 Nk3 ez3 s3 ⟨rfl, z', ez', rfl⟩ kT3 kF3
          rw [ez3] at ez'
          cases ez'
          have hc := List.mem_of_getElem? ez3
          have yl : y.2.length = ms.length := by
            have : y.2 ∈ (List.range ms.length).map fun j => colM (ms.map (·.2)) j := by rw [← ec]; exact List.mem_map_of_mem (f := (·.2)) hc
            obtain ⟨j, _, e⟩ := List.mem_map.mp this
            rw [← e]
            unfold colM
            rw [List.length_map, List.length_map]
          refine ⟨rfl, tYes_of (iteT ?_)⟩
          refine ⟨_, rfl, _, rfl, ⟨⟨z.1, y.1, z.2, y.2, rfl, SqL.of ((M2.same s3).el z hm), SqL.of ((Mc2.same s3).el y hc), by rw [yl, hsq z hm], by rw [hsq z hm]; omega, hb z hm, fun H4 s4 => ?_⟩⟩⟩
          exact ⟨_, rfl, _, _, rfl, rfl, by omega, kT3 _ rfl s4⟩
        · intro H3 s3 hD3'
          rw [List.filter_eq_self.mpr fun _ _ => rfl] at hD3'
          refine kT D3 H3 hD3 s3 ?_
          rw [hD3']
          refine congrArg some (congrArg HO.lst ?_)
          have e : cs.map (fun c => V.int (dotI z.2 c.2 % d)) = (cs.map (·.2)).map fun c => V.int (dotI z.2 c % d) := by rw [List.map_map]; rfl
          rw [e, ec, List.map_map, List.map_map]
          rfl
      · intro H2 cs2 s2 M2 ec2
        refine k D2 cs2 H2 (s1.trans s2) M2 ?_
        rw [ec2]
        unfold dblM
        rw [List.map_map, List.length_map]
        rfl
end
end DL

set_option Elab.async false
set_option maxRecDepth 100000
set_option maxHeartbeats 2000000
namespace DL
open PySem L2 HT TL RZ
/-! ### lists of texts -/
abbrev SRow := Addr × List Str
def refS (ms : List SRow) : List V := ms.map fun p => V.ref p.1
structure LstAt (H : Hp) (w : Addr) (ms : List SRow) : Prop where
  at' : H w = some (.lst (refS ms))
  el : ∀ p ∈ ms, H p.1 = some (.lst (p.2.map V.str))
theorem LstAt.same {H H' : Hp} {w : Addr} {ms : List SRow} (M : LstAt H w ms) (s : Same H H') : LstAt H' w ms := ⟨s _ _ M.at', fun p h => s _ _ (M.el p h)⟩
/-- a comprehension whose elements are new lists of texts -/
theorem lc_txt {α : Type} {J : It} {n : Nat} {G : Hp → Prop} {Y : Nat → Hp → V → Hp → Prop} (wk : Walk J n G Y) (l : List α) (hl : l.length = n) (hn : n ≤ 3000) (r : α → List Str) {g : TG} {te : TE} {vs : List Nat} {σ : L2.St} {H1 : Hp} {D : Addr} {Qd : Hp → Prop}
    (hD : H1 D = none) (hG : ∀ H, Same H1 H → G H)
    (hs : ∀ i x z H H' (Tk : V → Hp → Prop) (Nk : Hp → Prop), l[i]? = some z → Same H1 H → Y i H x H' → (∀ a H4, H a = none → Same H H4 → H4 a = some (.lst ((r z).map V.str)) → Tk (.ref a) H4) →
      g x (wipe σ vs) H' fun σ2 H2 => wipe σ2 vs = wipe σ vs ∧ tYes σ2 H2 fun b H3 => if b = true then te σ2 H3 Tk else Nk H3)
    (hd : ∀ H cs, Same H1 H → LstAt H D cs → cs.map (·.2) = l.map r → Qd H) :
    ∃ W : Nat → Nat → Hp → Prop, (∃ m, W 0 m (upd H1 D (.lst []))) ∧ ∀ i m H, W i m H →
      (J.stop i H ∧ Qd H) ∨ (J.go i H ∧ ∃ Nx : Hp → Prop, (∀ H', Nx H' → ∃ m', m' < m ∧ W (i + 1) m' H') ∧ ∀ x H', J.yld i H x H' → g x (wipe σ vs) H' fun σ2 H2 => wipe σ2 vs = wipe σ vs ∧ tYes σ2 H2 fun b H3 =>
        if b = true then te σ2 H3 fun y H4 => ∃ acc, H4 D = some (.lst acc) ∧ acc.length < sizeLine ∧ Nx (upd H4 D (.lst (acc ++ [y]))) else Nx H3) := by
  refine lc_it wk (fun i H' => Same H1 H' ∧ ∃ cs : List SRow, LstAt H' D cs ∧ (∀ p ∈ cs, p.1 ≠ D) ∧ cs.map (·.2) = (l.take i).map r) ⟨same_upd hD, [], ⟨upd_same, fun p h => by cases h⟩, fun p h => (by cases h), rfl⟩ (fun i H' _ q => hG H' q.1) ?_ ?_
  · rintro i x H H' hi ⟨s1, cs, M, nD, ec⟩ y
    have hil : i < l.length := by omega
    have ez : l[i]? = some l[i] := List.getElem?_eq_getElem hil
    refine hs i x l[i] H H' _ _ ez s1 y fun a H4 ha s4 h4 => ?_
    · have hDl := s4 _ _ M.at'
      have na : a ≠ D := fun z => by
        rw [z, M.at'] at ha
        cases ha
      have lc : cs.length = i := by
        have := congrArg List.length ec
        rw [List.length_map, List.length_map, List.length_take] at this
        omega
      refine ⟨_, hDl, by unfold refS; rw [List.length_map]; exact Nat.lt_of_le_of_lt (by omega : cs.length ≤ 3000) (by decide), fun b o e => ?_, cs ++ [(a, r l[i])], ⟨?_, fun p hp => ?_⟩, fun p hp => ?_, ?_⟩
      · rw [upd_ne (ne_of_none e hD)]
        exact s4 _ _ (s1 b o e)
      · rw [upd_same]
        unfold refS
        rw [List.map_append]
        rfl
      · rcases List.mem_append.mp hp with h | h
        · rw [upd_ne (nD p h)]
          exact s4 _ _ (M.el p h)
        · rw [List.mem_singleton.mp h]
          rw [upd_ne na]
          exact h4
      · rcases List.mem_append.mp hp with h | h
        · exact nD p h
        · rw [List.mem_singleton.mp h]
          exact na
      · rw [List.map_append, ec, List.take_succ_eq_append_getElem hil, List.map_append]
        rfl
  · rintro H ⟨s1, cs, M, nD, ec⟩
    rw [← hl, List.take_length] at ec
    exact hd H cs s1 M ec
end DL

set_option Elab.async false
set_option maxRecDepth 100000
set_option maxHeartbeats 2000000
namespace DL
open PySem L2 HT TL RZ
theorem pip_of {X : Cx} {op : Operator} {r : R2} (ho : OpR X (inplaceOp op) r) : PIp X op r := fun _ _ _ _ _ _ _ _ _ I r1 r2 h => augR ho I r1 r2 h
theorem mt_countSK {X : Cx} {K : PySem.W.Frag} (hK : X.K = K) : MtR X "list.count" (rCntS K) := by
  subst hK
  exact mt_countS
/-! ### rows from any standing, counted -/
def lvlF (bs : List Bar) (s : List Bool) : Nat → List (List Bool)
  | 0 => [s]
  | t + 1 => (lvlF bs s t).flatMap (nextL bs)
theorem lvl_F (bs : List Bar) (n : Nat) : ∀ t, lvl bs n t = lvlF bs (shutS n) t
  | 0 => rfl
  | t + 1 => by
    show (lvl bs n t).flatMap (nextL bs) = (lvlF bs (shutS n) t).flatMap (nextL bs)
    rw [lvl_F bs n t]
theorem lvlF_add (bs : List Bar) (s : List Bool) (a : Nat) : ∀ b, lvlF bs s (a + b) = (lvlF bs s a).flatMap fun x => lvlF bs x b
  | 0 => by
    show lvlF bs s a = (lvlF bs s a).flatMap fun x => [x]
    induction lvlF bs s a with
    | nil => rfl
    | cons y l ih => rw [List.flatMap_cons, ← ih]; rfl
  | b + 1 => by
    show (lvlF bs s (a + b)).flatMap (nextL bs) = _
    rw [lvlF_add bs s a b, List.flatMap_assoc]
    rfl
theorem lvlF_in {bs : List Bar} {rs : List (List Bool)} (ex : ∀ st ∈ rs, ∀ d ∈ freeL bs st, flip st d ∈ rs) {s : List Bool} (hs : s ∈ rs) (t : Nat) : ∀ x ∈ lvlF bs s t, x ∈ rs := by
  induction t with
  | zero =>
    intro x h
    rw [List.mem_singleton.mp h]
    exact hs
  | succ t ih =>
    intro x h
    obtain ⟨y, hy, hm⟩ := List.mem_flatMap.mp h
    obtain ⟨d, hd, rfl⟩ := List.mem_map.mp hm
    exact ex y (ih y hy) d hd
theorem len_flat (L : List (List Bool)) (h : List Bool → List (List Bool)) : (L.flatMap h).length = nSum (L.map fun x => (h x).length) := by
  induction L with
  | nil => rfl
  | cons a L ih =>
    rw [List.flatMap_cons, List.length_append, ih]
    rfl
theorem step_count {bs : List Bar} {n : Nat} {rs : List (List Bool)} (R : Reach bs n rs) {s : List Bool} (hs : s ∈ rs) (a b : Nat) (z : List Bool) : nSum (rs.map fun x => (lvlF bs s a).count x * (lvlF bs x b).count z) = (lvlF bs s (a + b)).count z := by
  rw [nSum_count rs R.nd (fun x => (lvlF bs x b).count z) _ (lvlF_in R.ex hs a), lvlF_add, count_flat]
theorem step_len {bs : List Bar} {n : Nat} {rs : List (List Bool)} (R : Reach bs n rs) {s : List Bool} (hs : s ∈ rs) (a b : Nat) : nSum (rs.map fun x => (lvlF bs s a).count x * (lvlF bs x b).length) = (lvlF bs s (a + b)).length := by
  rw [nSum_count rs R.nd (fun x => (lvlF bs x b).length) _ (lvlF_in R.ex hs a), lvlF_add, len_flat]
/-! ### by rests -/
theorem sum_mod {α : Type} (l : List α) (f : α → Int) (g : α → Nat) (d : Int) (h : ∀ x ∈ l, f x % d = (g x : Int) % d) : (l.map f).sum % d = ((nSum (l.map g) : Nat) : Int) % d := by
  induction l with
  | nil => rfl
  | cons a l ih =>
    have h1 := h a List.mem_cons_self
    have h2 := ih fun x hx => h x (List.mem_cons_of_mem _ hx)
    rw [List.map_cons, List.sum_cons, Int.add_emod, h1, h2, ← Int.add_emod]
    show _ = (((g a + nSum (l.map g) : Nat)) : Int) % d
    rw [Int.natCast_add]
theorem mul_mod {a b d : Int} {x y : Nat} (h1 : a % d = (x : Int) % d) (h2 : b % d = (y : Int) % d) : (a * b) % d = ((x * y : Nat) : Int) % d := by
  rw [Int.mul_emod, h1, h2, ← Int.mul_emod, Int.natCast_mul]
theorem dot_map {α : Type} (l : List α) (f g : α → Int) : dotI (l.map f) (l.map g) = (l.map fun x => f x * g x).sum := by
  unfold dotI
  rw [List.zip_map', List.map_map]
  rfl
/-- a table over the reached standings -/
def tabM (rs : List (List Bool)) (W : List Bool → List Bool → Int) : List (List Int) := rs.map fun s => rs.map fun b => W s b
theorem dbl_tab (rs : List (List Bool)) (W : List Bool → List Bool → Int) (d : Int) : dblM d (tabM rs W) = tabM rs fun s b => (rs.map fun x => W s x * W x b).sum % d := by
  unfold dblM tabM
  rw [List.map_map, List.length_map]
  refine List.map_congr_left fun s _ => ?_
  show (List.range rs.length).map (fun j => dotI (rs.map fun b => W s b) (colM (rs.map fun s => rs.map fun b => W s b) j) % d) = _
  apply List.ext_getElem?
  intro j
  rw [List.getElem?_map, List.getElem?_map]
  by_cases hj : j < rs.length
  · rw [List.getElem?_range hj, List.getElem?_eq_getElem hj]
    refine congrArg some (congrArg (· % d) ?_)
    have e : colM (rs.map fun s => rs.map fun b => W s b) j = rs.map fun x => W x rs[j] := by
      unfold colM
      rw [List.map_map]
      refine List.map_congr_left fun x _ => ?_
      show (rs.map fun b => W x b).getD j 0 = _
      rw [List.getD_eq_getElem?_getD, List.getElem?_map, List.getElem?_eq_getElem hj]
      rfl
    rw [e, dot_map]
  · rw [List.getElem?_eq_none (by rw [List.length_range]; omega), List.getElem?_eq_none (by omega)]
    rfl
end DL

set_option Elab.async false
set_option maxRecDepth 100000
set_option maxHeartbeats 2000000
namespace DL
open PySem L2 HT TL RZ
theorem count_txt (L : List (List Bool)) (b : List Bool) : (L.map sstr).count (sstr b) = L.count b := by
  induction L with
  | nil => rfl
  | cons a L ih =>
    rw [List.map_cons, List.count_cons, List.count_cons, ih]
    by_cases e : a = b
    · subst e
      simp
    · have : sstr a ≠ sstr b := fun z => e (sstr_inj z)
      simp [e, this]
structure spWays (vs : List V) (H : Hp) (Q : VK) (_ : XK) : Prop where
  h : ∃ (p : Addr) (bs : List Bar) (n : Nat) (rs : List (List Bool)) (f : List Bool → V), vs = [.ref p] ∧ n ≤ 7 ∧ H p = some (.dK (tabV rs f)) ∧ Reach bs n rs ∧ PulsAt H bs rs f ∧
    ∀ (w' : Addr) (ms : List MRow) (H' : Hp), Same H H' → MatAt H' w' ms → ms.map (·.2) = tabM rs (fun s b => ((nextL bs s).count b : Nat)) → Q (.ref w') H'
structure spFew0 (C : Addr) (vs : List V) (H : Hp) (Q : VK) (_ : XK) : Prop where
  h : ∃ (c t : Addr) (n m : Int), vs = [.ref c, .int m] ∧ CabAt C H c n t ∧ n ≤ m ∧ Q .non H
structure spRest (C : Addr) (vs : List V) (H : Hp) (Q : VK) (_ : XK) : Prop where
  h : ∃ (c : Addr) (bs : List Bar) (n t : Nat) (d : Int), vs = [.ref c, .int t, .int d] ∧ CabOk C H c n bs ∧ n ≤ 4 ∧ t ≤ 10 ^ 30 ∧ 1 ≤ d ∧ d ≤ 10 ^ 9 ∧ ∀ H', Same H H' → Q (.int (((lvl bs n t).length : Nat) % d)) H'
section
variable {P : Program} {w : World} {K : PySem.W.Frag} {mg : Str → Option Value} {base : Heap}
abbrev nWay : List Str := ["pulls", "standings", "ends", "standing", "_", "beyond", "beyonds"]
theorem scWay : FnScope nWay ["pulls"] (defScope s_one_pull_ways) := ⟨rfl, rfl, rfl, by decide +kernel, rfl, by decide +kernel, by decide +kernel⟩
theorem ok_ways {f : Addr} {fd : FuncData} (F : Fun K "one_pull_ways" "one_pull_ways" s_one_pull_ways f fd) (zL : mg "list" = none) : FnOk P w K mg base CX0 1 f fd ["pulls"] spWays := by
  refine F.ok scWay (fun vs H Q E h => ?_) (fun cdv A outer s H vs Q E hr h => ?_)
  · obtain ⟨p, _, _, _, _, rfl, _⟩ := h.h
    rfl
  · obtain ⟨p, bs, n, rs, f, rfl, n7, hp, RR, PA, k⟩ := h.h
    have hu := hu_of hr
    refine ⟨_, pss_cons (ps_set (i := 1) scWay.nd rfl (Or.inr rfl) (pe_callTy (call_list_dK rfl) (by rfl) zL (by decide +kernel) (pa_cons (pv 0) pa_nil)))
      (pss_cons
        (ps_setLc (i := 2) (own := [("standing", 3)]) (g := gName 3) (tt := tYes) (by rfl) scWay.nd rfl rfl (by rfl) (pi_list (pv 1)) (blkOk_by (N := nWay) (sc := defScope s_one_pull_ways) (by decide +kernel)) (fun _ _ _ _ _ => pg_name (i := 3) scWay.nd rfl (Or.inl rfl)) (fun _ _ _ _ _ => pts_nil)
          (fun _ _ _ _ _ => by exact (pe_lc (own := [("_", 4), ("beyond", 5)]) (g := gTup K 2 (gCons (gName 4) (gCons (gName 5) gNil))) (tt := tYes) (by rfl) scWay.nd (pi_listK (K := K) rfl (pe_dget hu (pv 0) (pv 3) (fun _ _ => rfl))) (blkOk_by (N := nWay) (by rfl))
            (fun _ _ _ _ _ => pg_tupK (K := K) rfl rfl (pgs_cons (pg_name (i := 4) scWay.nd rfl (Or.inl rfl)) (pgs_cons (pg_name (i := 5) scWay.nd rfl (Or.inl rfl)) pgs_nil))) (fun _ _ _ _ _ => pts_nil) (fun _ _ _ _ _ => pv 5))))
      (pss_one (ps_ret
        (pe_lc (own := [("beyonds", 6)]) (g := gName 6) (tt := tYes) (by rfl) scWay.nd (pi_list (pv 2)) (blkOk_by (N := nWay) (sc := defScope s_one_pull_ways) (by decide +kernel)) (fun _ _ _ _ _ => pg_name (i := 6) scWay.nd rfl (Or.inr rfl)) (fun _ _ _ _ _ => pts_nil)
          (fun _ _ _ _ _ => by exact (pe_lc (own := [("standing", 3)]) (g := gName 3) (tt := tYes) (by rfl) scWay.nd (pi_listK (K := K) rfl (pv 1)) (blkOk_by (N := nWay) (by rfl)) (fun _ _ _ _ _ => pg_name (i := 3) scWay.nd rfl (Or.inl rfl)) (fun _ _ _ _ _ => pts_nil)
            (fun _ _ _ _ _ => pe_bmK (K := K) rfl PySem.F.plainAttrs_list PySem.F.slot_list_count PySem.F.type_list_count (mt_countSK (K := K) rfl) (pv 6) (pa_cons (pv 3) pa_nil)))))))), ?_⟩
    have hfew := RR.few
    refine ⟨_, rfl, p, _, rfl, hp, fun l nl => ?_⟩
    have el : ((tabV rs f).map fun kv => kV kv.1) = rs.map fun st => V.str (sstr st) := by
      unfold tabV
      rw [List.map_map]
      rfl
    rw [el]
    obtain ⟨s1, f1⟩ := new_at (o := .lst (rs.map fun st => V.str (sstr st))) nl
    generalize upd H l (.lst (rs.map fun st => V.str (sstr st))) = H1 at s1 f1 ⊢
    have hp1 := s1 _ _ hp
    have PA1 := PA.same s1
    refine ⟨_, rfl, l, rfl, ⟨_, SqL.of f1⟩, fun D hD => ?_⟩
    refine lc_txt (walk_lst (K := K) (a := l) (l := rs) (f := fun st => V.str (sstr st))) rs rfl (by omega) (fun st => (nextL bs st).map sstr) hD (fun H' s => s.seq (SqL.of f1)) ?_ ?_
    · rintro i x z H2 H2' Tk Nk ez s2 ⟨rfl, z', ez', rfl⟩ kT
      rw [ez] at ez'
      cases ez'
      have hm := List.mem_of_getElem? ez
      obtain ⟨q, eq, pq⟩ := (PA1.same s2) z hm
      obtain ⟨ts, hq, ets, hts⟩ := pq.h
      have dg := DGet.k (k := .inr (sstr z)) (s2 _ _ hp1)
      rw [tab_val, if_pos hm, eq] at dg
      have hfl := free_len bs z
      have hzl := RR.len z hm
      have tl : ts.length = (freeL bs z).length := by rw [← ets, List.length_map]
      refine ⟨rfl, tYes_of (iteT ?_)⟩
      refine ⟨_, rfl, _, rfl, p, _, rfl, dg, q, rfl, ⟨_, SqL.of hq⟩, fun D2 hD2 => ?_⟩
      refine lc_pick (walk_lst (K := K) (a := q) (l := ts) (f := fun t => V.ref t.1)) ts rfl (by omega) (fun _ => true) (fun t => .str (sstr (flip z t.2))) hD2 (fun H' s => s.seq (SqL.of hq)) ?_ ?_
      · rintro m x y H3 H3' Tk2 Nk2 ez2 s3 ⟨rfl, z', ez', rfl⟩ kT2 kF2
        rw [ez2] at ez'
        cases ez'
        have hy := s3 _ _ (hts y (List.mem_of_getElem? ez2))
        refine ⟨y.1, _, rfl, SqT.of' hy, rfl, _, _, rfl, _, _, rfl, rfl, rfl, tYes_of (iteT ?_)⟩
        exact ⟨_, rfl, kT2 _ rfl (Same.refl _)⟩
      · intro H3 s3 hD3
        rw [List.filter_eq_self.mpr fun _ _ => rfl] at hD3
        refine kT D2 H3 hD2 s3 ?_
        rw [hD3]
        unfold nextL
        rw [← ets, List.map_map, List.map_map, List.map_map]
        rfl
    · intro H2 cs s2 M2 ec
      have lcs : cs.length = rs.length := by
        have := congrArg List.length ec
        rw [List.length_map, List.length_map] at this
        exact this
      have f2 := s2 _ _ f1
      refine ⟨_, rfl, D, rfl, ⟨_, SqL.of M2.at'⟩, fun D2 hD2 => ?_⟩
      refine lc_mat (walk_lst (K := K) (a := D) (l := cs) (f := fun c => V.ref c.1)) cs rfl (by omega) (fun c => rs.map fun b => ((c.2.count (sstr b) : Nat) : Int)) hD2 (fun H' s => s.seq (SqL.of M2.at')) ?_ ?_
      · rintro i x z H3 H3' Tk Nk ez s3 ⟨rfl, z', ez', rfl⟩ kT
        rw [ez] at ez'
        cases ez'
        have hm := List.mem_of_getElem? ez
        have M3 := M2.same s3
        have f3 := s3 _ _ f2
        refine ⟨rfl, tYes_of (iteT ?_)⟩
        refine ⟨_, rfl, l, rfl, ⟨_, SqL.of f3⟩, fun D3 hD3 => ?_⟩
        refine lc_pick (walk_lst (K := K) (a := l) (l := rs) (f := fun st => V.str (sstr st))) rs rfl (by omega) (fun _ => true) (fun b => .int ((z.2.count (sstr b) : Nat) : Int)) hD3 (fun H' s => s.seq (SqL.of f3)) ?_ ?_
        · rintro m x y H4 H4' Tk3 Nk3 ez3 s4 ⟨rfl, z', ez', rfl⟩ kT3 kF3
          rw [ez3] at ez'
          cases ez'
          refine ⟨rfl, tYes_of (iteT ?_)⟩
          have M4 := M3.same s4
          refine ⟨_, rfl, .inl ⟨rfl, _, SqL.of (M4.el z hm)⟩, _, rfl, z.1, z.2, sstr y, rfl, rfl, SqL.of (M4.el z hm), ?_⟩
          exact kT3 _ rfl (Same.refl _)
        · intro H4 s4 hD4
          rw [List.filter_eq_self.mpr fun _ _ => rfl] at hD4
          refine kT D3 H4 hD3 s4 ?_
          rw [hD4, List.map_map]
          rfl
      · intro H3 ms s3 M3 em
        refine k D2 ms H3 ((s1.trans s2).trans s3) M3 ?_
        rw [em]
        unfold tabM
        have e : cs.map (fun c => rs.map fun b => ((c.2.count (sstr b) : Nat) : Int)) = (cs.map (·.2)).map fun c => rs.map fun b => ((c.count (sstr b) : Nat) : Int) := by rw [List.map_map]; rfl
        rw [e, ec, List.map_map]
        refine List.map_congr_left fun s _ => List.map_congr_left fun b _ => ?_
        exact congrArg (fun x : Nat => (x : Int)) (count_txt (nextL bs s) b)
end
end DL

set_option Elab.async false
set_option maxRecDepth 100000
set_option maxHeartbeats 2000000
namespace DL
open PySem L2 HT TL RZ
def muL : L2.St → Hp → Nat := fun σ _ => match σ[1]? with | some (some (V.int L)) => L.toNat | _ => 0
/-- the tables: ways of q pulls -/
structure WayOk (bs : List Bar) (rs : List (List Bool)) (d : Int) (q : Nat) (W : List Bool → List Bool → Int) : Prop where
  lo : ∀ s ∈ rs, ∀ b ∈ rs, 0 ≤ W s b ∧ W s b < 2 ^ 40
  eq : ∀ s ∈ rs, ∀ b ∈ rs, W s b % d = ((lvlF bs s q).count b : Nat) % d
theorem WayOk.dbl {bs : List Bar} {n : Nat} {rs : List (List Bool)} {d : Int} {q : Nat} {W : List Bool → List Bool → Int} (R : Reach bs n rs) (d1 : 1 ≤ d) (d9 : d ≤ 10 ^ 9) (h : WayOk bs rs d q W) : WayOk bs rs d (q + q) fun s b => (rs.map fun x => W s x * W x b).sum % d := by
  refine ⟨fun s hs b hb => ⟨Int.emod_nonneg _ (by omega), ?_⟩, fun s hs b hb => ?_⟩
  · have := Int.emod_lt_of_pos (rs.map fun x => W s x * W x b).sum (show 0 < d by omega)
    have e : (10 : Int) ^ 9 < 2 ^ 40 := by decide
    exact Int.lt_trans this (Int.lt_of_le_of_lt d9 e)
  · show (rs.map fun x => W s x * W x b).sum % d % d = _
    rw [Int.emod_emod, sum_mod rs _ (fun x => (lvlF bs s q).count x * (lvlF bs x q).count b) d fun x hx => mul_mod (h.eq s hs x hx) (h.eq x hx b hb), step_count R hs]
structure CntOk (bs : List Bar) (rs : List (List Bool)) (d : Int) (m : Nat) (c : List Bool → Int) : Prop where
  eq : ∀ s ∈ rs, c s % d = ((lvlF bs s m).length : Nat) % d
theorem CntOk.more {bs : List Bar} {n : Nat} {rs : List (List Bool)} {d : Int} {q m : Nat} {W : List Bool → List Bool → Int} {c : List Bool → Int} (R : Reach bs n rs) (h : WayOk bs rs d q W) (k : CntOk bs rs d m c) : CntOk bs rs d (q + m) fun s => dotI (rs.map fun b => W s b) (rs.map c) % d := by
  refine ⟨fun s hs => ?_⟩
  show dotI (rs.map fun b => W s b) (rs.map c) % d % d = _
  rw [Int.emod_emod, dot_map, sum_mod rs _ (fun x => (lvlF bs s q).count x * (lvlF bs x m).length) d fun x hx => mul_mod (h.eq s hs x hx) (k.eq x hx), step_len R hs]
section
variable {P : Program} {w : World} {K : PySem.W.Frag} {mg : Str → Option Value} {base : Heap}
theorem scFew0 : FnScope ["cabinet", "most"] ["cabinet", "most"] (defScope s_check_few_drawers) := ⟨rfl, rfl, rfl, by decide +kernel, rfl, by decide +kernel, by decide +kernel⟩
theorem ok_few0 {f C : Addr} {fd : FuncData} (F : Fun K "check_few_drawers" "check_few_drawers" s_check_few_drawers f fd) (CP : CabP P w K mg base C) : FnOk P w K mg base CX0 4 f fd ["cabinet", "most"] (spFew0 C) := by
  refine F.ok scFew0 (fun vs H Q E h => ?_) (fun cdv A outer s H vs Q E hr h => ?_)
  · obtain ⟨c, t, n, m, rfl, _⟩ := h.h
    rfl
  · obtain ⟨c, t, n, m, rfl, ⟨dx, hc⟩, hle, k⟩ := h.h
    obtain ⟨pD, gD, fdD, hpD, GD, bD⟩ := CP.d
    refine ⟨_, pss_one (ps_if (pt_cmpR op_gt (pe_prop (pv 0) CP.cl hpD GD (hr.mono (by decide)) bD .nil pass0 rfl) (pv 1) (nomark _)) (pss_one ps_never) pss_nil), ?_⟩
    refine ⟨_, rfl, c, dx, _, rfl, hc, ⟨⟨c, dx, _, t, rfl, hc, _, rfl, _, _, rfl, rfl, _, rfl, ?_⟩⟩⟩
    rw [decide_eq_false (by omega)]
    exact iteF k
abbrev nRest : List Str := ["cabinet", "length", "divisor", "ways", "counts", "_", "row"]
theorem scRest : FnScope nRest ["cabinet", "length", "divisor"] (defScope s_count_rest) := ⟨rfl, rfl, rfl, by decide +kernel, rfl, by decide +kernel, by decide +kernel⟩
theorem ok_countRest {f f1 f2 f3 f4 f5 f6 f7 C : Addr} {fd fd1 fd2 fd3 fd4 fd5 fd6 fd7 : FuncData} (F : Fun K "count_rest" "count_rest" s_count_rest f fd)
    (gC : ∃ t, mg "MOST_COUNTED" = some (.int 4 t)) (gL : ∃ t, mg "MOST_LENGTH" = some (.int (10 ^ 30) t)) (gV : ∃ t, mg "MOST_DIVISOR" = some (.int (10 ^ 9) t))
    (G1 : FnOk P w K mg base CX0 1 f1 fd1 ["cabinet"] (spCkCab C)) (g1 : mg "check_cabinet" = some (.ref f1)) (k1 : PySem.W.keepIn K (.ref f1) = true) (b1 : Binds K fd1 ["cabinet"] [])
    (G2 : FnOk P w K mg base CX0 4 f2 fd2 ["cabinet", "most"] (spFew0 C)) (g2 : mg "check_few_drawers" = some (.ref f2)) (k2 : PySem.W.keepIn K (.ref f2) = true) (b2 : Binds K fd2 ["cabinet", "most"] [])
    (G3 : FnOk P w K mg base CX0 2 f3 fd3 ["value", "least", "most"] spCkNum0) (g3 : mg "check_number" = some (.ref f3)) (k3 : PySem.W.keepIn K (.ref f3) = true) (b3 : Binds K fd3 ["value", "least", "most"] [])
    (G4 : FnOk P w K mg base CX0 14 f4 fd4 ["cabinet"] (spPulls C)) (g4 : mg "reached_pulls" = some (.ref f4)) (k4 : PySem.W.keepIn K (.ref f4) = true) (b4 : Binds K fd4 ["cabinet"] [])
    (G5 : FnOk P w K mg base CX0 1 f5 fd5 ["pulls"] spWays) (g5 : mg "one_pull_ways" = some (.ref f5)) (k5 : PySem.W.keepIn K (.ref f5) = true) (b5 : Binds K fd5 ["pulls"] [])
    (G6 : FnOk P w K mg base CX0 1 f6 fd6 ["ones", "others"] (spDot K)) (g6 : mg "dot" = some (.ref f6)) (k6 : PySem.W.keepIn K (.ref f6) = true) (b6 : Binds K fd6 ["ones", "others"] [])
    (G7 : FnOk P w K mg base CX0 2 f7 fd7 ["ways", "divisor"] spDoubled) (g7 : mg "doubled" = some (.ref f7)) (k7 : PySem.W.keepIn K (.ref f7) = true) (b7 : Binds K fd7 ["ways", "divisor"] []) :
    FnOk P w K mg base CX0 16 f fd ["cabinet", "length", "divisor"] (spRest C) := by
  refine F.ok scRest (fun vs H Q E h => ?_) (fun cdv A outer s H vs Q E hr h => ?_)
  · obtain ⟨c, bs, n, t, d, rfl, _⟩ := h.h
    rfl
  · obtain ⟨c, bs, n, t, d, rfl, B, n4, t30, d1, d9, k⟩ := h.h
    obtain ⟨tC, gC⟩ := gC
    obtain ⟨tL, gL⟩ := gL
    obtain ⟨tV, gV⟩ := gV
    obtain ⟨tc, hc, n7⟩ := B.cab
    refine ⟨_, pss_cons (ps_expr (pe_call G1 (hr.mono (by decide)) rfl g1 k1 b1 .nil pass0 (pa_cons (pv 0) pa_nil)))
      (pss_cons (ps_expr (pe_call G2 (hr.mono (by decide)) rfl g2 k2 b2 .nil pass0 (pa_cons (pv 0) (pa_cons (pe_glob (v := .int 4) rfl gC ⟨_, rfl⟩) pa_nil))))
      (pss_cons (ps_expr (pe_call G3 (hr.mono (by decide)) rfl g3 k3 b3 .nil pass0 (pa_cons (pv 1) (pa_cons pe_int (pa_cons (pe_glob (v := .int (10 ^ 30)) rfl gL ⟨_, rfl⟩) pa_nil)))))
      (pss_cons (ps_expr (pe_call G3 (hr.mono (by decide)) rfl g3 k3 b3 .nil pass0 (pa_cons (pv 2) (pa_cons pe_int (pa_cons (pe_glob (v := .int (10 ^ 9)) rfl gV ⟨_, rfl⟩) pa_nil)))))
      (pss_cons (ps_set (i := 3) scRest.nd rfl (Or.inl rfl) (pe_call G5 (hr.mono (by decide)) rfl g5 k5 b5 .nil pass0 (pa_cons (pe_call G4 (hr.mono (by decide)) rfl g4 k4 b4 .nil pass0 (pa_cons (pv 0) pa_nil)) pa_nil)))
      (pss_cons (ps_set (i := 4) scRest.nd rfl (Or.inr rfl) (pe_lc (own := [("_", 5)]) (g := gName 5) (tt := tYes) (by rfl) scRest.nd (pi_list (pv 3)) (blkOk_by (N := nRest) (sc := defScope s_count_rest) (by decide +kernel)) (fun _ _ _ _ _ => pg_name (i := 5) scRest.nd rfl (Or.inl rfl)) (fun _ _ _ _ _ => pts_nil) (fun _ _ _ _ _ => pe_int)))
      (pss_cons (ps_while PassesOwn.never (pt_cmpR op_gt (pv 1) pe_int (nomark _))
        (C8.pss_cut (ps_if (pt_cmpR op_eq (pe_op op_mod (pv 1) pe_int) pe_int (nomark _))
          (pss_one (ps_set (i := 4) scRest.nd rfl (Or.inr rfl) (pe_lc (own := [("row", 6)]) (g := gName 6) (tt := tYes) (by rfl) scRest.nd (pi_list (pv 3)) (blkOk_by (N := nRest) (sc := defScope s_count_rest) (by decide +kernel)) (fun _ _ _ _ _ => pg_name (i := 6) scRest.nd rfl (Or.inl rfl)) (fun _ _ _ _ _ => pts_nil)
            (fun _ _ _ _ _ => pe_op op_mod (pe_call G6 (hr.mono (by decide)) rfl g6 k6 b6 .nil pass0 (pa_cons (pv 6) (pa_cons (pv 4) pa_nil))) (pv 2))))) pss_nil)
        (pss_cons (ps_set (i := 3) scRest.nd rfl (Or.inl rfl) (pe_call G7 (hr.mono (by decide)) rfl g7 k7 b7 .nil pass0 (pa_cons (pv 3) (pa_cons (pv 2) pa_nil))))
        (pss_one (ps_aug (i := 1) scRest.nd rfl (Or.inl rfl) pe_int (pip_of iop_fdiv))))))
      (pss_one (ps_ret (pe_op op_mod (pe_ix ix_list (pv 4) pe_int (fun _ _ => rfl)) (pv 2)))))))))), ?_⟩
    refine ⟨_, rfl, ⟨⟨c, _, tc, rfl, hc, ?_⟩⟩⟩
    refine ⟨_, rfl, ⟨⟨c, tc, n, 4, rfl, hc, by omega, ?_⟩⟩⟩
    refine ⟨_, rfl, ⟨⟨t, 0, 10 ^ 30, rfl, by omega, by exact_mod_cast t30, ?_⟩⟩⟩
    refine ⟨_, rfl, ⟨⟨d, 1, 10 ^ 9, rfl, d1, d9, ?_⟩⟩⟩
    refine ⟨_, rfl, ⟨⟨c, bs, n, rfl, B, fun p rs f H1 hp0 s1 hp1 RR PA1 => ?_⟩⟩⟩
    refine ⟨⟨p, bs, n, rs, f, rfl, by omega, hp1, RR, PA1, fun wa ms H2 s2 M2 em => ?_⟩⟩
    have hfew := RR.few
    have s02 := s1.trans s2
    have sz : ∀ {ms : List MRow} {W : List Bool → List Bool → Int}, ms.map (·.2) = tabM rs W → ms.length = rs.length ∧ ∀ p ∈ ms, ∃ s ∈ rs, p.2 = rs.map fun b => W s b := fun {ms W} e => by
      refine ⟨?_, fun p hp => ?_⟩
      · have := congrArg List.length e
        unfold tabM at this
        rw [List.length_map, List.length_map] at this
        exact this
      · have : p.2 ∈ tabM rs W := by rw [← e]; exact List.mem_map_of_mem (f := (·.2)) hp
        obtain ⟨s, hs, es⟩ := List.mem_map.mp this
        exact ⟨s, hs, es.symm⟩
    refine ⟨_, rfl, wa, rfl, ⟨_, SqL.of M2.at'⟩, fun D hD => ?_⟩
    have lms := (sz em).1
    refine lc_pick (walk_lst (K := K) (a := wa) (l := ms) (f := fun p => V.ref p.1)) ms rfl (by omega) (fun _ => true) (fun _ => .int 1) hD (fun H' s => s.seq (SqL.of M2.at')) ?_ ?_
    · rintro i x z H3 H3' Tk Nk ez s3 ⟨rfl, z', ez', rfl⟩ kT kF
      exact ⟨rfl, tYes_of (iteT (kT _ rfl (Same.refl _)))⟩
    intro H3 s3 hD3
    rw [List.filter_eq_self.mpr fun _ _ => rfl] at hD3
    have e1 : (ms.map fun _ => V.int 1) = (rs.map fun _ => (1 : Int)).map V.int := by
      simp [List.map_const', lms]
    rw [e1] at hD3
    have W0 : WayOk bs rs d 1 fun s b => ((nextL bs s).count b : Nat) := by
      refine ⟨fun s hs b hb => ⟨by omega, ?_⟩, fun s hs b hb => ?_⟩
      · have h1 : (nextL bs s).count b ≤ (nextL bs s).length := List.count_le_length
        have h2 : (nextL bs s).length = (freeL bs s).length := List.length_map ..
        have h3 := free_len bs s
        have h4 := RR.len s hs
        have h5 : (((nextL bs s).count b : Nat) : Int) ≤ 7 := by omega
        exact Int.lt_of_le_of_lt h5 (by decide)
      · show (((nextL bs s).count b : Nat) : Int) % d = (([s].flatMap (nextL bs)).count b : Nat) % d
        rw [List.flatMap_singleton]
    refine while_by (fun σ H' => ∃ (L q m : Nat) (wa ca : Addr) (ms : List MRow) (W : List Bool → List Bool → Int) (cf : List Bool → Int) (v5 v6 : Option V), σ = [some (.ref c), some (.int L), some (.int d), some (.ref wa), some (.ref ca), v5, v6] ∧ Same H H' ∧ MatAt H' wa ms ∧ ms.map (·.2) = tabM rs W ∧ WayOk bs rs d q W ∧ H' ca = some (.lst ((rs.map cf).map V.int)) ∧ CntOk bs rs d m cf ∧ t = m + q * L) muL
      ⟨t, 1, 0, wa, D, ms, _, fun _ => 1, _, _, rfl, s02.trans s3, M2.same s3, em, W0, hD3, ⟨fun s _ => rfl⟩, by omega⟩ ?_ ?_
    · clear W0 e1 hD3 s3 H3 lms hD D em M2 s2 H2 ms wa s02
      rintro σ J1 ⟨L, q, m, wa, ca, ms, W, cf, v5, v6, rfl, s1', M1, em, WO, hc1, CO, et⟩
      obtain ⟨lms, rows⟩ := sz em
      refine ⟨_, rfl, _, _, rfl, rfl, _, rfl, ?_⟩
      refine ite2 (fun z => ?_) (fun z => ?_)
      · have L0 : 0 < L := by have := of_decide_eq_true z; omega
        refine ⟨fun σ' H' => ∃ (m' : Nat) (ca : Addr) (cf : List Bool → Int) (v5 v6 : Option V), σ' = [some (.ref c), some (.int L), some (.int d), some (.ref wa), some (.ref ca), v5, v6] ∧ Same H H' ∧ MatAt H' wa ms ∧ H' ca = some (.lst ((rs.map cf).map V.int)) ∧ CntOk bs rs d m' cf ∧ t = m' + (q + q) * (L / 2), ?_, ?_⟩
        · refine ⟨_, rfl, _, _, rfl, rfl, (by show (0 : Int) < 2; decide), ?_⟩
          refine ⟨rfl, _, rfl, ?_⟩
          by_cases od : L % 2 = 1
          · have eo : ((L : Nat) : Int) % 2 = 1 := by omega
            show if decide (V.int (((L : Nat) : Int) % 2) = V.int 1) = true then _ else _
            rw [eo, decide_eq_true rfl]
            refine iteT ?_
            refine ⟨_, rfl, wa, rfl, ⟨_, SqL.of M1.at'⟩, fun D hD => ?_⟩
            refine lc_pick (walk_lst (K := K) (a := wa) (l := ms) (f := fun p => V.ref p.1)) ms rfl (by omega) (fun _ => true) (fun p => .int (dotI p.2 (rs.map cf) % d)) hD (fun H' s => s.seq (SqL.of M1.at')) ?_ ?_
            · rintro i x y J2 J2' Tk Nk ez s2 ⟨rfl, z', ez', rfl⟩ kT kF
              rw [ez] at ez'
              cases ez'
              have hm := List.mem_of_getElem? ez
              obtain ⟨st, hst, ey⟩ := rows y hm
              refine ⟨rfl, tYes_of (iteT ?_)⟩
              refine ⟨_, rfl, _, rfl, ⟨⟨y.1, ca, y.2, rs.map cf, rfl, SqL.of ((M1.same s2).el y hm), SqL.of (s2 _ _ hc1), by rw [ey, List.length_map, List.length_map], by rw [ey, List.length_map]; omega, fun x hx => ?_, fun H4 s4 => ?_⟩⟩⟩
              · rw [ey] at hx
                obtain ⟨b, hb, rfl⟩ := List.mem_map.mp hx
                exact WO.lo st hst b hb
              · exact ⟨_, rfl, _, _, rfl, rfl, by omega, kT _ rfl s4⟩
            · intro J2 s2 hD2
              rw [List.filter_eq_self.mpr fun _ _ => rfl] at hD2
              refine ⟨q + m, D, _, _, _, rfl, s1'.trans s2, M1.same s2, ?_, CO.more RR WO, ?_⟩
              · rw [hD2]
                refine congrArg some (congrArg HO.lst ?_)
                have e2 : (ms.map fun p => V.int (dotI p.2 (rs.map cf) % d)) = (ms.map (·.2)).map fun row => V.int (dotI row (rs.map cf) % d) := by rw [List.map_map]; rfl
                rw [e2, em]
                unfold tabM
                rw [List.map_map, List.map_map]
                rfl
              · have e3 : L = L / 2 + L / 2 + 1 := by omega
                have e4 : q * L = (q + q) * (L / 2) + q := by
                  conv => lhs; rw [e3]
                  rw [Nat.mul_add, Nat.mul_add, Nat.add_mul, Nat.mul_one]
                omega
          · have eo : ((L : Nat) : Int) % 2 = 0 := by omega
            show if decide (V.int (((L : Nat) : Int) % 2) = V.int 1) = true then _ else _
            rw [eo, decide_eq_false (fun h => by injection h with h; cases h)]
            refine iteF ⟨m, ca, cf, _, _, rfl, s1', M1, hc1, CO, ?_⟩
            have e3 : L = L / 2 + L / 2 := by omega
            have e4 : q * L = (q + q) * (L / 2) := by
              conv => lhs; rw [e3]
              rw [Nat.mul_add, Nat.add_mul]
            omega
        · clear CO hc1 et
          rintro σ J2 ⟨m', ca, cf, v5, v6, rfl, s2', M2, hc2, CO, et⟩
          refine ⟨_, rfl, _, rfl, ⟨⟨wa, d, ms, rfl, d1, M2, fun p hp => ?_, fun p hp x hx => ?_, by omega, fun w' ms' J3 s3 M3 em3 => ?_⟩⟩⟩
          · obtain ⟨st, _, ey⟩ := rows p hp
            rw [ey, List.length_map, lms]
          · obtain ⟨st, hst, ey⟩ := rows p hp
            rw [ey] at hx
            obtain ⟨b, hb, rfl⟩ := List.mem_map.mp hx
            exact WO.lo st hst b hb
          · rw [em, dbl_tab] at em3
            refine ⟨_, rfl, _, _, rfl, rfl, ⟨by decide, by decide⟩, ?_⟩
            refine ⟨⟨L / 2, q + q, m', w', ca, ms', _, cf, _, _, rfl, s2'.trans s3, M3, em3, WO.dbl RR d1 d9, s3 _ _ hc2, CO, et⟩, ?_⟩
            show ((L : Int) / 2).toNat < (L : Int).toNat
            omega
      · have L0 : L = 0 := by
          have : ¬ 0 < L := fun h => z (decide_eq_true (by omega))
          omega
        subst L0
        have e0 : atI ((rs.map cf).map V.int) ((0 : Nat) : Int) = some (.int (cf (shutS n))) := atI_nat (by rw [List.getElem?_map, List.getElem?_map, RR.hd]; rfl)
        refine ⟨_, rfl, ca, _, 0, _, rfl, rfl, SqL.of hc1, e0, _, rfl, _, _, rfl, rfl, by omega, ?_⟩
        have em0 : m = t := by omega
        show Q (V.int (cf (shutS n) % d)) J1
        rw [CO.eq _ RR.root, em0, ← lvl_F]
        exact k J1 s1'
    · rintro σ H1 Q1 Q2 m ⟨x, e1, i, j, e4, e5, c', e6, hq⟩
      exact ⟨x, e1, i, j, e4, e5, c', e6, m _ _ hq⟩
end
end DL

set_option Elab.async false
set_option maxRecDepth 100000
set_option maxHeartbeats 2000000
namespace DL
open PySem L2 HT TL RZ
def prodW (ss : List (List Bool)) (W1 W2 : List Bool → List Bool → Int) (d : Int) : List Bool → List Bool → Int := fun s b => (ss.map fun x => W1 s x * W2 x b).sum % d
structure spTimes (vs : List V) (H : Hp) (Q : VK) (_ : XK) : Prop where
  h : ∃ (a b : Addr) (d : Int) (m1 m2 : List MRow) (ss : List (List Bool)) (W1 W2 : List Bool → List Bool → Int), vs = [.ref a, .ref b, .int d] ∧ 1 ≤ d ∧ MatAt H a m1 ∧ MatAt H b m2 ∧ m1.map (·.2) = tabM ss W1 ∧ m2.map (·.2) = tabM ss W2 ∧
    (∀ s ∈ ss, ∀ x ∈ ss, 0 ≤ W1 s x ∧ W1 s x < 2 ^ 40) ∧ ss.length ≤ 128 ∧ ∀ (w' : Addr) (ms : List MRow) (H' : Hp), Same H H' → MatAt H' w' ms → ms.map (·.2) = tabM ss (prodW ss W1 W2 d) → Q (.ref w') H'
theorem tab_row {ms : List MRow} {ss : List (List Bool)} {W : List Bool → List Bool → Int} (e : ms.map (·.2) = tabM ss W) {i : Nat} {p : MRow} (h : ms[i]? = some p) : ∃ s, ss[i]? = some s ∧ p.2 = ss.map fun b => W s b := by
  have h2 : (ms.map (·.2))[i]? = some p.2 := by rw [List.getElem?_map, h]; rfl
  rw [e] at h2
  unfold tabM at h2
  rw [List.getElem?_map] at h2
  cases es : ss[i]? with
  | none => rw [es] at h2; cases h2
  | some s =>
    rw [es] at h2
    have h2 : some (ss.map fun b => W s b) = some p.2 := h2
    injection h2 with h2
    exact ⟨s, rfl, h2.symm⟩
theorem tab_mlen {ms : List MRow} {ss : List (List Bool)} {W : List Bool → List Bool → Int} (e : ms.map (·.2) = tabM ss W) : ms.length = ss.length := by
  have := congrArg List.length e
  unfold tabM at this
  rw [List.length_map, List.length_map] at this
  exact this
theorem at_map {ss : List (List Bool)} {g : List Bool → Int} {i : Nat} {s : List Bool} (h : ss[i]? = some s) : atI ((ss.map g).map V.int) (i : Int) = some (.int (g s)) := atI_nat (by rw [List.getElem?_map, List.getElem?_map, h]; rfl)
theorem sum_take {ss : List (List Bool)} {g : List Bool → Int} {i : Nat} {s : List Bool} (h : ss[i]? = some s) : ((ss.take (i + 1)).map g).sum = ((ss.take i).map g).sum + g s := by
  obtain ⟨hi, e⟩ := List.getElem?_eq_some_iff.mp h
  rw [List.take_succ_eq_append_getElem hi, List.map_append, List.sum_append, e]
  simp
section
variable {P : Program} {w : World} {K : PySem.W.Frag} {mg : Str → Option Value} {base : Heap}
abbrev nTim : List Str := ["_law_one", "_law_other", "_law_divisor", "_law_found", "_law_line", "_law_told", "_law_k", "_law_at"]
theorem scTim : FnScope nTim ["_law_one", "_law_other", "_law_divisor"] (defScope s__law_times) := ⟨rfl, rfl, rfl, by decide +kernel, rfl, by decide +kernel, by decide +kernel⟩
theorem ok_times {f : Addr} {fd : FuncData} (F : Fun K "_law_times" "_law_times" s__law_times f fd) (T : Bt mg) : FnOk P w K mg base CX0 1 f fd ["_law_one", "_law_other", "_law_divisor"] spTimes := by
  refine F.ok scTim (fun vs H Q E h => ?_) (fun cdv A outer s H vs Q E hr h => ?_)
  · obtain ⟨a, b, d, _, _, _, _, _, rfl, _⟩ := h.h
    rfl
  · obtain ⟨a, b, d, m1, m2, ss, W1, W2, rfl, d1, M1, M2, e1, e2, hW, hfew, k⟩ := h.h
    refine ⟨_, pss_cons (ps_set (i := 3) scTim.nd rfl (Or.inl rfl) (pe_lst pa_nil))
      (pss_cons (ps_for PassesOwn.never rfl (pi_list (pv 0)) (pg_name (i := 4) scTim.nd rfl (Or.inr rfl))
        (pss_cons (ps_set (i := 5) scTim.nd rfl (Or.inr rfl) (pe_op op_rep (pe_lst (pa_cons pe_int pa_nil)) (pe_callB call_len_seq (by rfl) T.len (by decide +kernel) (pa_cons (pv 1) pa_nil))))
        (pss_cons (ps_for PassesOwn.never rfl (pi_range1 (by rfl) T.range (pa_cons (pe_callB call_len_seq (by rfl) T.len (by decide +kernel) (pa_cons (pv 4) pa_nil)) pa_nil)) (pg_name (i := 6) scTim.nd rfl (Or.inr rfl))
          (pss_one (ps_if (pt_cmpR op_ne (pe_ix ix_list (pv 4) (pv 6) (fun _ _ => rfl)) pe_int (nomark _))
            (pss_one (ps_set (i := 5) scTim.nd rfl (Or.inr rfl) (pe_lc (own := [("_law_at", 7)]) (g := gName 7) (tt := tYes) (by rfl) scTim.nd (pi_range1 (by rfl) T.range (pa_cons (pe_callB call_len_seq (by rfl) T.len (by decide +kernel) (pa_cons (pv 5) pa_nil)) pa_nil)) (blkOk_by (N := nTim) (sc := defScope s__law_times) (by decide +kernel)) (fun _ _ _ _ _ => pg_name (i := 7) scTim.nd rfl (Or.inl rfl)) (fun _ _ _ _ _ => pts_nil)
              (fun _ _ _ _ _ => pe_op op_mod (pe_op op_add (pe_ix (ix_listK (K := K) rfl) (pv 5) (pv 7) (fun _ _ => rfl)) (pe_op op_mul (pe_ix (ix_listK (K := K) rfl) (pv 4) (pv 6) (fun _ _ => rfl)) (pe_ix (ix_listK (K := K) rfl) (pe_ix (ix_listK (K := K) rfl) (pv 1) (pv 6) (fun _ _ => rfl)) (pv 7) (fun _ _ => rfl)))) (pv 2))))) pss_nil)))
        (pss_one (ps_expr (pe_bm PySem.F.plainAttrs_list PySem.F.slot_list_append PySem.F.type_list_append mt_append (pv 3) (pa_cons (pv 5) pa_nil)))))))
      (pss_one (ps_ret (pv 3)))), ?_⟩
    have l1 := tab_mlen e1
    have l2 := tab_mlen e2
    refine ⟨(by show 0 ≤ sizeLine; decide), fun fa nfa => ?_⟩
    obtain ⟨s1, f1⟩ := new_at (o := .lst []) nfa
    generalize upd H fa (.lst []) = H1 at s1 f1 ⊢
    refine ⟨_, rfl, a, rfl, ⟨_, SqL.of (s1 _ _ M1.at')⟩, ?_⟩
    refine for_list (K := K) (a := a) (xs := refM m1) (fun i σ H' => ∃ (ms : List MRow) (v4 v5 v6 v7 : Option V), σ = [some (.ref a), some (.ref b), some (.int d), some (.ref fa), v4, v5, v6, v7] ∧ Same H H' ∧ H' fa = some (.lst (refM ms)) ∧ (∀ p ∈ ms, p.1 ≠ fa ∧ H' p.1 = some (.lst (p.2.map V.int))) ∧ ms.map (·.2) = (ss.take i).map fun s => ss.map fun x => prodW ss W1 W2 d s x)
      ⟨[], _, _, _, _, rfl, s1, f1, fun p hp => (by cases hp), rfl⟩ (fun i σ H' _ ⟨_, _, _, _, _, _, z, _⟩ => SqL.of (z _ _ M1.at')) ?_ ?_
    · rintro i x σ J1 hx ⟨ms, v4, v5, v6, v7, rfl, s1', hf, hel, em⟩
      unfold refM at hx
      rw [List.getElem?_map] at hx
      cases ep : m1[i]? with
      | none => rw [ep] at hx; cases hx
      | some p =>
        rw [ep] at hx
        cases hx
        obtain ⟨st, est, epr⟩ := tab_row e1 ep
        have hst := List.mem_of_getElem? est
        have hpm := List.mem_of_getElem? ep
        refine ⟨(by show 1 ≤ sizeLine; decide), fun l0 nl0 => ?_⟩
        obtain ⟨s2, f2⟩ := new_at (o := .lst [V.int 0]) nl0
        generalize upd J1 l0 (.lst [V.int 0]) = J2 at s2 f2 ⊢
        have M22 := M2.same (s1'.trans s2)
        have lr2 : (refM m2).length = ss.length := by unfold refM; rw [List.length_map, l2]
        refine ⟨_, rfl, b, _, rfl, .inl (SqL.of M22.at'), l0, _, [V.int 0], rfl, rfl, f2, by omega, by omega, by rw [Int.toNat_natCast, lr2]; exact Nat.le_trans (by show 1 * ss.length ≤ 128; omega) (by decide), fun tp ntp => ?_⟩
        have e0 : (List.replicate (((refM m2).length : Nat) : Int).toNat [V.int 0]).flatten = (ss.map fun x => ((ss.take 0).map fun y => W1 st y * W2 y x).sum % d).map V.int := by
          rw [Int.toNat_natCast, lr2]
          simp [List.map_const']
        rw [e0]
        obtain ⟨s3, f3⟩ := new_at (o := .lst ((ss.map fun x => ((ss.take 0).map fun y => W1 st y * W2 y x).sum % d).map V.int)) ntp
        generalize upd J2 tp (.lst ((ss.map fun x => ((ss.take 0).map fun y => W1 st y * W2 y x).sum % d).map V.int)) = J3 at s3 f3 ⊢
        have s13 := s2.trans s3
        have s03 := s1'.trans s13
        have ntf : tp ≠ fa := (ne_of_none (s2 _ _ hf) ntp).symm
        have hf3 := s13 _ _ hf
        have M13 := M1.same s03
        have M23 := M2.same s03
        have lp : (p.2.map V.int).length = ss.length := by rw [epr, List.length_map, List.length_map]
        refine ⟨_, rfl, p.1, _, rfl, .inl (SqL.of (M13.el p hpm)), _, rfl, by omega, by rw [lp]; omega, ?_⟩
        rw [Int.toNat_natCast, lp]
        refine for_range (lo := 0) (n := ss.length) (fun j σ H' => ∃ (tp : Addr) (v6 v7 : Option V), σ = [some (.ref a), some (.ref b), some (.int d), some (.ref fa), some (.ref p.1), some (.ref tp), v6, v7] ∧ Same J3 H' ∧ tp ≠ fa ∧ H' tp = some (.lst ((ss.map fun x => ((ss.take j).map fun y => W1 st y * W2 y x).sum % d).map V.int)))
          ⟨tp, _, _, rfl, Same.refl _, ntf, f3⟩ ?_ ?_
        · clear f3 ntf ntp nl0 f2 tp v4 v5 v6 v7
          rintro j σ J4 hj ⟨tp, v6, v7, rfl, s4, ntf, f4⟩
          have ey : ss[j]? = some ss[j] := List.getElem?_eq_getElem hj
          generalize ss[j] = y at ey
          have hy := List.mem_of_getElem? ey
          have M14 := M13.same s4
          have M24 := M23.same s4
          have zj : (0 : Int) + (j : Nat) = (j : Nat) := by omega
          have rl : atI (p.2.map V.int) ((0 : Int) + (j : Nat)) = some (.int (W1 st y)) := by
            rw [zj, epr]
            exact at_map ey
          refine ⟨_, rfl, _, rfl, p.1, _, _, _, rfl, rfl, SqL.of (M14.el p hpm), rl, ?_⟩
          refine ⟨rfl, _, rfl, ?_⟩
          by_cases w0 : W1 st y = 0
          · refine iteNS (congrArg V.int w0) ⟨tp, _, _, rfl, s4, ntf, ?_⟩
            rw [f4]
            refine congrArg some (congrArg HO.lst (congrArg (List.map V.int) (List.map_congr_left fun x _ => ?_)))
            rw [sum_take ey, w0, Int.zero_mul, Int.add_zero]
          · show if (!decide (V.int (W1 st y) = V.int 0)) = true then _ else _
            rw [decide_eq_false (fun h => w0 (by injection h))]
            refine iteT ?_
            have lt : ((ss.map fun x => ((ss.take j).map fun y => W1 st y * W2 y x).sum % d).map V.int).length = ss.length := by rw [List.length_map, List.length_map]
            refine ⟨_, rfl, tp, _, rfl, .inl (SqL.of f4), _, rfl, by omega, by rw [lt]; omega, fun D hD => ?_⟩
            rw [Int.toNat_natCast, lt]
            refine lc_pick (walk_range (lo := 0) (n := ss.length)) ss rfl (by omega) (fun _ => true) (fun x => .int (((ss.take (j + 1)).map fun y => W1 st y * W2 y x).sum % d)) hD (fun _ _ => trivial) ?_ ?_
            · rintro m u z J5 J5' Tk Nk ez s5 yy kT kF
              obtain ⟨rfl, rfl⟩ := yy
              have zm : (0 : Int) + (m : Nat) = (m : Nat) := by omega
              have M25 := M24.same s5
              have f5 := s5 _ _ f4
              obtain ⟨q, eq⟩ : ∃ q, m2[j]? = some q := ⟨_, List.getElem?_eq_getElem (by omega : j < m2.length)⟩
              obtain ⟨y', ey', eqr⟩ := tab_row e2 eq
              rw [ey] at ey'
              cases ey'
              have rq : atI (refM m2) ((0 : Int) + (j : Nat)) = some (.ref q.1) := by
                rw [zj]
                refine atI_nat ?_
                unfold refM
                rw [List.getElem?_map, eq]
                rfl
              have rt : atI ((ss.map fun x => ((ss.take j).map fun y => W1 st y * W2 y x).sum % d).map V.int) ((0 : Int) + (m : Nat)) = some (.int (((ss.take j).map fun y => W1 st y * W2 y z).sum % d)) := by
                rw [zm]
                exact at_map (g := fun x => ((ss.take j).map fun y => W1 st y * W2 y x).sum % d) ez
              have rz : atI (q.2.map V.int) ((0 : Int) + (m : Nat)) = some (.int (W2 y z)) := by
                rw [zm, eqr]
                exact at_map ez
              have bw := hW st hst y hy
              have kk := kT _ rfl (Same.refl _)
              rw [sum_take ey, ← Int.emod_add_emod] at kk
              refine ⟨rfl, tYes_of (iteT ?_)⟩
              refine ⟨_, rfl, _, rfl, tp, _, _, _, rfl, rfl, SqL.of f5, rt, ?_⟩
              refine ⟨_, rfl, _, rfl, p.1, _, _, _, rfl, rfl, SqL.of ((M14.same s5).el p hpm), rl, ?_⟩
              refine ⟨_, rfl, _, rfl, b, _, _, _, rfl, rfl, SqL.of M25.at', rq, ?_⟩
              refine ⟨_, rfl, q.1, _, _, _, rfl, rfl, SqL.of (M25.el q (List.mem_of_getElem? eq)), rz, ?_⟩
              refine ⟨_, _, rfl, rfl, .inl ⟨by show -(2 ^ 64) < W1 st y; omega, by show W1 st y < 2 ^ 64; omega⟩, ?_⟩
              refine ⟨_, _, rfl, rfl, ?_⟩
              exact ⟨_, rfl, _, _, rfl, rfl, by show 0 < d; omega, kk⟩
            · intro J5 s5 hD5
              rw [List.filter_eq_self.mpr fun _ _ => rfl] at hD5
              refine ⟨D, _, _, rfl, s4.trans s5, fun z => ?_, by rw [hD5, List.map_map]; rfl⟩
              rw [z, s4 _ _ hf3] at hD
              cases hD
        · clear f3 ntf ntp nl0 f2 tp
          rintro σ J4 ⟨tp, v6, v7, rfl, s4, ntf, f4⟩
          rw [List.take_length] at f4
          have hf4 := s4 _ _ hf3
          have lms : ms.length = i := by
            have := congrArg List.length em
            rw [List.length_map, List.length_map, List.length_take] at this
            have := (List.getElem?_eq_some_iff.mp est).1
            omega
          refine ⟨_, rfl, .inl ⟨rfl, _, SqL.of hf4⟩, _, rfl, fa, _, _, rfl, rfl, hf4, by unfold refM; rw [List.length_map]; exact small1000 (by have := (List.getElem?_eq_some_iff.mp est).1; omega), ?_⟩
          refine ⟨ms ++ [(tp, ss.map fun x => prodW ss W1 W2 d st x)], _, _, _, _, rfl, fun c o e => ?_, ?_, fun r hr' => ?_, ?_⟩
          · rw [upd_ne (ne_of_none e nfa)]
            exact s4 _ _ (s13 _ _ (s1' c o e))
          · rw [upd_same]
            unfold refM
            rw [List.map_append]
            rfl
          · rcases List.mem_append.mp hr' with h | h
            · obtain ⟨h1, h2⟩ := hel r h
              exact ⟨h1, by rw [upd_ne h1]; exact s4 _ _ (s13 _ _ h2)⟩
            · rw [List.mem_singleton.mp h]
              exact ⟨ntf, by rw [upd_ne ntf]; exact f4⟩
          · obtain ⟨hil, e⟩ := List.getElem?_eq_some_iff.mp est
            rw [List.map_append, em, List.take_succ_eq_append_getElem hil, List.map_append, e]
            rfl
    · rintro σ J1 ⟨ms, v4, v5, v6, v7, rfl, s1', hf, hel, em⟩
      have : (refM m1).length = ss.length := by unfold refM; rw [List.length_map, l1]
      rw [this, List.take_length] at em
      exact ⟨_, rfl, k fa ms J1 s1' ⟨hf, fun p hp => (hel p hp).2⟩ em⟩
end
end DL

set_option Elab.async false
set_option maxRecDepth 100000
set_option maxHeartbeats 2000000
namespace DL
open PySem L2 HT TL RZ PySem.NumText
/-- a list of standings that pulls don't leave -/
structure Shut (bs : List Bar) (ss : List (List Bool)) : Prop where
  nd : ss.Nodup
  ex : ∀ st ∈ ss, ∀ d ∈ freeL bs st, flip st d ∈ ss
  few : ss.length ≤ 128
theorem Shut.step {bs : List Bar} {ss : List (List Bool)} (R : Shut bs ss) {s : List Bool} (hs : s ∈ ss) (a b : Nat) (z : List Bool) : nSum (ss.map fun x => (lvlF bs s a).count x * (lvlF bs x b).count z) = (lvlF bs s (a + b)).count z := by
  rw [nSum_count ss R.nd (fun x => (lvlF bs x b).count z) _ (lvlF_in R.ex hs a), lvlF_add, count_flat]
theorem WayOk.prod {bs : List Bar} {ss : List (List Bool)} {d : Int} {q1 q2 : Nat} {W1 W2 : List Bool → List Bool → Int} (R : Shut bs ss) (d1 : 1 ≤ d) (d9 : d ≤ 10 ^ 9) (h1 : WayOk bs ss d q1 W1) (h2 : WayOk bs ss d q2 W2) : WayOk bs ss d (q1 + q2) (prodW ss W1 W2 d) := by
  refine ⟨fun s hs b hb => ⟨Int.emod_nonneg _ (by omega), ?_⟩, fun s hs b hb => ?_⟩
  · have := Int.emod_lt_of_pos (ss.map fun x => W1 s x * W2 x b).sum (show 0 < d by omega)
    exact Int.lt_trans this (Int.lt_of_le_of_lt d9 (by decide))
  · show (ss.map fun x => W1 s x * W2 x b).sum % d % d = _
    rw [Int.emod_emod, sum_mod ss _ (fun x => (lvlF bs s q1).count x * (lvlF bs x q2).count b) d fun x hx => mul_mod (h1.eq s hs x hx) (h2.eq x hx b hb), R.step hs]
theorem way_id {bs : List Bar} {ss : List (List Bool)} {d : Int} : WayOk bs ss d 0 fun s b => if s = b then 1 else 0 := by
  refine ⟨fun s _ b _ => ?_, fun s _ b _ => ?_⟩
  · by_cases e : s = b
    · rw [if_pos e]
      exact ⟨by decide, by decide⟩
    · rw [if_neg e]
      exact ⟨by decide, by decide⟩
  · show (if s = b then (1 : Int) else 0) % d = (([s].count b : Nat) : Int) % d
    by_cases e : s = b
    · subst e
      simp
    · rw [if_neg e]
      simp [e]
theorem fig_val {c : Nat} (h1 : 48 ≤ c) (h2 : c ≤ 57) : PySem.intText? ⟨#[c]⟩ = some ((c - 48 : Nat) : Int) := by
  have : c = 48 ∨ c = 49 ∨ c = 50 ∨ c = 51 ∨ c = 52 ∨ c = 53 ∨ c = 54 ∨ c = 55 ∨ c = 56 ∨ c = 57 := by omega
  rcases this with rfl | rfl | rfl | rfl | rfl | rfl | rfl | rfl | rfl | rfl <;> decide +kernel
theorem fig_all {m c : Nat} (h : c ∈ (Nat.toDigits 10 m).map Char.toNat) : 48 ≤ c ∧ c ≤ 57 := numL_digits m c h
structure spPower (vs : List V) (H : Hp) (Q : VK) (_ : XK) : Prop where
  h : ∃ (a : Addr) (t : Nat) (d : Int) (bs : List Bar) (m0 : List MRow) (ss : List (List Bool)) (W0 : List Bool → List Bool → Int), vs = [.ref a, .int t, .int d] ∧ 1 ≤ d ∧ d ≤ 10 ^ 9 ∧ t ≤ 10 ^ 30 ∧ Shut bs ss ∧ MatAt H a m0 ∧ m0.map (·.2) = tabM ss W0 ∧ WayOk bs ss d 1 W0 ∧
    ∀ (w' : Addr) (ms : List MRow) (W : List Bool → List Bool → Int) (H' : Hp), Same H H' → MatAt H' w' ms → ms.map (·.2) = tabM ss W → WayOk bs ss d t W → Q (.ref w') H'
section
variable {P : Program} {w : World} {K : PySem.W.Frag} {mg : Str → Option Value} {base : Heap}
abbrev nPow : List Str := ["_law_table", "_law_length", "_law_divisor", "_law_found", "_law_figure", "_law_two", "_law_four", "_law_turn", "_law_k", "_law_at"]
theorem scPow : FnScope nPow ["_law_table", "_law_length", "_law_divisor"] (defScope s__law_power) := ⟨rfl, rfl, rfl, by decide +kernel, rfl, by decide +kernel, by decide +kernel⟩
theorem ok_power {f f1 : Addr} {fd fd1 : FuncData} (F : Fun K "_law_power" "_law_power" s__law_power f fd) (T : Bt mg) (zT : mg "str" = none)
    (G : FnOk P w K mg base CX0 1 f1 fd1 ["_law_one", "_law_other", "_law_divisor"] spTimes) (g1 : mg "_law_times" = some (.ref f1)) (k1 : PySem.W.keepIn K (.ref f1) = true) (b1 : Binds K fd1 ["_law_one", "_law_other", "_law_divisor"] []) :
    FnOk P w K mg base CX0 2 f fd ["_law_table", "_law_length", "_law_divisor"] spPower := by
  refine F.ok scPow (fun vs H Q E h => ?_) (fun cdv A outer s H vs Q E hr h => ?_)
  · obtain ⟨a, t, d, _, _, _, _, rfl, _⟩ := h.h
    rfl
  · obtain ⟨a, t, d, bs, m0, ss, W0, rfl, d1, d9, t30, R, M0, e0, O0, k⟩ := h.h
    refine ⟨_, pss_cons (ps_setLc (i := 3) (own := [("_law_at", 9)]) (g := gName 9) (tt := tYes) (by rfl) scPow.nd rfl rfl (by rfl) (pi_range1 (by rfl) T.range (pa_cons (pe_callB call_len_seq (by rfl) T.len (by decide +kernel) (pa_cons (pv 0) pa_nil)) pa_nil)) (blkOk_by (N := nPow) (sc := defScope s__law_power) (by decide +kernel)) (fun _ _ _ _ _ => pg_name (i := 9) scPow.nd rfl (Or.inr rfl)) (fun _ _ _ _ _ => pts_nil)
        (fun _ _ _ _ _ => by exact (pe_lc (own := [("_law_k", 8)]) (g := gName 8) (tt := tYes) (by rfl) scPow.nd (pi_range1 (by rfl) T.range (pa_cons (pe_callB (call_len_seqK (K := K) rfl) (by rfl) T.len (by decide +kernel) (pa_cons (pv 0) pa_nil)) pa_nil)) (blkOk_by (N := nPow) (by rfl)) (fun _ _ _ _ _ => pg_name (i := 8) scPow.nd rfl (Or.inl rfl)) (fun _ _ _ _ _ => pts_nil)
          (fun _ _ _ _ _ => pe_callTy call_int1 (by rfl) T.int (by decide +kernel) (pa_cons (pe_cmpR op_eq (pv 9) (pv 8) (nomark _)) pa_nil)))))
      (pss_cons (ps_for PassesOwn.never rfl (pi_str (pe_callTy call_str_int (by rfl) zT (by decide +kernel) (pa_cons (pv 1) pa_nil))) (pg_name (i := 4) scPow.nd rfl (Or.inl rfl))
        (pss_cons (ps_set (i := 5) scPow.nd rfl (Or.inl rfl) (pe_call G (hr.mono (by decide)) rfl g1 k1 b1 .nil pass0 (pa_cons (pv 3) (pa_cons (pv 3) (pa_cons (pv 2) pa_nil)))))
        (pss_cons (ps_set (i := 6) scPow.nd rfl (Or.inl rfl) (pe_call G (hr.mono (by decide)) rfl g1 k1 b1 .nil pass0 (pa_cons (pv 5) (pa_cons (pv 5) (pa_cons (pv 2) pa_nil)))))
        (pss_cons (ps_set (i := 3) scPow.nd rfl (Or.inl rfl) (pe_call G (hr.mono (by decide)) rfl g1 k1 b1 .nil pass0 (pa_cons (pe_call G (hr.mono (by decide)) rfl g1 k1 b1 .nil pass0 (pa_cons (pv 6) (pa_cons (pv 6) (pa_cons (pv 2) pa_nil)))) (pa_cons (pv 5) (pa_cons (pv 2) pa_nil)))))
        (pss_one (ps_for PassesOwn.never rfl (pi_range1 (by rfl) T.range (pa_cons (pe_callTy call_int_str (by rfl) T.int (by decide +kernel) (pa_cons (pv 4) pa_nil)) pa_nil)) (pg_name (i := 7) scPow.nd rfl (Or.inl rfl))
          (pss_one (ps_set (i := 3) scPow.nd rfl (Or.inl rfl) (pe_call G (hr.mono (by decide)) rfl g1 k1 b1 .nil pass0 (pa_cons (pv 3) (pa_cons (pv 0) (pa_cons (pv 2) pa_nil)))))))))))) 
      (pss_one (ps_ret (pv 3)))), ?_⟩
    have l0 := tab_mlen e0
    have lr0 : (refM m0).length = ss.length := by unfold refM; rw [List.length_map, l0]
    have hfew := R.few
    refine ⟨_, rfl, a, _, rfl, .inl (SqL.of M0.at'), _, rfl, by omega, by rw [lr0]; omega, fun D hD => ?_⟩
    rw [Int.toNat_natCast, lr0]
    refine lc_mat (walk_range (lo := 0) (n := ss.length)) ss rfl (by omega) (fun s => ss.map fun b => if s = b then 1 else 0) hD (fun _ _ => trivial) ?_ ?_
    · rintro i x z H1 H1' Tk Nk ez s1 yy kT
      obtain ⟨rfl, rfl⟩ := yy
      have M1 := M0.same s1
      refine ⟨rfl, tYes_of (iteT ?_)⟩
      refine ⟨_, rfl, a, _, rfl, .inl (SqL.of M1.at'), _, rfl, by omega, by rw [lr0]; omega, fun D2 hD2 => ?_⟩
      rw [Int.toNat_natCast, lr0]
      refine lc_pick (walk_range (lo := 0) (n := ss.length)) ss rfl (by omega) (fun _ => true) (fun b => .int (if z = b then 1 else 0)) hD2 (fun _ _ => trivial) ?_ ?_
      · rintro m u y H2 H2' Tk2 Nk2 ey s2 yy kT2 kF2
        obtain ⟨rfl, rfl⟩ := yy
        refine ⟨rfl, tYes_of (iteT ?_)⟩
        refine ⟨_, rfl, _, rfl, rfl, .inr ⟨_, rfl, ?_⟩⟩
        have kk := kT2 _ rfl (Same.refl _)
        have e : (if z = y then (1 : Int) else 0) = if decide (V.int ((0 : Int) + (i : Nat)) = V.int ((0 : Int) + (m : Nat))) = true then 1 else 0 := by
          by_cases q : i = m
          · subst q
            rw [ez] at ey
            cases ey
            rw [if_pos rfl, decide_eq_true rfl, if_pos rfl]
          · have n1 : z ≠ y := fun h => by
              subst h
              obtain ⟨a1, a2⟩ := List.getElem?_eq_some_iff.mp ez
              obtain ⟨b1', b2'⟩ := List.getElem?_eq_some_iff.mp ey
              exact q ((List.getElem_inj R.nd).mp (a2.trans b2'.symm))
            have n2 : ¬ (V.int ((0 : Int) + (i : Nat)) = V.int ((0 : Int) + (m : Nat))) := fun h => by
              injection h with h
              omega
            rw [if_neg n1, decide_eq_false n2]
            rfl
        rw [e] at kk
        exact kk
      · intro H2 s2 hD2'
        rw [List.filter_eq_self.mpr fun _ _ => rfl] at hD2'
        refine kT D2 H2 hD2 s2 ?_
        rw [hD2', List.map_map]
        rfl
    intro H1 ms1 s1 M1 em1
    have tlt : ((t : Nat) : Int).natAbs < 2 ^ 100 := by
      rw [Int.natAbs_natCast]
      exact Nat.lt_of_le_of_lt t30 (by decide)
    have tlog : ((t : Nat) : Int).natAbs.log2 < 1920 := Nat.lt_of_lt_of_le (PySem.Flt.log2_lt_of (k := 100) (by decide) tlt) (by decide)
    refine ⟨_, rfl, _, rfl, tlog, _, rfl, ?_⟩
    have hz : (Str.ofString (toString ((t : Nat) : Int))).cps.toList = (Nat.toDigits 10 t).map Char.toNat := PySem.W.KIN.signs_num t
    generalize Str.ofString (toString ((t : Nat) : Int)) = z at hz
    have hfig : ∀ c ∈ z.cps.toList, 48 ≤ c ∧ c ≤ 57 := fun c hc => by
      rw [hz] at hc
      exact fig_all hc
    have hval : digitsVal z.cps.toList = t := by
      rw [hz]
      exact PySem.W.KIN.val_back t
    have lo : ∀ {q : Nat} {W : List Bool → List Bool → Int}, WayOk bs ss d q W → ∀ s ∈ ss, ∀ x ∈ ss, 0 ≤ W s x ∧ W s x < 2 ^ 40 := fun h => h.lo
    refine for_it (walk_str (z := z)) (fun i σ H' => ∃ (fo : Addr) (ms : List MRow) (W : List Bool → List Bool → Int) (v4 v5 v6 v7 v8 v9 : Option V), σ = [some (.ref a), some (.int t), some (.int d), some (.ref fo), v4, v5, v6, v7, v8, v9] ∧ Same H H' ∧ MatAt H' fo ms ∧ ms.map (·.2) = tabM ss W ∧ WayOk bs ss d (digitsVal (z.cps.toList.take i)) W)
      ⟨D, ms1, _, _, _, _, _, _, _, rfl, s1, M1, em1, way_id⟩ (fun _ _ _ _ _ => trivial) ?_ ?_
    · rintro i x σ J1 J1' hi ⟨fo, ms, W, v4, v5, v6, v7, v8, v9, rfl, s1', Mf, ef, WO⟩ ⟨rfl, c, ec, rfl⟩
      have ecl : z.cps.toList[i]? = some c := by rw [Array.getElem?_toList]; exact ec
      obtain ⟨c1, c2⟩ := hfig c (List.mem_of_getElem? ecl)
      refine ⟨_, rfl, _, rfl, _, rfl, ⟨⟨fo, fo, d, ms, ms, ss, W, W, rfl, d1, Mf, Mf, ef, ef, lo WO, hfew, fun w2 ms2 J2 s2 M2 e2 => ?_⟩⟩⟩
      have O2 := WO.prod R d1 d9 WO
      refine ⟨_, rfl, _, rfl, _, rfl, ⟨⟨w2, w2, d, ms2, ms2, ss, _, _, rfl, d1, M2, M2, e2, e2, lo O2, hfew, fun w4 ms4 J4 s4 M4 e4 => ?_⟩⟩⟩
      have O4 := O2.prod R d1 d9 O2
      refine ⟨_, rfl, _, rfl, _, rfl, ⟨⟨w4, w4, d, ms4, ms4, ss, _, _, rfl, d1, M4, M4, e4, e4, lo O4, hfew, fun w8 ms8 J8 s8 M8 e8 => ?_⟩⟩⟩
      have O8 := O4.prod R d1 d9 O4
      have M28 := (M2.same s4).same s8
      refine ⟨_, rfl, _, rfl, ⟨⟨w8, w2, d, ms8, ms2, ss, _, _, rfl, d1, M8, M28, e8, e2, lo O8, hfew, fun wx msx Jx sx Mx ex => ?_⟩⟩⟩
      have Ox := O8.prod R d1 d9 O2
      have sJ := (((s1'.trans s2).trans s4).trans s8).trans sx
      refine ⟨_, rfl, _, _, rfl, fig_val c1 c2, (by show 1 ≤ 640; decide), _, rfl, by omega, by omega, ?_⟩
      rw [Int.toNat_natCast]
      have nx : digitsVal (z.cps.toList.take (i + 1)) = digitsVal (z.cps.toList.take i) * 10 + (c - 48) := by
        obtain ⟨hil, e⟩ := List.getElem?_eq_some_iff.mp ecl
        rw [List.take_succ_eq_append_getElem hil, digitsVal_snoc, e]
      refine for_range (lo := 0) (n := c - 48) (fun j σ H' => ∃ (fo : Addr) (ms : List MRow) (W : List Bool → List Bool → Int) (v4 v5 v6 v7 v8 v9 : Option V), σ = [some (.ref a), some (.int t), some (.int d), some (.ref fo), v4, v5, v6, v7, v8, v9] ∧ Same H H' ∧ MatAt H' fo ms ∧ ms.map (·.2) = tabM ss W ∧ WayOk bs ss d (digitsVal (z.cps.toList.take i) * 10 + j) W)
        ⟨wx, msx, _, _, _, _, _, _, _, rfl, sJ, Mx, ex, ?_⟩ ?_ ?_
      · have eq : digitsVal (z.cps.toList.take i) * 10 + 0 = ((digitsVal (z.cps.toList.take i) + digitsVal (z.cps.toList.take i)) + (digitsVal (z.cps.toList.take i) + digitsVal (z.cps.toList.take i))) + ((digitsVal (z.cps.toList.take i) + digitsVal (z.cps.toList.take i)) + (digitsVal (z.cps.toList.take i) + digitsVal (z.cps.toList.take i))) + (digitsVal (z.cps.toList.take i) + digitsVal (z.cps.toList.take i)) := by omega
        rw [eq]
        exact Ox
      · rintro j σ K1 hj ⟨fo, ms, W, v4, v5, v6, v7, v8, v9, rfl, sK, MK, eK, OK⟩
        refine ⟨_, rfl, _, rfl, _, rfl, ⟨⟨fo, a, d, ms, m0, ss, _, _, rfl, d1, MK, M0.same sK, eK, e0, lo OK, hfew, fun w' ms' K2 sk2 M2 e2 => ?_⟩⟩⟩
        have q := OK.prod R d1 d9 O0
        rw [Nat.add_assoc] at q
        exact ⟨w', ms', _, _, _, _, _, _, _, rfl, sK.trans sk2, M2, e2, q⟩
      · rintro σ K1 ⟨fo, ms, W, v4, v5, v6, v7, v8, v9, rfl, sK, MK, eK, OK⟩
        rw [← nx] at OK
        exact ⟨fo, ms, W, _, _, _, _, _, _, rfl, sK, MK, eK, OK⟩
    · rintro σ J1 ⟨fo, ms, W, v4, v5, v6, v7, v8, v9, rfl, s1', Mf, ef, WO⟩
      have e : z.cps.toList.take z.cps.size = z.cps.toList := by
        rw [← Array.length_toList, List.take_length]
      rw [e, hval] at WO
      exact ⟨_, rfl, k fo ms W J1 s1' Mf ef WO⟩
end
end DL

set_option Elab.async false
set_option maxRecDepth 100000
set_option maxHeartbeats 2000000
namespace DL
open PySem L2 HT TL RZ
def allT : Nat → List (List Bool)
  | 0 => [[]]
  | n + 1 => ((allT n).map fun st => st ++ [true]) ++ ((allT n).map fun st => st ++ [false])
theorem snoc_inj {a b : List Bool} {x y : Bool} (h : a ++ [x] = b ++ [y]) : a = b ∧ x = y := by
  have h2 := List.append_inj' h rfl
  refine ⟨h2.1, ?_⟩
  have := h2.2
  injection this
theorem allT_nodup : ∀ n, (allT n).Nodup
  | 0 => by simp [allT]
  | n + 1 => by
    have ih := allT_nodup n
    have one : ∀ x : Bool, ((allT n).map fun st => st ++ [x]).Nodup := fun x => (List.pairwise_map.mpr (ih.imp fun hne h => hne (snoc_inj h).1))
    show (((allT n).map fun st => st ++ [true]) ++ ((allT n).map fun st => st ++ [false])).Nodup
    rw [List.nodup_append]
    refine ⟨one true, one false, fun a ha b hb e => ?_⟩
    obtain ⟨s, _, rfl⟩ := List.mem_map.mp ha
    obtain ⟨s', _, rfl⟩ := List.mem_map.mp hb
    exact Bool.false_ne_true (snoc_inj e).2.symm
theorem allT_mem : ∀ n (st : List Bool), st ∈ allT n ↔ st.length = n
  | 0, st => by
    show st ∈ [[]] ↔ _
    rw [List.mem_singleton, List.length_eq_zero_iff]
  | n + 1, st => by
    show st ∈ ((allT n).map fun st => st ++ [true]) ++ ((allT n).map fun st => st ++ [false]) ↔ _
    rw [List.mem_append]
    constructor
    · rintro (h | h) <;>
      · obtain ⟨s, hs, rfl⟩ := List.mem_map.mp h
        rw [List.length_append, (allT_mem n s).mp hs]
        rfl
    · intro h
      have hne : st ≠ [] := by
        intro z
        rw [z] at h
        cases h
      have e := List.dropLast_concat_getLast hne
      have hl : (st.dropLast).length = n := by rw [List.length_dropLast, h]; rfl
      have hm := (allT_mem n _).mpr hl
      rw [← e]
      cases st.getLast hne with
      | true => exact .inl (List.mem_map.mpr ⟨_, hm, rfl⟩)
      | false => exact .inr (List.mem_map.mpr ⟨_, hm, rfl⟩)
theorem perm_all {ks : List (List Bool)} {ys : List Str} (h : ys.Perm (ks.map sstr)) : ∃ sts : List (List Bool), ys = sts.map sstr ∧ sts.Perm ks := by
  have e : ks.map sstr = (ks.map fun k => ((k, []) : Ent)).map fun e => sstr e.1 := by rw [List.map_map]; rfl
  rw [e] at h
  obtain ⟨sts, h1, h2⟩ := any_perm h
  rw [List.map_map, show ((fun e : Ent => e.1) ∘ fun k => ((k, []) : Ent)) = id from rfl, List.map_id] at h2
  exact ⟨sts, h1, h2⟩
structure spLawAllW (vs : List V) (H : Hp) (Q : VK) (_ : XK) : Prop where
  h : ∃ n : Nat, vs = [.int n] ∧ n ≤ 5 ∧ ∀ (p : Addr) (sts : List (List Bool)) (H' : Hp), H p = none → Same H H' → sts.Perm (allT n) → H' p = some (.lst (sts.map fun st => .str (sstr st))) → sts.length ≤ 32 → Q (.ref p) H'
structure spTakenW (K : PySem.W.Frag) (vs : List V) (H : Hp) (Q : VK) (_ : XK) : Prop where
  h : ∃ (r sc : Addr) (ns : List Int) (many : Int), vs = [.ref r, .int many] ∧ RowOk H r sc ∧ SqL K H sc (ns.map V.int) ∧ 1 ≤ many ∧ many ≤ 10 ^ 30 + 1 ∧
    ∀ (v : Int) (H' : Hp), 0 ≤ v → v < many → RowOk H' r sc → But r H H' → Q (.int v) H'
section
variable {P : Program} {w : World} {K : PySem.W.Frag} {mg : Str → Option Value} {base : Heap}
theorem ok_lawAllW {f : Addr} {fd : FuncData} (F : Fun K "_law_all" "_law_all" s__law_all f fd) (T : Bt mg) : FnOk P w K mg base CX0 1 f fd ["_law_many"] spLawAllW := by
  refine F.ok scLA (fun vs H Q E h => ?_) (fun cdv A outer s H vs Q E hr h => ?_)
  · obtain ⟨n, rfl, _⟩ := h.h
    rfl
  · obtain ⟨n, rfl, n5, k⟩ := h.h
    refine ⟨_, pss_cons (ps_set (i := 1) scLA.nd rfl (Or.inl rfl) (pe_lst (pa_cons pe_str pa_nil)))
      (pss_cons (ps_for PassesOwn.never rfl (pi_range1 (by rfl) T.range (pa_cons (pv 0) pa_nil)) (pg_name (i := 2) scLA.nd rfl (Or.inl rfl))
        (pss_one (ps_set (i := 1) scLA.nd rfl (Or.inl rfl) (pe_op op_cat
          (pe_lc (own := [("_law_some", 3)]) (g := gName 3) (tt := tYes) (by rfl) scLA.nd (pi_list (pv 1)) (blkOk_by (N := nLA) (sc := defScope s__law_all) (by decide +kernel)) (fun _ _ _ _ _ => pg_name (i := 3) scLA.nd rfl (Or.inl rfl)) (fun _ _ _ _ _ => pts_nil) (fun _ _ _ _ _ => pe_op op_add_str (pv 3) pe_str))
          (pe_lc (own := [("_law_some", 3)]) (g := gName 3) (tt := tYes) (by rfl) scLA.nd (pi_list (pv 1)) (blkOk_by (N := nLA) (sc := defScope s__law_all) (by decide +kernel)) (fun _ _ _ _ _ => pg_name (i := 3) scLA.nd rfl (Or.inl rfl)) (fun _ _ _ _ _ => pts_nil) (fun _ _ _ _ _ => pe_op op_add_str (pv 3) pe_str))))))
      (pss_one (ps_ret (pe_callB cr_sortedS (by rfl) T.sorted (by decide +kernel) (pa_cons (pv 1) pa_nil))))), ?_⟩
    refine ⟨(by show 1 ≤ sizeLine; decide), fun q hq => ?_⟩
    have e0 : (V.str "" : V) = V.str (sstr []) := by decide +kernel
    refine ⟨_, rfl, _, rfl, by omega, by omega, ?_⟩
    rw [Int.toNat_natCast]
    refine for_range (lo := 0) (n := n) (fun i σ H' => ∃ (p : Addr) (sts : List (List Bool)) (u2 u3 : Option V), σ = [some (.int n), some (.ref p), u2, u3] ∧ H' p = some (.lst (sts.map fun st => .str (sstr st))) ∧ (∀ st ∈ sts, st.length = i) ∧ sts.length ≤ 2 ^ i ∧ sts = allT i ∧ Same H H')
      ⟨q, [[]], _, _, rfl, by rw [upd_same, e0]; rfl, fun st hst => by rw [List.mem_singleton.mp hst]; rfl, Nat.le_refl _, rfl, same_upd hq⟩ ?_ ?_
    · rintro i σ H1 hi ⟨p, sts, u2, u3, rfl, hp, hlen, hfew, eT, s1⟩
      have h32 : 2 ^ i ≤ 2 ^ 5 := Nat.pow_le_pow_right (by decide) (by omega)
      have h32' : (2 : Nat) ^ 5 = 32 := rfl
      have one : ∀ (b : Bool) (z : Str) (_ : z.cps.toList = [sg b]) (σ : L2.St) (H2 : Hp) (Qk : VK) (D : Addr), Same H1 H2 → True := fun _ _ _ _ _ _ _ _ => trivial
      clear one
      refine ⟨_, rfl, p, rfl, ⟨_, SqL.of hp⟩, fun D hD => ?_⟩
      refine lc_it walk_list (fun j H' => Same H1 H' ∧ H' D = some (.lst (((sts.take j).map fun st => st ++ [true]).map fun st => V.str (sstr st)))) ⟨same_upd hD, upd_same⟩ (fun j H' _ q => SqL.of (q.1 _ _ hp)) ?_ ?_
      · rintro j x H2 H3 hj ⟨s2, hD1⟩ ⟨rfl, hx⟩
        rw [List.getElem?_map] at hx
        cases ek : sts[j]? with
        | none => rw [ek] at hx; cases hx
        | some st =>
          rw [ek] at hx
          cases hx
          have hl := hlen st (List.mem_of_getElem? ek)
          refine ⟨rfl, tYes_of (iteT ?_)⟩
          refine ⟨_, rfl, _, _, rfl, rfl, by rw [sstr_len]; exact Nat.le_of_lt (small1000 (by show st.length + 1 ≤ 1000; omega)), ?_⟩
          rw [sstr_snoc st true "o" (by decide +kernel)]
          refine ⟨_, hD1, by rw [List.length_map, List.length_map, List.length_take]; exact small1000 (by omega), fun b o e => ?_, ?_⟩
          · rw [upd_ne (ne_of_none e hD)]
            exact s2 b o e
          · rw [upd_same, ← take_succ_map (fun st => st ++ [true]) ek, List.map_append]
            rfl
      · rintro H2 ⟨s2, hD1⟩
        rw [List.length_map, List.take_length] at hD1
        refine ⟨_, rfl, p, rfl, ⟨_, SqL.of (s2 _ _ hp)⟩, fun D' hD' => ?_⟩
        refine lc_it walk_list (fun j H' => Same H2 H' ∧ H' D' = some (.lst (((sts.take j).map fun st => st ++ [false]).map fun st => V.str (sstr st)))) ⟨same_upd hD', upd_same⟩ (fun j H' _ q => SqL.of (q.1 _ _ (s2 _ _ hp))) ?_ ?_
        · rintro j x H3 H4 hj ⟨s3, hD2⟩ ⟨rfl, hx⟩
          rw [List.getElem?_map] at hx
          cases ek : sts[j]? with
          | none => rw [ek] at hx; cases hx
          | some st =>
            rw [ek] at hx
            cases hx
            have hl := hlen st (List.mem_of_getElem? ek)
            refine ⟨rfl, tYes_of (iteT ?_)⟩
            refine ⟨_, rfl, _, _, rfl, rfl, by rw [sstr_len]; exact Nat.le_of_lt (small1000 (by show st.length + 1 ≤ 1000; omega)), ?_⟩
            rw [sstr_snoc st false "s" (by decide +kernel)]
            refine ⟨_, hD2, by rw [List.length_map, List.length_map, List.length_take]; exact small1000 (by omega), fun b o e => ?_, ?_⟩
            · rw [upd_ne (ne_of_none e hD')]
              exact s3 b o e
            · rw [upd_same, ← take_succ_map (fun st => st ++ [false]) ek, List.map_append]
              rfl
        · rintro H3 ⟨s3, hD2⟩
          rw [List.length_map, List.take_length] at hD2
          refine ⟨D, D', _, _, rfl, rfl, s3 _ _ hD1, hD2, by rw [List.length_map, List.length_map, List.length_map, List.length_map]; exact Nat.le_of_lt (small1000 (by omega)), fun pn hpn => ?_⟩
          refine ⟨pn, (sts.map fun st => st ++ [true]) ++ (sts.map fun st => st ++ [false]), _, _, rfl, by rw [upd_same, List.map_append], fun st hst => ?_, ?_, (by rw [eT]; rfl), ((s1.trans s2).trans s3).trans (same_upd hpn)⟩
          · rcases List.mem_append.mp hst with hst | hst <;>
            · obtain ⟨s', hs', rfl⟩ := List.mem_map.mp hst
              rw [List.length_append, hlen s' hs']
              rfl
          · rw [List.length_append, List.length_map, List.length_map, Nat.pow_succ]
            omega
    · rintro σ H1 ⟨p, sts, u2, u3, rfl, hp, hlen, hfew, eT, s1⟩
      have h32 : 2 ^ n ≤ 2 ^ 5 := Nat.pow_le_pow_right (by decide) n5
      have h32' : (2 : Nat) ^ 5 = 32 := rfl
      refine ⟨_, rfl, p, sts.map sstr, rfl, SqL.of (by rw [hp, List.map_map]; rfl), by rw [List.length_map]; omega, fun ys pn hperm hsrt hpn => ?_⟩
      obtain ⟨sts', rfl, hp'⟩ := perm_all hperm
      have hpl := hperm.length_eq
      rw [List.length_map, List.length_map] at hpl
      refine k pn sts' _ (s1.free hpn) (s1.trans (same_upd hpn)) (by rw [← eT]; exact hp') ?_ (by omega)
      rw [upd_same, List.map_map]
      rfl
theorem ok_takenW {f : Addr} {fd : FuncData} (F : Fun K "_law_taken" "_law_taken" sTaken f fd) (T : Bt mg) : FnOk P w K mg base CX0 1 f fd ["_law_row", "_law_many"] (spTakenW K) := by
  refine F.ok scTaken (fun vs H Q E h => ?_) (fun cdv A outer s H vs Q E hr h => ?_)
  · obtain ⟨r, sc, ns, many, rfl, _⟩ := h.h
    rfl
  · obtain ⟨r, sc, ns, many, rfl, R, S, h1, h2, k⟩ := h.h
    obtain ⟨i, m, e, hR, hi, hm0, hm, he⟩ := R.h
    have dv : CDivW e many := wide_div (b := 100) (by omega) (by omega) (by decide) (by decide)
    refine ⟨_, pss_cons (ps_if (pt_cmpR op_gt (pe_ix ix_list (pv 0) pe_int (fun _ _ => rfl)) pe_int (nomark _))
        (pss_cons (ps_set (i := 2) scTaken.nd rfl (.inl rfl) (pe_op op_mod (pe_callTy call_int1 (by rfl) T.int (by decide +kernel) (pa_cons (pe_ix ix_list (pv 0) pe_int (fun _ _ => rfl)) pa_nil)) (pv 1)))
        (pss_cons (ps_asg (pe_op op_fdivW (pe_ix ix_list (pv 0) pe_int (fun _ _ => rfl)) (pv 1)) (pg_sub (pv 0) pe_int set_list))
        (pss_one (ps_ret (pv 2))))) pss_nil)
      (pss_cons (ps_asg (pe_op op_add (pe_ix ix_list (pv 0) pe_int (fun _ _ => rfl)) pe_int) (pg_sub (pv 0) pe_int set_list))
      (pss_cons (ps_if (pt_cmpR op_gt (pe_ix ix_list (pv 0) pe_int (fun _ _ => rfl)) (pe_callB call_len_seq (by rfl) T.len PySem.boot_len (pa_cons (pe_ix ix_list (pv 0) pe_int (fun _ _ => rfl)) pa_nil)) (nomark _))
        (pss_cons (ps_asg (pe_op op_mod (pe_callTy call_int1 (by rfl) T.int (by decide +kernel) (pa_cons (pe_op op_add (pe_op op_mul (pe_ix ix_list (pv 0) pe_int (fun _ _ => rfl)) pe_int) pe_int) pa_nil)) pe_int) (pg_sub (pv 0) pe_int set_list))
        (pss_one (ps_ret (pe_op op_mod (pe_callTy call_int1 (by rfl) T.int (by decide +kernel) (pa_cons (pe_op op_fdiv (pe_ix ix_list (pv 0) pe_int (fun _ _ => rfl)) pe_int) pa_nil)) (pv 1))))) pss_nil)
      (pss_cons (ps_set (i := 3) scTaken.nd rfl (.inl rfl) (pe_ix ix_list (pe_ix ix_list (pv 0) pe_int (fun _ _ => rfl)) (pe_op op_sub (pe_ix ix_list (pv 0) pe_int (fun _ _ => rfl)) pe_int) (fun _ _ => rfl)))
      (pss_cons (ps_asg (pe_op op_mod (pe_callTy call_int1 (by rfl) T.int (by decide +kernel) (pa_cons (pe_op op_add (pe_op op_add (pe_op op_mul (pe_ix ix_list (pv 0) pe_int (fun _ _ => rfl)) pe_int) (pv 3)) pe_int) pa_nil)) pe_int) (pg_sub (pv 0) pe_int set_list))
      (pss_cons (ps_if (pt_cmpR op_ge (pv 3) (pe_op op_pow pe_int pe_int) (nomark _)) (pss_one (ps_asg (pe_op op_fdivW (pv 3) (pv 1)) (pg_sub (pv 0) pe_int set_list))) pss_nil)
      (pss_one (ps_ret (pe_op op_mod (pe_callTy call_int1 (by rfl) T.int (by decide +kernel) (pa_cons (pv 3) pa_nil)) (pv 1))))))))), ?_⟩
    refine ⟨_, rfl, r, _, _, .int e, rfl, rfl, SqL.of hR, rfl, _, _, rfl, rfl, _, rfl, ?_⟩
    refine ite2 (fun z => ?_) (fun _ => ?_)
    · refine ⟨_, rfl, r, _, _, .int e, rfl, rfl, SqL.of hR, rfl, .inl ⟨_, rfl, _, rfl, _, _, rfl, rfl, (by omega), ?_⟩⟩
      refine ⟨_, rfl, r, _, _, .int e, rfl, rfl, SqL.of hR, rfl, _, rfl, _, _, rfl, rfl, dv, ?_⟩
      refine ⟨_, rfl, r, _, _, 3, rfl, rfl, hR, rfl, _, rfl, ?_⟩
      exact k _ _ (Int.emod_nonneg _ (by omega)) (Int.emod_lt_of_pos _ (by omega)) ⟨⟨i, m, e / many, upd_same, hi, hm0, hm, Int.ediv_nonneg he (by omega)⟩⟩ but_upd
    · refine ⟨_, rfl, r, _, _, .int i, rfl, rfl, SqL.of hR, rfl, _, _, rfl, rfl, ?_⟩
      refine ⟨_, rfl, r, _, _, 1, rfl, rfl, hR, rfl, ?_⟩
      have S1 : SqL K (upd H r (.lst [.ref sc, .int (i + 1), .int m, .int e])) sc (ns.map V.int) := but_upd.seqR R S
      refine ⟨_, rfl, r, _, _, .int (i + 1), rfl, rfl, SqL.of upd_same, rfl, ?_⟩
      refine ⟨_, rfl, r, _, _, .ref sc, rfl, rfl, SqL.of upd_same, rfl, sc, _, rfl, .inl S1, _, _, rfl, rfl, _, rfl, ?_⟩
      refine ite2 (fun z => ?_) (fun z => ?_)
      · refine ⟨_, rfl, r, _, _, .int m, rfl, rfl, SqL.of upd_same, rfl, _, _, rfl, rfl, .inl ⟨by omega, by omega⟩, _, _, rfl, rfl, .inl ⟨_, rfl, _, _, rfl, rfl, (by show (0 : Int) < 2147483647; decide), ?_⟩⟩
        refine ⟨_, rfl, r, _, _, 2, rfl, rfl, upd_same, rfl, ?_⟩
        refine ⟨_, rfl, r, _, _, .int ((m * 48271 + 11) % 2147483647), rfl, rfl, SqL.of upd_same, rfl, _, _, rfl, rfl, ⟨by decide, by decide⟩, .inl ⟨_, rfl, _, rfl, _, _, rfl, rfl, (by omega), ?_⟩⟩
        refine k _ _ (Int.emod_nonneg _ (by omega)) (Int.emod_lt_of_pos _ (by omega)) ⟨⟨i + 1, (m * 48271 + 11) % 2147483647, e, upd_same, by omega, Int.emod_nonneg _ (by decide), Int.emod_lt_of_pos _ (by decide), he⟩⟩ (but_upd.trans but_upd)
      · have hlt : i < ns.length := by
          have := of_decide_eq_false (by simpa using z : decide ((ns.map V.int).length < i + 1) = false)
          rw [List.length_map] at this
          omega
        have hc : ∃ c, ns[i.toNat]? = some c := ⟨ns[i.toNat]'(by omega), List.getElem?_eq_getElem (by omega)⟩
        obtain ⟨c, hc⟩ := hc
        have hat : atI (ns.map V.int) ((i + 1) - 1) = some (.int c) := by
          have e1 : (i + 1) - 1 = ((i.toNat : Nat) : Int) := by omega
          rw [e1]
          exact atI_nat (by rw [List.getElem?_map, hc]; rfl)
        refine ⟨_, rfl, r, _, _, .ref sc, rfl, rfl, SqL.of upd_same, rfl, _, rfl, r, _, _, .int (i + 1), rfl, rfl, SqL.of upd_same, rfl, _, _, rfl, rfl, sc, _, _, .int c, rfl, rfl, S1, hat, ?_⟩
        refine ⟨_, rfl, r, _, _, .int m, rfl, rfl, SqL.of upd_same, rfl, _, _, rfl, rfl, .inl ⟨by omega, by omega⟩, _, rfl, _, _, rfl, rfl, _, _, rfl, rfl, .inl ⟨_, rfl, _, _, rfl, rfl, (by show (0 : Int) < 2147483647; decide), ?_⟩⟩
        refine ⟨_, rfl, r, _, _, 2, rfl, rfl, upd_same, rfl, ?_⟩
        refine ⟨_, rfl, _, _, rfl, rfl, ⟨by decide, by decide, by decide⟩, _, _, rfl, rfl, _, rfl, ?_⟩
        have m1 := Int.emod_nonneg (m * 48271 + c + 11) (show (2147483647 : Int) ≠ 0 by decide)
        have m2 := Int.emod_lt_of_pos (m * 48271 + c + 11) (show (0 : Int) < 2147483647 by decide)
        have v1 := Int.emod_nonneg c (show many ≠ 0 by omega)
        have v2 := Int.emod_lt_of_pos c (show 0 < many by omega)
        refine ite2 (fun z => ?_) (fun _ => ?_)
        · have hc0 : (10 : Int) ^ (18 : Int).toNat ≤ c := of_decide_eq_true z
          have hc1 : 0 ≤ c := by
            have : (0 : Int) ≤ (10 : Int) ^ (18 : Int).toNat := by decide
            omega
          refine ⟨_, rfl, _, rfl, _, _, rfl, rfl, wide_div (b := 100) (by omega) (by omega) (by decide) (by decide), ?_⟩
          refine ⟨_, rfl, r, _, _, 3, rfl, rfl, upd_same, rfl, ?_⟩
          refine ⟨_, rfl, .inl ⟨_, rfl, _, rfl, _, _, rfl, rfl, (by omega), ?_⟩⟩
          exact k _ _ v1 v2 ⟨⟨i + 1, _, c / many, upd_same, by omega, m1, m2, Int.ediv_nonneg hc1 (by omega)⟩⟩ ((but_upd.trans but_upd).trans but_upd)
        · refine ⟨_, rfl, .inl ⟨_, rfl, _, rfl, _, _, rfl, rfl, (by omega), ?_⟩⟩
          exact k _ _ v1 v2 ⟨⟨i + 1, _, e, upd_same, by omega, m1, m2, he⟩⟩ (but_upd.trans but_upd)
end
end DL

set_option Elab.async false
set_option maxRecDepth 100000
set_option maxHeartbeats 4000000
namespace DL
open PySem L2 HT TL RZ
def spLaw36 (K : PySem.W.Frag) : Sp := fun vs H Q _ => ∃ (a : Addr) (ns : List Int), vs = [.ref a] ∧ SqL K H a (ns.map V.int) ∧ ns.length ≤ 63 ∧ ∀ H', Q (.bl true) H'
theorem strs_map' (sts : List (List Bool)) : (sts.map fun st => V.str (sstr st)) = (sts.map sstr).map V.str := by rw [List.map_map]; rfl
theorem eq_txt {a b : Str} : eqV (.str a) (.str b) = true ↔ a = b := by
  show (a == b) = true ↔ a = b
  rw [beq_dec]
  exact decide_eq_true_iff
section
variable {P : Program} {w : World} {K : PySem.W.Frag} {mg : Str → Option Value} {base : Heap}
abbrev nLaw : List Str := ["_law_script", "_law_row", "_law_d", "_law_cabinet", "_law_divisor", "_law_length", "_law_stands", "_law_table", "_law_standing", "_law_nexts", "_law_line", "_law_drawer", "_law_there"]
theorem scLaw : FnScope nLaw ["_law_script"] (defScope s_law) := ⟨rfl, rfl, rfl, by decide +kernel, rfl, by decide +kernel, by decide +kernel⟩
theorem ok_law {f fT fP fM fF fMv fA fPw fR fO C : Addr} {fd dT dP dM dF dMv dA dPw dR dO : FuncData} (F : Fun K "law" "law" s_law f fd) (T : Bt mg) (zS : mg "sum" = none)
    (GT : FnOk P w K mg base CX0 1 fT dT ["_law_row", "_law_many"] (spTakenW K)) (gT : mg "_law_taken" = some (.ref fT)) (kT : PySem.W.keepIn K (.ref fT) = true) (bT : Binds K dT ["_law_row", "_law_many"] [])
    (GP : FnOk P w K mg base CX0 2 fP dP ["_law_row", "_law_most"] (spParts K)) (gP : mg "_law_parts" = some (.ref fP)) (kP : PySem.W.keepIn K (.ref fP) = true) (bP : Binds K dP ["_law_row", "_law_most"] [])
    (GM : FnOk P w K mg base CX0 7 fM dM ["_law_d"] (spMade C)) (gM : mg "_law_made" = some (.ref fM)) (kM : PySem.W.keepIn K (.ref fM) = true) (bM : Binds K dM ["_law_d"] [])
    (GF : FnOk P w K mg base CX0 2 fF dF ["_law_d", "_law_standing"] spLawFree) (gF : mg "_law_free" = some (.ref fF)) (kF : PySem.W.keepIn K (.ref fF) = true) (bF : Binds K dF ["_law_d", "_law_standing"] [])
    (GMv : FnOk P w K mg base CX0 1 fMv dMv ["_law_standing", "_law_drawer"] spMoved) (gMv : mg "_law_moved" = some (.ref fMv)) (kMv : PySem.W.keepIn K (.ref fMv) = true) (bMv : Binds K dMv ["_law_standing", "_law_drawer"] [])
    (GA : FnOk P w K mg base CX0 1 fA dA ["_law_many"] spLawAllW) (gA : mg "_law_all" = some (.ref fA)) (kA : PySem.W.keepIn K (.ref fA) = true) (bA : Binds K dA ["_law_many"] [])
    (GPw : FnOk P w K mg base CX0 2 fPw dPw ["_law_table", "_law_length", "_law_divisor"] spPower) (gPw : mg "_law_power" = some (.ref fPw)) (kPw : PySem.W.keepIn K (.ref fPw) = true) (bPw : Binds K dPw ["_law_table", "_law_length", "_law_divisor"] [])
    (GR : FnOk P w K mg base CX0 18 fR dR ["cabinet", "length"] (spCtRows C)) (gR : mg "count_rows" = some (.ref fR)) (kR : PySem.W.keepIn K (.ref fR) = true) (bR : Binds K dR ["cabinet", "length"] [])
    (GO : FnOk P w K mg base CX0 16 fO dO ["cabinet", "length", "divisor"] (spRest C)) (gO : mg "count_rest" = some (.ref fO)) (kO : PySem.W.keepIn K (.ref fO) = true) (bO : Binds K dO ["cabinet", "length", "divisor"] []) :
    FnOk P w K mg base CX0 20 f fd ["_law_script"] (spLaw36 K) := by
  refine F.ok scLaw (fun vs H Q E h => ?_) (fun cdv A outer s H vs Q E hr h => ?_)
  · obtain ⟨a, ns, rfl, _⟩ := h
    rfl
  · obtain ⟨a, ns, rfl, hS, hlen, k⟩ := h
    refine ⟨_, pss_cons (ps_set (i := 1) scLaw.nd rfl (Or.inl rfl) (pe_lst (pa_cons (pv 0) (pa_cons pe_int (pa_cons pe_int (pa_cons pe_int pa_nil))))))
      (pss_cons (ps_set (i := 2) scLaw.nd rfl (Or.inl rfl) (pe_call GP (hr.mono (by decide)) rfl gP kP bP .nil pass0 (pa_cons (pv 1) (pa_cons (pe_ix ix_list (pe_lst (pa_cons pe_int (pa_cons pe_int (pa_cons pe_int pa_nil)))) (pe_call GT (hr.mono (by decide)) rfl gT kT bT .nil pass0 (pa_cons (pv 1) (pa_cons pe_int pa_nil))) (fun _ _ => rfl)) pa_nil))))
      (pss_cons (ps_par (i := 3) (j := 4) (by rfl) scLaw.nd rfl rfl (by decide) rfl rfl (pa_cons (pe_call GM (hr.mono (by decide)) rfl gM kM bM .nil pass0 (pa_cons (pv 2) pa_nil)) (pa_cons (pe_op op_add pe_int (pe_call GT (hr.mono (by decide)) rfl gT kT bT .nil pass0 (pa_cons (pv 1)
          (pa_cons (pe_ix ix_list (pe_lst (pa_cons pe_int (pa_cons pe_int (pa_cons (pe_op op_pow pe_int pe_int) pa_nil)))) (pe_call GT (hr.mono (by decide)) rfl gT kT bT .nil pass0 (pa_cons (pv 1) (pa_cons pe_int pa_nil))) (fun _ _ => rfl)) pa_nil)))) pa_nil)) (by rfl))
      (pss_cons (ps_set (i := 5) scLaw.nd rfl (Or.inl rfl) (pe_call GT (hr.mono (by decide)) rfl gT kT bT .nil pass0 (pa_cons (pv 1) (pa_cons pe_int pa_nil))))
      (pss_cons (ps_if (pt_cmpR op_ne (pe_call GO (hr.mono (by decide)) rfl gO kO bO .nil pass0 (pa_cons (pv 3) (pa_cons (pv 5) (pa_cons (pv 4) pa_nil)))) (pe_op op_mod (pe_call GR (hr.mono (by decide)) rfl gR kR bR .nil pass0 (pa_cons (pv 3) (pa_cons (pv 5) pa_nil))) (pv 4)) (nomark _)) (pss_one (ps_ret pe_bl)) pss_nil)
      (pss_cons (ps_par (i := 6) (j := 7) (by rfl) scLaw.nd rfl rfl (by decide) rfl rfl (pa_cons (pe_call GA (hr.mono (by decide)) rfl gA kA bA .nil pass0 (pa_cons (pe_ix ix_list (pv 2) pe_int (fun _ _ => rfl)) pa_nil)) (pa_cons (pe_lst pa_nil) pa_nil)) (by rfl))
      (pss_cons (ps_for PassesOwn.never rfl (pi_list (pv 6)) (pg_name (i := 8) scLaw.nd rfl (Or.inr rfl))
        (pss_cons (ps_set (i := 9) scLaw.nd rfl (Or.inr rfl) (pe_lc (own := [("_law_drawer", 11)]) (g := gName 11) (tt := tYes) (by rfl) scLaw.nd (pi_list (pe_call GF (hr.mono (by decide)) rfl gF kF bF .nil pass0 (pa_cons (pv 2) (pa_cons (pv 8) pa_nil)))) (blkOk_by (N := nLaw) (sc := defScope s_law) (by decide +kernel)) (fun _ _ _ _ _ => pg_name (i := 11) scLaw.nd rfl (Or.inl rfl)) (fun _ _ _ _ _ => pts_nil)
          (fun _ _ _ _ _ => pe_call GMv (hr.mono (by decide)) rfl gMv kMv bMv .nil pass0 (pa_cons (pv 8) (pa_cons (pv 11) pa_nil)))))
        (pss_one (ps_expr (pe_bm PySem.F.plainAttrs_list PySem.F.slot_list_append PySem.F.type_list_append mt_append (pv 7) (pa_cons
          (pe_lc (own := [("_law_there", 12)]) (g := gName 12) (tt := tYes) (by rfl) scLaw.nd (pi_list (pv 6)) (blkOk_by (N := nLaw) (sc := defScope s_law) (by decide +kernel)) (fun _ _ _ _ _ => pg_name (i := 12) scLaw.nd rfl (Or.inl rfl)) (fun _ _ _ _ _ => pts_nil)
            (fun _ _ _ _ _ => pe_bmK (K := K) rfl PySem.F.plainAttrs_list PySem.F.slot_list_count PySem.F.type_list_count (mt_countSK (K := K) rfl) (pv 9) (pa_cons (pv 12) pa_nil))) pa_nil))))))
      (pss_cons (ps_set (i := 5) scLaw.nd rfl (Or.inl rfl) (pe_lst (pa_cons (pe_op op_pow pe_int pe_int) (pa_cons (pe_op op_sub (pe_op op_pow pe_int pe_int) (pe_call GT (hr.mono (by decide)) rfl gT kT bT .nil pass0 (pa_cons (pv 1) (pa_cons (pe_op op_pow pe_int pe_int) pa_nil))))
          (pa_cons (pe_call GT (hr.mono (by decide)) rfl gT kT bT .nil pass0 (pa_cons (pv 1) (pa_cons (pe_op op_add (pe_op op_pow pe_int pe_int) pe_int) pa_nil))) (pa_cons (pe_call GT (hr.mono (by decide)) rfl gT kT bT .nil pass0 (pa_cons (pv 1) (pa_cons (pe_op op_pow pe_int pe_int) pa_nil))) pa_nil))))))
      (pss_cons (ps_set (i := 5) scLaw.nd rfl (Or.inl rfl) (pe_ix ix_list (pv 5) (pe_call GT (hr.mono (by decide)) rfl gT kT bT .nil pass0 (pa_cons (pv 1) (pa_cons pe_int pa_nil))) (fun _ _ => rfl)))
      (C8.pss_cut (ps_if (pt_cmpR op_gt (pe_ix ix_list (pv 2) pe_int (fun _ _ => rfl)) pe_int (nomark _)) (pss_one (ps_set (i := 5) scLaw.nd rfl (Or.inl rfl) (pe_op op_fdivW (pv 5) (pe_op op_pow pe_int pe_int)))) pss_nil)
      (pss_cons (ps_set (i := 10) scLaw.nd rfl (Or.inl rfl) (pe_ix ix_list (pe_call GPw (hr.mono (by decide)) rfl gPw kPw bPw .nil pass0 (pa_cons (pv 7) (pa_cons (pv 5) (pa_cons (pv 4) pa_nil)))) (pe_bm PySem.F.plainAttrs_list PySem.F.slot_list_index PySem.F.type_list_index mt_index (pv 6) (pa_cons (pe_op op_mul_str pe_str (pe_ix ix_list (pv 2) pe_int (fun _ _ => rfl))) pa_nil)) (fun _ _ => rfl)))
      (pss_one (ps_ret (pe_cmpR op_eq (pe_call GO (hr.mono (by decide)) rfl gO kO bO .nil pass0 (pa_cons (pv 3) (pa_cons (pv 5) (pa_cons (pv 4) pa_nil)))) (pe_op op_mod (pe_callB (cr_sum rfl) (by rfl) zS sum_boot (pa_cons (pv 10) pa_nil)) (pv 4)) (nomark _)))))))))))))), ?_⟩
    refine ⟨_, rfl, (by show 4 ≤ sizeLine; decide), fun r hr0 => ?_⟩
    have R0 : RowOk (upd H r (.lst [.ref a, .int 0, .int 936, .int 0])) r a := ⟨⟨0, 936, 0, upd_same, by decide, by decide, by decide, by decide⟩⟩
    have S0 : SqL K (upd H r (.lst [.ref a, .int 0, .int 936, .int 0])) a (ns.map V.int) := (same_upd hr0).seq hS
    generalize (upd H r (.lst [.ref a, .int 0, .int 936, .int 0])) = H0 at R0 S0 ⊢
    refine ⟨_, rfl, (by show 3 ≤ sizeLine; decide), fun l hl => ?_⟩
    have sl := same_upd (o := .lst [.int 2, .int 3, .int 4]) hl
    have nlr : l ≠ r := by
      obtain ⟨_, _, _, q, _⟩ := id R0.h
      exact (ne_of_none q hl).symm
    refine ⟨_, rfl, ⟨⟨r, a, ns, 3, rfl, R0.same sl, sl.seq S0, by decide, by decide, fun v H1 v0 v1 R1 B1 => ?_⟩⟩⟩
    have hm : ∃ m : Int, atI [V.int 2, V.int 3, V.int 4] v = some (.int m) ∧ 1 ≤ m ∧ m ≤ 4 := by
      have : v = 0 ∨ v = 1 ∨ v = 2 := by omega
      rcases this with rfl | rfl | rfl
      · exact ⟨2, rfl, by decide, by decide⟩
      · exact ⟨3, rfl, by decide, by decide⟩
      · exact ⟨4, rfl, by decide, by decide⟩
    obtain ⟨m, hm, m1, m4⟩ := hm
    have B01 : But r H0 H1 := (sbut sl).trans B1
    refine ⟨l, _, v, .int m, rfl, rfl, SqL.of (B1 _ _ nlr upd_same), hm, ?_⟩
    refine ⟨⟨r, a, ns, m, rfl, R1, B01.seqR R0 S0, m1, by omega, fun p t n ks0 H2 hp0 ht0 n1 nm hp hB O h13 R2 B2 => ?_⟩⟩
    obtain ⟨N, rfl⟩ : ∃ N : Nat, n = N := ⟨n.toNat, by omega⟩
    refine ⟨_, rfl, ⟨⟨p, t, N, ks0, [], rfl, hp, n1, by omega, hB, O, fun c H3 hc0 hcab s3 => ?_⟩⟩⟩
    have R3 := R2.same s3
    have S3 : SqL K H3 a (ns.map V.int) := ((B01.trans B2).trans (sbut s3)).seqR R0 S0
    have L3 : Lay C r p c H3 N (ks0.map (·.2)) := Lay.mk' R1 hp0 (s3 _ _ hp) hcab hB s3 O n1 (by omega) h13
    generalize (ks0.map (·.2)) = bs at L3
    clear hp hB O h13 hcab hc0 ht0 hp0 R2 B2 R1 B1 B01 sl nlr hl
    have SC : ∀ {H'}, But r H3 H' → SqL K H' a (ns.map V.int) := fun B => B.seqR R3 S3
    have LC : ∀ {H'}, But r H3 H' → Lay C r p c H' N bs := fun B => L3.but R3 B
    have n4 : N ≤ 4 := by omega
    have hshut : (shutS N).length = N := List.length_replicate
    refine ⟨_, rfl, _, _, rfl, rfl, ⟨by decide, by decide, by decide⟩, (by show 3 ≤ sizeLine; decide), fun l2 nl2 => ?_⟩
    obtain ⟨s4, f4⟩ := new_at (o := .lst [V.int 9, .int 1000, .int ((10 : Int) ^ (9 : Int).toNat)]) nl2
    have nl2r : l2 ≠ r := by
      obtain ⟨_, _, _, q, _⟩ := id R3.h
      exact (ne_of_none q nl2).symm
    generalize upd H3 l2 (.lst [V.int 9, .int 1000, .int ((10 : Int) ^ (9 : Int).toNat)]) = H4 at s4 f4 ⊢
    refine ⟨_, rfl, ⟨⟨r, a, ns, 3, rfl, R3.same s4, SC (sbut s4), by decide, by decide, fun y H5 y0 y3 R5 B45 => ?_⟩⟩⟩
    have hq : ∃ q : Int, atI [V.int 9, V.int 1000, V.int ((10 : Int) ^ (9 : Int).toNat)] y = some (.int q) ∧ 1 ≤ q ∧ q ≤ 10 ^ 9 := by
      have : y = 0 ∨ y = 1 ∨ y = 2 := by omega
      rcases this with rfl | rfl | rfl
      · exact ⟨9, rfl, by decide, by decide⟩
      · exact ⟨1000, rfl, by decide, by decide⟩
      · exact ⟨_, rfl, by decide, by decide⟩
    obtain ⟨q, hq, q1, q9⟩ := hq
    have B5 := (sbut (r := r) s4).trans B45
    refine ⟨l2, _, y, .int q, rfl, rfl, SqL.of (B45 _ _ nl2r f4), hq, ?_⟩
    refine ⟨⟨r, a, ns, q, rfl, R5, SC B5, q1, by omega, fun z H6 z0 zq R6 B56 => ?_⟩⟩
    have B6 := B5.trans B56
    refine ⟨_, _, rfl, rfl, ?_⟩
    refine ⟨_, _, rfl, ?_⟩
    show _
    obtain ⟨d, ed, d1, d9⟩ : ∃ d : Int, d = 1 + z ∧ 1 ≤ d ∧ d ≤ 10 ^ 9 := ⟨_, rfl, by omega, by omega⟩
    simp only [← ed]
    refine ⟨_, rfl, ⟨⟨r, a, ns, 61, rfl, R6, SC B6, by decide, by decide, fun t1 H7 t0 t61 R7 B67 => ?_⟩⟩⟩
    obtain ⟨tn, rfl⟩ : ∃ tn : Nat, t1 = tn := ⟨t1.toNat, by omega⟩
    have B7 := B6.trans B67
    refine ⟨_, rfl, _, rfl, _, rfl, ⟨⟨c, bs, N, tn, d, rfl, (LC B7).cab, n4, by omega, d1, d9, fun H8 s8 => ?_⟩⟩⟩
    have B8 := B7.trans (sbut s8)
    refine ⟨_, rfl, _, rfl, ⟨⟨c, bs, N, tn, rfl, (LC B8).cab, by omega, fun H9 s9 => ?_⟩⟩⟩
    have B9 := B8.trans (sbut s9)
    have R9 := (R7.same s8).same s9
    refine ⟨_, rfl, _, _, rfl, rfl, by show 0 < d; omega, ?_⟩
    refine ⟨rfl, _, rfl, iteNS rfl ?_⟩
    obtain ⟨xs9, hx9, hx9'⟩ := (LC B9).at0 K
    refine ⟨_, rfl, p, _, 0, .int N, rfl, rfl, hx9, hx9', ⟨⟨N, rfl, by omega, fun sp ss Ha nsp sa hperm hsp few => ?_⟩⟩⟩
    refine ⟨(by show 0 ≤ sizeLine; decide), fun tb ntb => ?_⟩
    obtain ⟨sb, fb⟩ := new_at (o := .lst []) ntb
    generalize upd Ha tb (.lst []) = Hb at sb fb ⊢
    refine ⟨_, _, rfl, ?_⟩
    have Bb := (B9.trans (sbut sa)).trans (sbut sb)
    have Rb := (R9.same sa).same sb
    have hspb := sb _ _ hsp
    have ntr : r ≠ tb := by
      obtain ⟨_, _, _, q, _⟩ := id (R9.same sa).h
      exact ne_of_none q ntb
    have nts : sp ≠ tb := ne_of_none hsp ntb
    have nt3 : H3 tb = none := by
      obtain ⟨_, _, _, q, _⟩ := id (R9.same sa).h
      have B := B9.trans (sbut (r := r) sa)
      cases e : H3 tb with
      | none => rfl
      | some u =>
        rw [B _ _ ntr.symm e] at ntb
        cases ntb
    have SH : Shut bs ss := ⟨hperm.symm.nodup_iff.mp (allT_nodup N), fun st hst dd hdd => hperm.mem_iff.mpr ((allT_mem N _).mpr (by rw [flip_len]; exact (allT_mem N st).mp (hperm.mem_iff.mp hst))), by omega⟩
    have hl : ∀ st ∈ ss, st.length = N := fun st h => (allT_mem N st).mp (hperm.mem_iff.mp h)
    have shin : shutS N ∈ ss := hperm.mem_iff.mpr ((allT_mem N _).mpr hshut)
    clear hx9 hx9' xs9 sa sb nsp hsp ntb Ha R9 B9 s9 s8 B8 H8 H9 R7 B7 B67 H7 R6 B6 B56 H6 B5 R5 B45 hq f4 s4 nl2r nl2 H5 H4 hm S3
    have RR : ∀ {H'}, But tb Hb H' → RowOk H' r a := fun {H'} B => by
      obtain ⟨i', m', e', q1, q2⟩ := Rb.h
      exact ⟨⟨i', m', e', B _ _ ntr q1, q2⟩⟩
    have BB : ∀ {H'}, But tb Hb H' → But r H3 H' := fun {H'} B b o hb e => B b o (ne_of_none e nt3) (Bb b o hb e)
    refine ⟨_, rfl, sp, rfl, ⟨_, SqL.of hspb⟩, ?_⟩
    refine for_list (K := K) (a := sp) (xs := ss.map fun st => V.str (sstr st)) (fun j σ H' => ∃ (ms : List MRow) (v8 v9 v10 v11 v12 : Option V), σ = [some (.ref a), some (.ref r), some (.ref p), some (.ref c), some (.int d), some (.int tn), some (.ref sp), some (.ref tb), v8, v9, v10, v11, v12] ∧ But tb Hb H' ∧ H' tb = some (.lst (refM ms)) ∧ (∀ p ∈ ms, p.1 ≠ tb ∧ H' p.1 = some (.lst (p.2.map V.int))) ∧ ms.map (·.2) = (ss.take j).map fun s => ss.map fun b => (((nextL bs s).count b : Nat) : Int))
      ⟨[], _, _, _, _, _, rfl, But.refl _ _, fb, fun p hp => (by cases hp), rfl⟩ (fun j σ H' _ ⟨_, _, _, _, _, _, _, B, _⟩ => SqL.of (B _ _ nts hspb)) ?_ ?_
    · rintro j x σ J1 hx ⟨ms, v8, v9, v10, v11, v12, rfl, B1, ht, hel, em⟩
      rw [List.getElem?_map] at hx
      cases es : ss[j]? with
      | none => rw [es] at hx; cases hx
      | some st =>
        rw [es] at hx
        cases hx
        obtain ⟨hjl, ej⟩ := List.getElem?_eq_some_iff.mp es
        have hst := hl st (List.mem_of_getElem? es)
        have hfl := free_len bs st
        refine ⟨_, rfl, _, rfl, ⟨⟨p, bs, st, rfl, by rw [hst]; exact (LC (BB B1)).dr, fun q J2 hq s2 h2 => ?_⟩⟩⟩
        refine ⟨q, rfl, ⟨_, SqL.of h2⟩, fun D hD => ?_⟩
        refine lc_pick (walk_lst (K := K) (a := q) (l := freeL bs st) (f := V.int)) (freeL bs st) rfl (by omega) (fun _ => true) (fun dd => V.str (sstr (flip st dd))) hD (fun H' s => s.seq (SqL.of h2)) ?_ ?_
        · rintro m x z J6 J6' Tk Nk ez s6 ⟨rfl, z', ez', rfl⟩ kT kF
          rw [ez] at ez'
          cases ez'
          obtain ⟨⟨d0, d1'⟩, _⟩ := free_mem.mp (List.mem_of_getElem? ez)
          refine ⟨rfl, tYes_of (iteT ?_)⟩
          exact ⟨_, rfl, _, rfl, ⟨⟨st, z, rfl, by omega, d0, d1', fun H7 s7 => kT H7 rfl s7⟩⟩⟩
        · intro J3 s3' hD3
          rw [List.filter_eq_self.mpr fun _ _ => rfl] at hD3
          have hD3' : J3 D = some (.lst (((nextL bs st).map sstr).map V.str)) := by
            rw [hD3]
            unfold nextL
            rw [List.map_map, List.map_map]
            rfl
          have s13 := s2.trans s3'
          have ht3 := s13 _ _ ht
          have hsp3 := s13 _ _ (B1 _ _ nts hspb)
          refine ⟨_, rfl, .inl ⟨rfl, _, SqL.of ht3⟩, ?_⟩
          refine ⟨_, rfl, sp, rfl, ⟨_, SqL.of hsp3⟩, fun D2 hD2 => ?_⟩
          refine lc_pick (walk_lst (K := K) (a := sp) (l := ss) (f := fun st => V.str (sstr st))) ss rfl (by omega) (fun _ => true) (fun b => .int (((nextL bs st).count b : Nat) : Int)) hD2 (fun H' s => s.seq (SqL.of hsp3)) ?_ ?_
          · rintro m x y J4 J4' Tk Nk ez s4 ⟨rfl, z', ez', rfl⟩ kT kF
            rw [ez] at ez'
            cases ez'
            refine ⟨rfl, tYes_of (iteT ?_)⟩
            have kk := kT _ rfl (Same.refl _)
            rw [← count_txt] at kk
            exact ⟨_, rfl, .inl ⟨rfl, _, SqL.of (s4 _ _ hD3')⟩, _, rfl, D, _, sstr y, rfl, rfl, SqL.of (s4 _ _ hD3'), kk⟩
          · intro J5 s5 hD5
            rw [List.filter_eq_self.mpr fun _ _ => rfl] at hD5
            have s15 := s13.trans s5
            have ht5 := s15 _ _ ht
            have lms : ms.length = j := by
              have := congrArg List.length em
              rw [List.length_map, List.length_map, List.length_take] at this
              omega
            have nD2 : D2 ≠ tb := (ne_of_none ht3 hD2).symm
            refine ⟨tb, _, _, rfl, rfl, ht5, by unfold refM; rw [List.length_map]; exact small1000 (by omega), ?_⟩
            refine ⟨ms ++ [(D2, ss.map fun b => (((nextL bs st).count b : Nat) : Int))], _, _, _, _, _, rfl, fun b o hb e => ?_, ?_, fun u hu => ?_, ?_⟩
            · rw [upd_ne hb]
              exact s15 _ _ (B1 b o hb e)
            · rw [upd_same]
              unfold refM
              rw [List.map_append]
              rfl
            · rcases List.mem_append.mp hu with h | h
              · obtain ⟨h1, h2'⟩ := hel u h
                exact ⟨h1, by rw [upd_ne h1]; exact s15 _ _ h2'⟩
              · rw [List.mem_singleton.mp h]
                exact ⟨nD2, by rw [upd_ne nD2, hD5, List.map_map]; rfl⟩
            · rw [List.map_append, em, List.take_succ_eq_append_getElem hjl, List.map_append, ej]
              rfl
    · rintro σ J1 ⟨ms, v8, v9, v10, v11, v12, rfl, B1, ht, hel, em⟩
      rw [List.length_map, List.take_length] at em
      have M1 : MatAt J1 tb ms := ⟨ht, fun p hp => (hel p hp).2⟩
      have O0 : WayOk bs ss d 1 fun s b => (((nextL bs s).count b : Nat) : Int) := by
        refine ⟨fun s hs b hb => ⟨by omega, ?_⟩, fun s hs b hb => ?_⟩
        · have h1 : (nextL bs s).count b ≤ (nextL bs s).length := List.count_le_length
          have h2 : (nextL bs s).length = (freeL bs s).length := List.length_map ..
          have h3 := free_len bs s
          have h4 := hl s hs
          have h5 : (((nextL bs s).count b : Nat) : Int) ≤ 7 := by omega
          exact Int.lt_of_le_of_lt h5 (by decide)
        · show (((nextL bs s).count b : Nat) : Int) % d = (([s].flatMap (nextL bs)).count b : Nat) % d
          rw [List.flatMap_singleton]
      have R1 := RR B1
      have BB1 := BB B1
      have hsp1 := B1 _ _ nts hspb
      obtain ⟨_, _, _, hRr, _⟩ := id R1.h
      have keepM : ∀ {H' : Hp}, But r J1 H' → MatAt H' tb ms ∧ H' sp = some (.lst (ss.map fun st => V.str (sstr st))) := fun {H'} B => by
        refine ⟨⟨B _ _ ntr.symm ht, fun u hu => B _ _ (ne_of (M1.el u hu) hRr fun z => ?_) (M1.el u hu)⟩, B _ _ (ne_of hsp1 hRr fun z => ?_) hsp1⟩
        · injection z with z
          cases e : u.2 with
          | nil => rw [e] at z; cases z
          | cons x l => rw [e] at z; cases z
        · injection z with z
          cases ss with
          | nil => cases z
          | cons x l => cases z
      refine ⟨_, _, rfl, rfl, ⟨by decide, by decide, by decide⟩, ?_⟩
      refine ⟨_, _, rfl, rfl, ⟨by decide, by decide, by decide⟩, ?_⟩
      refine ⟨_, rfl, _, _, rfl, rfl, ⟨by decide, by decide, by decide⟩, ⟨⟨r, a, ns, _, rfl, R1, SC BB1, by decide, by decide, fun u1 J2 a0 a1 R2 B2 => ?_⟩⟩⟩
      refine ⟨_, _, rfl, rfl, ?_⟩
      have BB2 := BB1.trans B2
      refine ⟨_, rfl, _, _, rfl, rfl, ⟨by decide, by decide, by decide⟩, _, _, rfl, rfl, ⟨⟨r, a, ns, _, rfl, R2, SC BB2, by decide, by decide, fun u2 J3 b0 b1 R3' B3 => ?_⟩⟩⟩
      have BB3 := BB2.trans B3
      refine ⟨_, rfl, _, _, rfl, rfl, ⟨by decide, by decide, by decide⟩, ⟨⟨r, a, ns, _, rfl, R3', SC BB3, by decide, by decide, fun u3 J4 c0 c1 R4 B4 => ?_⟩⟩⟩
      have BB4 := BB3.trans B4
      refine ⟨(by show 4 ≤ sizeLine; decide), fun l4 nl4 => ?_⟩
      obtain ⟨s5, f5⟩ := new_at (o := .lst [V.int ((10 : Int) ^ (30 : Int).toNat), .int ((10 : Int) ^ (30 : Int).toNat - u1), .int u2, .int u3]) nl4
      have n4r : l4 ≠ r := by
        obtain ⟨_, _, _, q, _⟩ := id R4.h
        exact (ne_of_none q nl4).symm
      generalize upd J4 l4 (.lst [V.int ((10 : Int) ^ (30 : Int).toNat), .int ((10 : Int) ^ (30 : Int).toNat - u1), .int u2, .int u3]) = J5 at s5 f5 ⊢
      refine ⟨_, rfl, _, rfl, ⟨⟨r, a, ns, 4, rfl, R4.same s5, SC (BB4.trans (sbut s5)), by decide, by decide, fun y J6 y0 y4 R6 B6 => ?_⟩⟩⟩
      have hT : ∃ T : Int, atI [V.int ((10 : Int) ^ (30 : Int).toNat), .int ((10 : Int) ^ (30 : Int).toNat - u1), .int u2, .int u3] y = some (.int T) ∧ 0 ≤ T ∧ T ≤ 10 ^ 30 := by
        have e30 : ((10 : Int) ^ (30 : Int).toNat) = 1000000000000000000000000000000 := by decide
        have e6 : ((10 : Int) ^ (6 : Int).toNat) = 1000000 := by decide
        rw [e30] at b1 ⊢
        rw [e6] at a1 c1
        have : y = 0 ∨ y = 1 ∨ y = 2 ∨ y = 3 := by omega
        rcases this with rfl | rfl | rfl | rfl
        · exact ⟨_, rfl, by decide, by decide⟩
        · exact ⟨_, rfl, by omega, by omega⟩
        · exact ⟨_, rfl, by omega, by omega⟩
        · exact ⟨_, rfl, by omega, by omega⟩
      obtain ⟨T, hT, T0, T30⟩ := hT
      refine ⟨l4, _, y, .int T, rfl, rfl, SqL.of (B6 _ _ n4r f5), hT, ?_⟩
      have BJ6 : But r J1 J6 := (((B2.trans B3).trans B4).trans (sbut s5)).trans B6
      have BB6 := BB1.trans BJ6
      refine ⟨fun σ' H' => ∃ (T : Int) (v8 v9 v10 v11 v12 : Option V), σ' = [some (.ref a), some (.ref r), some (.ref p), some (.ref c), some (.int d), some (.int T), some (.ref sp), some (.ref tb), v8, v9, v10, v11, v12] ∧ H' = J6 ∧ 0 ≤ T ∧ T ≤ 10 ^ 30, ?_, ?_⟩
      · obtain ⟨xs6, hx6, hx6'⟩ := (LC BB6).at0 K
        refine ⟨_, rfl, p, _, 0, .int N, rfl, rfl, hx6, hx6', _, _, rfl, rfl, _, rfl, ite2 (fun _ => ?_) (fun _ => ?_)⟩
        · have e20 : ((10 : Int) ^ (20 : Int).toNat) = 100000000000000000000 := by decide
          refine ⟨_, rfl, _, _, rfl, rfl, ⟨by decide, by decide, by decide⟩, _, _, rfl, rfl, wide_div (b := 100) (by rw [e20]; decide) (by rw [e20]; decide) (by decide) (by decide), ?_⟩
          refine ⟨_, _, _, _, _, _, rfl, rfl, ?_, ?_⟩
          · rw [e20]
            omega
          · rw [e20]
            omega
        · exact ⟨T, _, _, _, _, _, rfl, rfl, T0, T30⟩
      · clear hT T0 T30 T
        rintro σ J7 ⟨T, v8, v9, v10, v11, v12, rfl, rfl, T0, T30⟩
        obtain ⟨Tn, rfl⟩ : ∃ Tn : Nat, T = Tn := ⟨T.toNat, by omega⟩
        have Tn30 : Tn ≤ 10 ^ 30 := by exact_mod_cast T30
        obtain ⟨M6, hsp6⟩ := keepM BJ6
        refine ⟨_, rfl, _, rfl, _, rfl, ⟨⟨tb, Tn, d, bs, ms, ss, _, rfl, d1, d9, Tn30, SH, M6, em, O0, fun w' ms' W' J8 s8 M8 e8 O8 => ?_⟩⟩⟩
        have BB8 := BB6.trans (sbut s8)
        have hsp8 := s8 _ _ hsp6
        obtain ⟨xs8, hx8, hx8'⟩ := (LC BB8).at0 K
        refine ⟨_, rfl, .inl ⟨rfl, _, SqL.of hsp8⟩, ?_⟩
        refine ⟨_, rfl, p, _, 0, .int N, rfl, rfl, hx8, hx8', "s", (N : Int), rfl, rfl, mulOk_one (by decide +kernel) (by omega) (by omega), ?_⟩
        rw [mul_shut (by omega) (by omega)]
        obtain ⟨j, hj⟩ := List.getElem?_of_mem shin
        have hflat : (ss.map fun st => V.str (sstr st)).all flatV = true := by
          rw [strs_map']
          exact flat_strs _
        refine ⟨sp, _, _, j, .str (sstr (shutS N)), rfl, rfl, SqL.of hsp8, rfl, hflat, by rw [List.getElem?_map, hj]; rfl, eq_txt.mpr rfl, fun m z' hmj hz => ?_, ?_⟩
        · rw [List.getElem?_map] at hz
          cases eu : ss[m]? with
          | none => rw [eu] at hz; cases hz
          | some u =>
            rw [eu] at hz
            cases hz
            refine Bool.eq_false_iff.mpr fun h => ?_
            have h2 := sstr_inj (eq_txt.mp h)
            rw [h2] at eu
            obtain ⟨a1, a2⟩ := List.getElem?_eq_some_iff.mp hj
            obtain ⟨b1', b2'⟩ := List.getElem?_eq_some_iff.mp eu
            have := (List.getElem_inj SH.nd).mp (b2'.trans a2.symm)
            omega
        · have lm := tab_mlen e8
          obtain ⟨row, hrow⟩ : ∃ row, ms'[j]? = some row := ⟨_, List.getElem?_eq_getElem (by rw [lm]; exact (List.getElem?_eq_some_iff.mp hj).1)⟩
          obtain ⟨st, est, erow⟩ := tab_row e8 hrow
          rw [hj] at est
          cases est
          refine ⟨w', _, _, .ref row.1, rfl, rfl, SqL.of M8.at', atI_nat (by unfold refM; rw [List.getElem?_map, hrow]; rfl), ?_⟩
          have hr8 := M8.el row (List.mem_of_getElem? hrow)
          refine ⟨_, rfl, _, rfl, _, rfl, ⟨⟨c, bs, N, Tn, d, rfl, (LC BB8).cab, n4, Tn30, d1, d9, fun J9 s9 => ?_⟩⟩⟩
          refine ⟨_, rfl, row.1, row.2, rfl, SqL.of (s9 _ _ hr8), ?_⟩
          refine ⟨_, rfl, _, _, rfl, rfl, by show 0 < d; omega, ?_⟩
          have es : row.2.sum % d = (((lvl bs N Tn).length : Nat) : Int) % d := by
            rw [erow, sum_mod ss _ (fun x => (lvlF bs (shutS N) Tn).count x) d fun x hx => O8.eq _ shin x hx]
            have := nSum_count ss SH.nd (fun _ => 1) (lvlF bs (shutS N) Tn) (lvlF_in SH.ex shin Tn)
            simp only [Nat.mul_one] at this
            rw [this, len_sum, lvl_F]
          refine ⟨rfl, ?_⟩
          show Q (.bl (decide (V.int ((((lvl bs N Tn).length : Nat) : Int) % d) = V.int (row.2.sum % d)))) J9
          rw [es, decide_eq_true rfl]
          exact k _
end
end DL

set_option Elab.async false
set_option maxRecDepth 100000
set_option maxHeartbeats 8000000
namespace DL
open PySem L2 HT TL
/-! ### what the top has written -/
theorem all_mk {l : PySem.W.OpenLaw} {w : World} {K : PySem.W.Frag} {h : Heap} {mg : Str → Option Value} {fa : Addr} (X : K.In h) (G : h.Ns mainGlobals mg) (hfa : mg "law" = some (.ref fa))
    {f_is_integer : Addr} {od_is_integer an_is_integer : Option Addr} {sl_is_integer : Array (Option Value)} {oc_is_integer kV_is_integer dc_is_integer pm_is_integer cd_is_integer ct_is_integer : Value}
    {f_is_drawer_count : Addr} {od_is_drawer_count an_is_drawer_count : Option Addr} {sl_is_drawer_count : Array (Option Value)} {oc_is_drawer_count kV_is_drawer_count dc_is_drawer_count pm_is_drawer_count cd_is_drawer_count ct_is_drawer_count : Value}
    {f_is_drawer : Addr} {od_is_drawer an_is_drawer : Option Addr} {sl_is_drawer : Array (Option Value)} {oc_is_drawer kV_is_drawer dc_is_drawer pm_is_drawer cd_is_drawer ct_is_drawer : Value}
    {f_is_bar : Addr} {od_is_bar an_is_bar : Option Addr} {sl_is_bar : Array (Option Value)} {oc_is_bar kV_is_bar dc_is_bar pm_is_bar cd_is_bar ct_is_bar : Value}
    {f_check_drawers : Addr} {od_check_drawers an_check_drawers : Option Addr} {sl_check_drawers : Array (Option Value)} {oc_check_drawers kV_check_drawers dc_check_drawers pm_check_drawers cd_check_drawers ct_check_drawers : Value}
    {f_check_bars : Addr} {od_check_bars an_check_bars : Option Addr} {sl_check_bars : Array (Option Value)} {oc_check_bars kV_check_bars dc_check_bars pm_check_bars cd_check_bars ct_check_bars : Value}
    {f__law_taken : Addr} {od__law_taken an__law_taken : Option Addr} {sl__law_taken : Array (Option Value)} {oc__law_taken kV__law_taken dc__law_taken pm__law_taken cd__law_taken ct__law_taken : Value}
    {f__law_parts : Addr} {od__law_parts an__law_parts : Option Addr} {sl__law_parts : Array (Option Value)} {oc__law_parts kV__law_parts dc__law_parts pm__law_parts cd__law_parts ct__law_parts : Value}
    {f__law_made : Addr} {od__law_made an__law_made : Option Addr} {sl__law_made : Array (Option Value)} {oc__law_made kV__law_made dc__law_made pm__law_made cd__law_made ct__law_made : Value}
    {f_hinders : Addr} {od_hinders an_hinders : Option Addr} {sl_hinders : Array (Option Value)} {oc_hinders kV_hinders dc_hinders pm_hinders cd_hinders ct_hinders : Value}
    {f_moved : Addr} {od_moved an_moved : Option Addr} {sl_moved : Array (Option Value)} {oc_moved kV_moved dc_moved pm_moved cd_moved ct_moved : Value}
    {f_bars_against : Addr} {od_bars_against an_bars_against : Option Addr} {sl_bars_against : Array (Option Value)} {oc_bars_against kV_bars_against dc_bars_against pm_bars_against cd_bars_against ct_bars_against : Value}
    {f_goes : Addr} {od_goes an_goes : Option Addr} {sl_goes : Array (Option Value)} {oc_goes kV_goes dc_goes pm_goes cd_goes ct_goes : Value}
    {f_free_drawers : Addr} {od_free_drawers an_free_drawers : Option Addr} {sl_free_drawers : Array (Option Value)} {oc_free_drawers kV_free_drawers dc_free_drawers pm_free_drawers cd_free_drawers ct_free_drawers : Value}
    {f__law_hold : Addr} {od__law_hold an__law_hold : Option Addr} {sl__law_hold : Array (Option Value)} {oc__law_hold kV__law_hold dc__law_hold pm__law_hold cd__law_hold ct__law_hold : Value}
    {f__law_free : Addr} {od__law_free an__law_free : Option Addr} {sl__law_free : Array (Option Value)} {oc__law_free kV__law_free dc__law_free pm__law_free cd__law_free ct__law_free : Value}
    {f__law_moved : Addr} {od__law_moved an__law_moved : Option Addr} {sl__law_moved : Array (Option Value)} {oc__law_moved kV__law_moved dc__law_moved pm__law_moved cd__law_moved ct__law_moved : Value}
    {f_check_cabinet : Addr} {od_check_cabinet an_check_cabinet : Option Addr} {sl_check_cabinet : Array (Option Value)} {oc_check_cabinet kV_check_cabinet dc_check_cabinet pm_check_cabinet cd_check_cabinet ct_check_cabinet : Value}
    {f_first_standing : Addr} {od_first_standing an_first_standing : Option Addr} {sl_first_standing : Array (Option Value)} {oc_first_standing kV_first_standing dc_first_standing pm_first_standing cd_first_standing ct_first_standing : Value}
    {f_rows_from : Addr} {od_rows_from an_rows_from : Option Addr} {sl_rows_from : Array (Option Value)} {oc_rows_from kV_rows_from dc_rows_from pm_rows_from cd_rows_from ct_rows_from : Value}
    {f_first_rows : Addr} {od_first_rows an_first_rows : Option Addr} {sl_first_rows : Array (Option Value)} {oc_first_rows kV_first_rows dc_first_rows pm_first_rows cd_first_rows ct_first_rows : Value}
    {f__law_all : Addr} {od__law_all an__law_all : Option Addr} {sl__law_all : Array (Option Value)} {oc__law_all kV__law_all dc__law_all pm__law_all cd__law_all ct__law_all : Value}
    {f__law_times : Addr} {od__law_times an__law_times : Option Addr} {sl__law_times : Array (Option Value)} {oc__law_times kV__law_times dc__law_times pm__law_times cd__law_times ct__law_times : Value}
    {f__law_power : Addr} {od__law_power an__law_power : Option Addr} {sl__law_power : Array (Option Value)} {oc__law_power kV__law_power dc__law_power pm__law_power cd__law_power ct__law_power : Value}
    {f_check_number : Addr} {od_check_number an_check_number : Option Addr} {sl_check_number : Array (Option Value)} {oc_check_number kV_check_number dc_check_number pm_check_number cd_check_number ct_check_number : Value}
    {f_check_few_drawers : Addr} {od_check_few_drawers an_check_few_drawers : Option Addr} {sl_check_few_drawers : Array (Option Value)} {oc_check_few_drawers kV_check_few_drawers dc_check_few_drawers pm_check_few_drawers cd_check_few_drawers ct_check_few_drawers : Value}
    {f_reached_pulls : Addr} {od_reached_pulls an_reached_pulls : Option Addr} {sl_reached_pulls : Array (Option Value)} {oc_reached_pulls kV_reached_pulls dc_reached_pulls pm_reached_pulls cd_reached_pulls ct_reached_pulls : Value}
    {f_counts_behind : Addr} {od_counts_behind an_counts_behind : Option Addr} {sl_counts_behind : Array (Option Value)} {oc_counts_behind kV_counts_behind dc_counts_behind pm_counts_behind cd_counts_behind ct_counts_behind : Value}
    {f_counts_by_end : Addr} {od_counts_by_end an_counts_by_end : Option Addr} {sl_counts_by_end : Array (Option Value)} {oc_counts_by_end kV_counts_by_end dc_counts_by_end pm_counts_by_end cd_counts_by_end ct_counts_by_end : Value}
    {f_count_rows : Addr} {od_count_rows an_count_rows : Option Addr} {sl_count_rows : Array (Option Value)} {oc_count_rows kV_count_rows dc_count_rows pm_count_rows cd_count_rows ct_count_rows : Value}
    {f_dot : Addr} {od_dot an_dot : Option Addr} {sl_dot : Array (Option Value)} {oc_dot kV_dot dc_dot pm_dot cd_dot ct_dot : Value}
    {f_doubled : Addr} {od_doubled an_doubled : Option Addr} {sl_doubled : Array (Option Value)} {oc_doubled kV_doubled dc_doubled pm_doubled cd_doubled ct_doubled : Value}
    {f_one_pull_ways : Addr} {od_one_pull_ways an_one_pull_ways : Option Addr} {sl_one_pull_ways : Array (Option Value)} {oc_one_pull_ways kV_one_pull_ways dc_one_pull_ways pm_one_pull_ways cd_one_pull_ways ct_one_pull_ways : Value}
    {f_count_rest : Addr} {od_count_rest an_count_rest : Option Addr} {sl_count_rest : Array (Option Value)} {oc_count_rest kV_count_rest dc_count_rest pm_count_rest cd_count_rest ct_count_rest : Value}
    {f_law : Addr} {od_law an_law : Option Addr} {sl_law : Array (Option Value)} {oc_law kV_law dc_law pm_law cd_law ct_law : Value}
    {C : Addr}
    {f_Cabinet___init__ : Addr} {od_Cabinet___init__ an_Cabinet___init__ : Option Addr} {sl_Cabinet___init__ : Array (Option Value)} {oc_Cabinet___init__ kV_Cabinet___init__ dc_Cabinet___init__ pm_Cabinet___init__ cd_Cabinet___init__ ct_Cabinet___init__ : Value}
    {p_drawers : Addr} {rest_drawers : List Value}
    {f_Cabinet_drawers : Addr} {od_Cabinet_drawers an_Cabinet_drawers : Option Addr} {sl_Cabinet_drawers : Array (Option Value)} {oc_Cabinet_drawers kV_Cabinet_drawers dc_Cabinet_drawers pm_Cabinet_drawers cd_Cabinet_drawers ct_Cabinet_drawers : Value}
    {p_bars : Addr} {rest_bars : List Value}
    {f_Cabinet_bars : Addr} {od_Cabinet_bars an_Cabinet_bars : Option Addr} {sl_Cabinet_bars : Array (Option Value)} {oc_Cabinet_bars kV_Cabinet_bars dc_Cabinet_bars pm_Cabinet_bars cd_Cabinet_bars ct_Cabinet_bars : Value}
    {tM : Tok}
    {fW : Addr}
    {ddW : Option Addr} {tW1 tW2 : Tok} {nW : Nat} {slW : Array (Option Value)}
    {fS : Addr}
    {esS : Array DictEntry} {nS : Nat}
    {tS1 : Tok}
    {tS2 : Tok}
    {tMP : Tok}
    {tMC : Tok}
    {tML : Tok}
    {tMV : Tok}
    (a_is_integer : PySem.W.nsIn K mainGlobals "is_integer" = some (some (.ref f_is_integer)))
    (l_is_integer : K.lookup f_is_integer = some ⟨oc_is_integer, od_is_integer, .func (PySem.W.fnOf "is_integer" "is_integer" (defArgs sIsInt) (defBody sIsInt) (defScope sIsInt) .none kV_is_integer dc_is_integer pm_is_integer an_is_integer cd_is_integer ct_is_integer), sl_is_integer⟩)
    (c_is_integer : PySem.W.codeIn K cd_is_integer "is_integer" = true)
    (k_is_integer : PySem.W.keepIn K (.ref f_is_integer) = true)
    (a_is_drawer_count : PySem.W.nsIn K mainGlobals "is_drawer_count" = some (some (.ref f_is_drawer_count)))
    (l_is_drawer_count : K.lookup f_is_drawer_count = some ⟨oc_is_drawer_count, od_is_drawer_count, .func (PySem.W.fnOf "is_drawer_count" "is_drawer_count" (defArgs sIsCount) (defBody sIsCount) (defScope sIsCount) .none kV_is_drawer_count dc_is_drawer_count pm_is_drawer_count an_is_drawer_count cd_is_drawer_count ct_is_drawer_count), sl_is_drawer_count⟩)
    (c_is_drawer_count : PySem.W.codeIn K cd_is_drawer_count "is_drawer_count" = true)
    (k_is_drawer_count : PySem.W.keepIn K (.ref f_is_drawer_count) = true)
    (a_is_drawer : PySem.W.nsIn K mainGlobals "is_drawer" = some (some (.ref f_is_drawer)))
    (l_is_drawer : K.lookup f_is_drawer = some ⟨oc_is_drawer, od_is_drawer, .func (PySem.W.fnOf "is_drawer" "is_drawer" (defArgs sIsDrawer) (defBody sIsDrawer) (defScope sIsDrawer) .none kV_is_drawer dc_is_drawer pm_is_drawer an_is_drawer cd_is_drawer ct_is_drawer), sl_is_drawer⟩)
    (c_is_drawer : PySem.W.codeIn K cd_is_drawer "is_drawer" = true)
    (k_is_drawer : PySem.W.keepIn K (.ref f_is_drawer) = true)
    (a_is_bar : PySem.W.nsIn K mainGlobals "is_bar" = some (some (.ref f_is_bar)))
    (l_is_bar : K.lookup f_is_bar = some ⟨oc_is_bar, od_is_bar, .func (PySem.W.fnOf "is_bar" "is_bar" (defArgs sIsBar) (defBody sIsBar) (defScope sIsBar) .none kV_is_bar dc_is_bar pm_is_bar an_is_bar cd_is_bar ct_is_bar), sl_is_bar⟩)
    (c_is_bar : PySem.W.codeIn K cd_is_bar "is_bar" = true)
    (k_is_bar : PySem.W.keepIn K (.ref f_is_bar) = true)
    (a_check_drawers : PySem.W.nsIn K mainGlobals "check_drawers" = some (some (.ref f_check_drawers)))
    (l_check_drawers : K.lookup f_check_drawers = some ⟨oc_check_drawers, od_check_drawers, .func (PySem.W.fnOf "check_drawers" "check_drawers" (defArgs sCheckDrawers) (defBody sCheckDrawers) (defScope sCheckDrawers) .none kV_check_drawers dc_check_drawers pm_check_drawers an_check_drawers cd_check_drawers ct_check_drawers), sl_check_drawers⟩)
    (c_check_drawers : PySem.W.codeIn K cd_check_drawers "check_drawers" = true)
    (k_check_drawers : PySem.W.keepIn K (.ref f_check_drawers) = true)
    (a_check_bars : PySem.W.nsIn K mainGlobals "check_bars" = some (some (.ref f_check_bars)))
    (l_check_bars : K.lookup f_check_bars = some ⟨oc_check_bars, od_check_bars, .func (PySem.W.fnOf "check_bars" "check_bars" (defArgs sCheckBars) (defBody sCheckBars) (defScope sCheckBars) .none kV_check_bars dc_check_bars pm_check_bars an_check_bars cd_check_bars ct_check_bars), sl_check_bars⟩)
    (c_check_bars : PySem.W.codeIn K cd_check_bars "check_bars" = true)
    (k_check_bars : PySem.W.keepIn K (.ref f_check_bars) = true)
    (a__law_taken : PySem.W.nsIn K mainGlobals "_law_taken" = some (some (.ref f__law_taken)))
    (l__law_taken : K.lookup f__law_taken = some ⟨oc__law_taken, od__law_taken, .func (PySem.W.fnOf "_law_taken" "_law_taken" (defArgs sTaken) (defBody sTaken) (defScope sTaken) .none kV__law_taken dc__law_taken pm__law_taken an__law_taken cd__law_taken ct__law_taken), sl__law_taken⟩)
    (c__law_taken : PySem.W.codeIn K cd__law_taken "_law_taken" = true)
    (k__law_taken : PySem.W.keepIn K (.ref f__law_taken) = true)
    (a__law_parts : PySem.W.nsIn K mainGlobals "_law_parts" = some (some (.ref f__law_parts)))
    (l__law_parts : K.lookup f__law_parts = some ⟨oc__law_parts, od__law_parts, .func (PySem.W.fnOf "_law_parts" "_law_parts" (defArgs sParts) (defBody sParts) (defScope sParts) .none kV__law_parts dc__law_parts pm__law_parts an__law_parts cd__law_parts ct__law_parts), sl__law_parts⟩)
    (c__law_parts : PySem.W.codeIn K cd__law_parts "_law_parts" = true)
    (k__law_parts : PySem.W.keepIn K (.ref f__law_parts) = true)
    (a__law_made : PySem.W.nsIn K mainGlobals "_law_made" = some (some (.ref f__law_made)))
    (l__law_made : K.lookup f__law_made = some ⟨oc__law_made, od__law_made, .func (PySem.W.fnOf "_law_made" "_law_made" (defArgs sMade) (defBody sMade) (defScope sMade) .none kV__law_made dc__law_made pm__law_made an__law_made cd__law_made ct__law_made), sl__law_made⟩)
    (c__law_made : PySem.W.codeIn K cd__law_made "_law_made" = true)
    (k__law_made : PySem.W.keepIn K (.ref f__law_made) = true)
    (a_hinders : PySem.W.nsIn K mainGlobals "hinders" = some (some (.ref f_hinders)))
    (l_hinders : K.lookup f_hinders = some ⟨oc_hinders, od_hinders, .func (PySem.W.fnOf "hinders" "hinders" (defArgs s_hinders) (defBody s_hinders) (defScope s_hinders) .none kV_hinders dc_hinders pm_hinders an_hinders cd_hinders ct_hinders), sl_hinders⟩)
    (c_hinders : PySem.W.codeIn K cd_hinders "hinders" = true)
    (k_hinders : PySem.W.keepIn K (.ref f_hinders) = true)
    (a_moved : PySem.W.nsIn K mainGlobals "moved" = some (some (.ref f_moved)))
    (l_moved : K.lookup f_moved = some ⟨oc_moved, od_moved, .func (PySem.W.fnOf "moved" "moved" (defArgs s_moved) (defBody s_moved) (defScope s_moved) .none kV_moved dc_moved pm_moved an_moved cd_moved ct_moved), sl_moved⟩)
    (c_moved : PySem.W.codeIn K cd_moved "moved" = true)
    (k_moved : PySem.W.keepIn K (.ref f_moved) = true)
    (a_bars_against : PySem.W.nsIn K mainGlobals "bars_against" = some (some (.ref f_bars_against)))
    (l_bars_against : K.lookup f_bars_against = some ⟨oc_bars_against, od_bars_against, .func (PySem.W.fnOf "bars_against" "bars_against" (defArgs s_bars_against) (defBody s_bars_against) (defScope s_bars_against) .none kV_bars_against dc_bars_against pm_bars_against an_bars_against cd_bars_against ct_bars_against), sl_bars_against⟩)
    (c_bars_against : PySem.W.codeIn K cd_bars_against "bars_against" = true)
    (k_bars_against : PySem.W.keepIn K (.ref f_bars_against) = true)
    (a_goes : PySem.W.nsIn K mainGlobals "goes" = some (some (.ref f_goes)))
    (l_goes : K.lookup f_goes = some ⟨oc_goes, od_goes, .func (PySem.W.fnOf "goes" "goes" (defArgs s_goes) (defBody s_goes) (defScope s_goes) .none kV_goes dc_goes pm_goes an_goes cd_goes ct_goes), sl_goes⟩)
    (c_goes : PySem.W.codeIn K cd_goes "goes" = true)
    (k_goes : PySem.W.keepIn K (.ref f_goes) = true)
    (a_free_drawers : PySem.W.nsIn K mainGlobals "free_drawers" = some (some (.ref f_free_drawers)))
    (l_free_drawers : K.lookup f_free_drawers = some ⟨oc_free_drawers, od_free_drawers, .func (PySem.W.fnOf "free_drawers" "free_drawers" (defArgs s_free_drawers) (defBody s_free_drawers) (defScope s_free_drawers) .none kV_free_drawers dc_free_drawers pm_free_drawers an_free_drawers cd_free_drawers ct_free_drawers), sl_free_drawers⟩)
    (c_free_drawers : PySem.W.codeIn K cd_free_drawers "free_drawers" = true)
    (k_free_drawers : PySem.W.keepIn K (.ref f_free_drawers) = true)
    (a__law_hold : PySem.W.nsIn K mainGlobals "_law_hold" = some (some (.ref f__law_hold)))
    (l__law_hold : K.lookup f__law_hold = some ⟨oc__law_hold, od__law_hold, .func (PySem.W.fnOf "_law_hold" "_law_hold" (defArgs s__law_hold) (defBody s__law_hold) (defScope s__law_hold) .none kV__law_hold dc__law_hold pm__law_hold an__law_hold cd__law_hold ct__law_hold), sl__law_hold⟩)
    (c__law_hold : PySem.W.codeIn K cd__law_hold "_law_hold" = true)
    (k__law_hold : PySem.W.keepIn K (.ref f__law_hold) = true)
    (a__law_free : PySem.W.nsIn K mainGlobals "_law_free" = some (some (.ref f__law_free)))
    (l__law_free : K.lookup f__law_free = some ⟨oc__law_free, od__law_free, .func (PySem.W.fnOf "_law_free" "_law_free" (defArgs s__law_free) (defBody s__law_free) (defScope s__law_free) .none kV__law_free dc__law_free pm__law_free an__law_free cd__law_free ct__law_free), sl__law_free⟩)
    (c__law_free : PySem.W.codeIn K cd__law_free "_law_free" = true)
    (k__law_free : PySem.W.keepIn K (.ref f__law_free) = true)
    (a__law_moved : PySem.W.nsIn K mainGlobals "_law_moved" = some (some (.ref f__law_moved)))
    (l__law_moved : K.lookup f__law_moved = some ⟨oc__law_moved, od__law_moved, .func (PySem.W.fnOf "_law_moved" "_law_moved" (defArgs s__law_moved) (defBody s__law_moved) (defScope s__law_moved) .none kV__law_moved dc__law_moved pm__law_moved an__law_moved cd__law_moved ct__law_moved), sl__law_moved⟩)
    (c__law_moved : PySem.W.codeIn K cd__law_moved "_law_moved" = true)
    (k__law_moved : PySem.W.keepIn K (.ref f__law_moved) = true)
    (a_check_cabinet : PySem.W.nsIn K mainGlobals "check_cabinet" = some (some (.ref f_check_cabinet)))
    (l_check_cabinet : K.lookup f_check_cabinet = some ⟨oc_check_cabinet, od_check_cabinet, .func (PySem.W.fnOf "check_cabinet" "check_cabinet" (defArgs s_check_cabinet) (defBody s_check_cabinet) (defScope s_check_cabinet) .none kV_check_cabinet dc_check_cabinet pm_check_cabinet an_check_cabinet cd_check_cabinet ct_check_cabinet), sl_check_cabinet⟩)
    (c_check_cabinet : PySem.W.codeIn K cd_check_cabinet "check_cabinet" = true)
    (k_check_cabinet : PySem.W.keepIn K (.ref f_check_cabinet) = true)
    (a_first_standing : PySem.W.nsIn K mainGlobals "first_standing" = some (some (.ref f_first_standing)))
    (l_first_standing : K.lookup f_first_standing = some ⟨oc_first_standing, od_first_standing, .func (PySem.W.fnOf "first_standing" "first_standing" (defArgs s_first_standing) (defBody s_first_standing) (defScope s_first_standing) .none kV_first_standing dc_first_standing pm_first_standing an_first_standing cd_first_standing ct_first_standing), sl_first_standing⟩)
    (c_first_standing : PySem.W.codeIn K cd_first_standing "first_standing" = true)
    (k_first_standing : PySem.W.keepIn K (.ref f_first_standing) = true)
    (a_rows_from : PySem.W.nsIn K mainGlobals "rows_from" = some (some (.ref f_rows_from)))
    (l_rows_from : K.lookup f_rows_from = some ⟨oc_rows_from, od_rows_from, .func (PySem.W.fnOf "rows_from" "rows_from" (defArgs s_rows_from) (defBody s_rows_from) (defScope s_rows_from) .none kV_rows_from dc_rows_from pm_rows_from an_rows_from cd_rows_from ct_rows_from), sl_rows_from⟩)
    (c_rows_from : PySem.W.codeIn K cd_rows_from "rows_from" = true)
    (k_rows_from : PySem.W.keepIn K (.ref f_rows_from) = true)
    (a_first_rows : PySem.W.nsIn K mainGlobals "first_rows" = some (some (.ref f_first_rows)))
    (l_first_rows : K.lookup f_first_rows = some ⟨oc_first_rows, od_first_rows, .func (PySem.W.fnOf "first_rows" "first_rows" (defArgs s_first_rows) (defBody s_first_rows) (defScope s_first_rows) .none kV_first_rows dc_first_rows pm_first_rows an_first_rows cd_first_rows ct_first_rows), sl_first_rows⟩)
    (c_first_rows : PySem.W.codeIn K cd_first_rows "first_rows" = true)
    (k_first_rows : PySem.W.keepIn K (.ref f_first_rows) = true)
    (a__law_all : PySem.W.nsIn K mainGlobals "_law_all" = some (some (.ref f__law_all)))
    (l__law_all : K.lookup f__law_all = some ⟨oc__law_all, od__law_all, .func (PySem.W.fnOf "_law_all" "_law_all" (defArgs s__law_all) (defBody s__law_all) (defScope s__law_all) .none kV__law_all dc__law_all pm__law_all an__law_all cd__law_all ct__law_all), sl__law_all⟩)
    (c__law_all : PySem.W.codeIn K cd__law_all "_law_all" = true)
    (k__law_all : PySem.W.keepIn K (.ref f__law_all) = true)
    (a__law_times : PySem.W.nsIn K mainGlobals "_law_times" = some (some (.ref f__law_times)))
    (l__law_times : K.lookup f__law_times = some ⟨oc__law_times, od__law_times, .func (PySem.W.fnOf "_law_times" "_law_times" (defArgs s__law_times) (defBody s__law_times) (defScope s__law_times) .none kV__law_times dc__law_times pm__law_times an__law_times cd__law_times ct__law_times), sl__law_times⟩)
    (c__law_times : PySem.W.codeIn K cd__law_times "_law_times" = true)
    (k__law_times : PySem.W.keepIn K (.ref f__law_times) = true)
    (a__law_power : PySem.W.nsIn K mainGlobals "_law_power" = some (some (.ref f__law_power)))
    (l__law_power : K.lookup f__law_power = some ⟨oc__law_power, od__law_power, .func (PySem.W.fnOf "_law_power" "_law_power" (defArgs s__law_power) (defBody s__law_power) (defScope s__law_power) .none kV__law_power dc__law_power pm__law_power an__law_power cd__law_power ct__law_power), sl__law_power⟩)
    (c__law_power : PySem.W.codeIn K cd__law_power "_law_power" = true)
    (k__law_power : PySem.W.keepIn K (.ref f__law_power) = true)
    (a_check_number : PySem.W.nsIn K mainGlobals "check_number" = some (some (.ref f_check_number)))
    (l_check_number : K.lookup f_check_number = some ⟨oc_check_number, od_check_number, .func (PySem.W.fnOf "check_number" "check_number" (defArgs s_check_number) (defBody s_check_number) (defScope s_check_number) .none kV_check_number dc_check_number pm_check_number an_check_number cd_check_number ct_check_number), sl_check_number⟩)
    (c_check_number : PySem.W.codeIn K cd_check_number "check_number" = true)
    (k_check_number : PySem.W.keepIn K (.ref f_check_number) = true)
    (a_check_few_drawers : PySem.W.nsIn K mainGlobals "check_few_drawers" = some (some (.ref f_check_few_drawers)))
    (l_check_few_drawers : K.lookup f_check_few_drawers = some ⟨oc_check_few_drawers, od_check_few_drawers, .func (PySem.W.fnOf "check_few_drawers" "check_few_drawers" (defArgs s_check_few_drawers) (defBody s_check_few_drawers) (defScope s_check_few_drawers) .none kV_check_few_drawers dc_check_few_drawers pm_check_few_drawers an_check_few_drawers cd_check_few_drawers ct_check_few_drawers), sl_check_few_drawers⟩)
    (c_check_few_drawers : PySem.W.codeIn K cd_check_few_drawers "check_few_drawers" = true)
    (k_check_few_drawers : PySem.W.keepIn K (.ref f_check_few_drawers) = true)
    (a_reached_pulls : PySem.W.nsIn K mainGlobals "reached_pulls" = some (some (.ref f_reached_pulls)))
    (l_reached_pulls : K.lookup f_reached_pulls = some ⟨oc_reached_pulls, od_reached_pulls, .func (PySem.W.fnOf "reached_pulls" "reached_pulls" (defArgs s_reached_pulls) (defBody s_reached_pulls) (defScope s_reached_pulls) .none kV_reached_pulls dc_reached_pulls pm_reached_pulls an_reached_pulls cd_reached_pulls ct_reached_pulls), sl_reached_pulls⟩)
    (c_reached_pulls : PySem.W.codeIn K cd_reached_pulls "reached_pulls" = true)
    (k_reached_pulls : PySem.W.keepIn K (.ref f_reached_pulls) = true)
    (a_counts_behind : PySem.W.nsIn K mainGlobals "counts_behind" = some (some (.ref f_counts_behind)))
    (l_counts_behind : K.lookup f_counts_behind = some ⟨oc_counts_behind, od_counts_behind, .func (PySem.W.fnOf "counts_behind" "counts_behind" (defArgs s_counts_behind) (defBody s_counts_behind) (defScope s_counts_behind) .none kV_counts_behind dc_counts_behind pm_counts_behind an_counts_behind cd_counts_behind ct_counts_behind), sl_counts_behind⟩)
    (c_counts_behind : PySem.W.codeIn K cd_counts_behind "counts_behind" = true)
    (k_counts_behind : PySem.W.keepIn K (.ref f_counts_behind) = true)
    (a_counts_by_end : PySem.W.nsIn K mainGlobals "counts_by_end" = some (some (.ref f_counts_by_end)))
    (l_counts_by_end : K.lookup f_counts_by_end = some ⟨oc_counts_by_end, od_counts_by_end, .func (PySem.W.fnOf "counts_by_end" "counts_by_end" (defArgs s_counts_by_end) (defBody s_counts_by_end) (defScope s_counts_by_end) .none kV_counts_by_end dc_counts_by_end pm_counts_by_end an_counts_by_end cd_counts_by_end ct_counts_by_end), sl_counts_by_end⟩)
    (c_counts_by_end : PySem.W.codeIn K cd_counts_by_end "counts_by_end" = true)
    (k_counts_by_end : PySem.W.keepIn K (.ref f_counts_by_end) = true)
    (a_count_rows : PySem.W.nsIn K mainGlobals "count_rows" = some (some (.ref f_count_rows)))
    (l_count_rows : K.lookup f_count_rows = some ⟨oc_count_rows, od_count_rows, .func (PySem.W.fnOf "count_rows" "count_rows" (defArgs s_count_rows) (defBody s_count_rows) (defScope s_count_rows) .none kV_count_rows dc_count_rows pm_count_rows an_count_rows cd_count_rows ct_count_rows), sl_count_rows⟩)
    (c_count_rows : PySem.W.codeIn K cd_count_rows "count_rows" = true)
    (k_count_rows : PySem.W.keepIn K (.ref f_count_rows) = true)
    (a_dot : PySem.W.nsIn K mainGlobals "dot" = some (some (.ref f_dot)))
    (l_dot : K.lookup f_dot = some ⟨oc_dot, od_dot, .func (PySem.W.fnOf "dot" "dot" (defArgs s_dot) (defBody s_dot) (defScope s_dot) .none kV_dot dc_dot pm_dot an_dot cd_dot ct_dot), sl_dot⟩)
    (c_dot : PySem.W.codeIn K cd_dot "dot" = true)
    (k_dot : PySem.W.keepIn K (.ref f_dot) = true)
    (a_doubled : PySem.W.nsIn K mainGlobals "doubled" = some (some (.ref f_doubled)))
    (l_doubled : K.lookup f_doubled = some ⟨oc_doubled, od_doubled, .func (PySem.W.fnOf "doubled" "doubled" (defArgs s_doubled) (defBody s_doubled) (defScope s_doubled) .none kV_doubled dc_doubled pm_doubled an_doubled cd_doubled ct_doubled), sl_doubled⟩)
    (c_doubled : PySem.W.codeIn K cd_doubled "doubled" = true)
    (k_doubled : PySem.W.keepIn K (.ref f_doubled) = true)
    (a_one_pull_ways : PySem.W.nsIn K mainGlobals "one_pull_ways" = some (some (.ref f_one_pull_ways)))
    (l_one_pull_ways : K.lookup f_one_pull_ways = some ⟨oc_one_pull_ways, od_one_pull_ways, .func (PySem.W.fnOf "one_pull_ways" "one_pull_ways" (defArgs s_one_pull_ways) (defBody s_one_pull_ways) (defScope s_one_pull_ways) .none kV_one_pull_ways dc_one_pull_ways pm_one_pull_ways an_one_pull_ways cd_one_pull_ways ct_one_pull_ways), sl_one_pull_ways⟩)
    (c_one_pull_ways : PySem.W.codeIn K cd_one_pull_ways "one_pull_ways" = true)
    (k_one_pull_ways : PySem.W.keepIn K (.ref f_one_pull_ways) = true)
    (a_count_rest : PySem.W.nsIn K mainGlobals "count_rest" = some (some (.ref f_count_rest)))
    (l_count_rest : K.lookup f_count_rest = some ⟨oc_count_rest, od_count_rest, .func (PySem.W.fnOf "count_rest" "count_rest" (defArgs s_count_rest) (defBody s_count_rest) (defScope s_count_rest) .none kV_count_rest dc_count_rest pm_count_rest an_count_rest cd_count_rest ct_count_rest), sl_count_rest⟩)
    (c_count_rest : PySem.W.codeIn K cd_count_rest "count_rest" = true)
    (k_count_rest : PySem.W.keepIn K (.ref f_count_rest) = true)
    (a_law : PySem.W.nsIn K mainGlobals "law" = some (some (.ref f_law)))
    (l_law : K.lookup f_law = some ⟨oc_law, od_law, .func (PySem.W.fnOf "law" "law" (defArgs s_law) (defBody s_law) (defScope s_law) .none kV_law dc_law pm_law an_law cd_law ct_law), sl_law⟩)
    (c_law : PySem.W.codeIn K cd_law "law" = true)
    (k_law : PySem.W.keepIn K (.ref f_law) = true)
    (aC : PySem.W.nsIn K mainGlobals "Cabinet" = some (some (.ref C)))
    (pg : PySem.W.plainGet K C Str.empty = true)
    (hd : PySem.W.hasDictIn K C = true)
    (po : PySem.W.plainOver K C = true)
    (sa : PySem.W.findIn K (.ref C) "__setattr__" = some (some (.builtin "object.__setattr__")))
    (mk : PySem.W.makesIn K C = true)
    (kc : PySem.W.keepIn K (.ref C) = true)
    (nD : PySem.W.findIn K (.ref C) "_drawers" = some none)
    (nB : PySem.W.findIn K (.ref C) "_bars" = some none)
    (a_Cabinet___init__ : PySem.W.findIn K (.ref C) "__init__" = some (some (.ref f_Cabinet___init__)))
    (l_Cabinet___init__ : K.lookup f_Cabinet___init__ = some ⟨oc_Cabinet___init__, od_Cabinet___init__, .func (PySem.W.fnOf "__init__" "Cabinet.__init__" (defArgs sInit) (defBody sInit) (defScope sInit) .none kV_Cabinet___init__ dc_Cabinet___init__ pm_Cabinet___init__ an_Cabinet___init__ cd_Cabinet___init__ ct_Cabinet___init__), sl_Cabinet___init__⟩)
    (c_Cabinet___init__ : PySem.W.codeIn K cd_Cabinet___init__ "Cabinet.__init__" = true)
    (k_Cabinet___init__ : PySem.W.keepIn K (.ref f_Cabinet___init__) = true)
    (i_init : PySem.W.isFn K (.ref f_Cabinet___init__) = true)
    (pa_drawers : PySem.W.findIn K (.ref C) "drawers" = some (some (.ref p_drawers)))
    (pg_drawers : PySem.W.specialIn K (.ref p_drawers) "__get__" = some (some (.builtin "property.__get__")))
    (pt_drawers : PySem.W.takesIn K (.ref p_drawers) = some true)
    (pr_drawers : PySem.W.recIn K p_drawers "property" = some (.ref f_Cabinet_drawers :: rest_drawers))
    (l_Cabinet_drawers : K.lookup f_Cabinet_drawers = some ⟨oc_Cabinet_drawers, od_Cabinet_drawers, .func (PySem.W.fnOf "drawers" "Cabinet.drawers" (defArgs sDrawers) (defBody sDrawers) (defScope sDrawers) .none kV_Cabinet_drawers dc_Cabinet_drawers pm_Cabinet_drawers an_Cabinet_drawers cd_Cabinet_drawers ct_Cabinet_drawers), sl_Cabinet_drawers⟩)
    (c_Cabinet_drawers : PySem.W.codeIn K cd_Cabinet_drawers "Cabinet.drawers" = true)
    (k_Cabinet_drawers : PySem.W.keepIn K (.ref f_Cabinet_drawers) = true)
    (pa_bars : PySem.W.findIn K (.ref C) "bars" = some (some (.ref p_bars)))
    (pg_bars : PySem.W.specialIn K (.ref p_bars) "__get__" = some (some (.builtin "property.__get__")))
    (pt_bars : PySem.W.takesIn K (.ref p_bars) = some true)
    (pr_bars : PySem.W.recIn K p_bars "property" = some (.ref f_Cabinet_bars :: rest_bars))
    (l_Cabinet_bars : K.lookup f_Cabinet_bars = some ⟨oc_Cabinet_bars, od_Cabinet_bars, .func (PySem.W.fnOf "bars" "Cabinet.bars" (defArgs sBars) (defBody sBars) (defScope sBars) .none kV_Cabinet_bars dc_Cabinet_bars pm_Cabinet_bars an_Cabinet_bars cd_Cabinet_bars ct_Cabinet_bars), sl_Cabinet_bars⟩)
    (c_Cabinet_bars : PySem.W.codeIn K cd_Cabinet_bars "Cabinet.bars" = true)
    (k_Cabinet_bars : PySem.W.keepIn K (.ref f_Cabinet_bars) = true)
    (ci1 : PySem.W.findIn K (.ref C) "__class__" = some (some (.builtin "object.__class__")))
    (ci2 : PySem.W.specialIn K (.builtin "object.__class__") "__get__" = some (some (.builtin "getset_descriptor.__get__")))
    (ci3 : PySem.W.takesIn K (.builtin "object.__class__") = some true)
    (ci4 : PySem.W.mroIn K C (.type "object") = some true)
    (ci5 : PySem.W.kitOne K (.ref C) (.ref C) = some true)
    (z_isinstance : PySem.W.nsIn K mainGlobals "isinstance" = some none)
    (z_int : PySem.W.nsIn K mainGlobals "int" = some none)
    (z_bool : PySem.W.nsIn K mainGlobals "bool" = some none)
    (z_tuple : PySem.W.nsIn K mainGlobals "tuple" = some none)
    (z_len : PySem.W.nsIn K mainGlobals "len" = some none)
    (z_enumerate : PySem.W.nsIn K mainGlobals "enumerate" = some none)
    (z_range : PySem.W.nsIn K mainGlobals "range" = some none)
    (z_sorted : PySem.W.nsIn K mainGlobals "sorted" = some none)
    (z_any : PySem.W.nsIn K mainGlobals "any" = some none)
    (z_str : PySem.W.nsIn K mainGlobals "str" = some none)
    (z_sum : PySem.W.nsIn K mainGlobals "sum" = some none)
    (z_list : PySem.W.nsIn K mainGlobals "list" = some none)
    (z_zip : PySem.W.nsIn K mainGlobals "zip" = some none)
    (aM : PySem.W.nsIn K mainGlobals "MOST_DRAWERS" = some (some (.int 7 tM)))
    (aW : PySem.W.nsIn K mainGlobals "WORDS" = some (some (.ref fW)))
    (lW : K.lookup fW = some ⟨.type "tuple", ddW, .seq #[.str "open" tW1, .str "shut" tW2] nW, slW⟩)
    (aS : PySem.W.nsIn K mainGlobals "SIGNS" = some (some (.ref fS)))
    (lS : K.lookup fS = some ⟨.type "dict", none, .dict esS nS, #[]⟩)
    (kS : PySem.W.KeysLit w.params esS.toList)
    (oS : PySem.W.nsIn K fS "open" = some (some (.str "o" tS1)))
    (sS : PySem.W.nsIn K fS "shut" = some (some (.str "s" tS2)))
    (aMP : PySem.W.nsIn K mainGlobals "MOST_PULLS" = some (some (.int 60 tMP)))
    (aMC : PySem.W.nsIn K mainGlobals "MOST_COUNTED" = some (some (.int 4 tMC)))
    (aML : PySem.W.nsIn K mainGlobals "MOST_LENGTH" = some (some (.int (10 ^ 30) tML)))
    (aMV : PySem.W.nsIn K mainGlobals "MOST_DIVISOR" = some (some (.int (10 ^ 9) tMV)))
    : ∃ fd : FuncData, (∀ (s : Shared) (v : Value), BindsTo s fd ⟨[v], []⟩ [("_law_script", v)]) ∧ ∀ base : Heap, K.In base → base.Ns mainGlobals mg → FnOk l.prog w K mg base CX0 20 fa fd ["_law_script"] (spLaw36 K) := by
  have e := hfa.symm.trans (PySem.W.mg_of X G a_law)
  cases e
  have F_is_integer := fun_mk (st := sIsInt) l_is_integer c_is_integer k_is_integer
  have b_is_integer := F_is_integer.binds (ps := ["value"]) fun _ _ _ _ _ _ us hl => match us, hl with | [_], _ => rfl
  have g_is_integer := PySem.W.mg_of X G a_is_integer
  have F_is_drawer_count := fun_mk (st := sIsCount) l_is_drawer_count c_is_drawer_count k_is_drawer_count
  have b_is_drawer_count := F_is_drawer_count.binds (ps := ["value"]) fun _ _ _ _ _ _ us hl => match us, hl with | [_], _ => rfl
  have g_is_drawer_count := PySem.W.mg_of X G a_is_drawer_count
  have F_is_drawer := fun_mk (st := sIsDrawer) l_is_drawer c_is_drawer k_is_drawer
  have b_is_drawer := F_is_drawer.binds (ps := ["drawers", "value"]) fun _ _ _ _ _ _ us hl => match us, hl with | [_, _], _ => rfl
  have g_is_drawer := PySem.W.mg_of X G a_is_drawer
  have F_is_bar := fun_mk (st := sIsBar) l_is_bar c_is_bar k_is_bar
  have b_is_bar := F_is_bar.binds (ps := ["drawers", "value"]) fun _ _ _ _ _ _ us hl => match us, hl with | [_, _], _ => rfl
  have g_is_bar := PySem.W.mg_of X G a_is_bar
  have F_check_drawers := fun_mk (st := sCheckDrawers) l_check_drawers c_check_drawers k_check_drawers
  have b_check_drawers := F_check_drawers.binds (ps := ["drawers"]) fun _ _ _ _ _ _ us hl => match us, hl with | [_], _ => rfl
  have g_check_drawers := PySem.W.mg_of X G a_check_drawers
  have F_check_bars := fun_mk (st := sCheckBars) l_check_bars c_check_bars k_check_bars
  have b_check_bars := F_check_bars.binds (ps := ["drawers", "bars"]) fun _ _ _ _ _ _ us hl => match us, hl with | [_, _], _ => rfl
  have g_check_bars := PySem.W.mg_of X G a_check_bars
  have F__law_taken := fun_mk (st := sTaken) l__law_taken c__law_taken k__law_taken
  have b__law_taken := F__law_taken.binds (ps := ["_law_row", "_law_many"]) fun _ _ _ _ _ _ us hl => match us, hl with | [_, _], _ => rfl
  have g__law_taken := PySem.W.mg_of X G a__law_taken
  have F__law_parts := fun_mk (st := sParts) l__law_parts c__law_parts k__law_parts
  have b__law_parts := F__law_parts.binds (ps := ["_law_row", "_law_most"]) fun _ _ _ _ _ _ us hl => match us, hl with | [_, _], _ => rfl
  have g__law_parts := PySem.W.mg_of X G a__law_parts
  have F__law_made := fun_mk (st := sMade) l__law_made c__law_made k__law_made
  have b__law_made := F__law_made.binds (ps := ["_law_d"]) fun _ _ _ _ _ _ us hl => match us, hl with | [_], _ => rfl
  have g__law_made := PySem.W.mg_of X G a__law_made
  have F_hinders := fun_mk (st := s_hinders) l_hinders c_hinders k_hinders
  have b_hinders := F_hinders.binds (ps := ["bar", "standing", "drawer"]) fun _ _ _ _ _ _ us hl => match us, hl with | [_, _, _], _ => rfl
  have g_hinders := PySem.W.mg_of X G a_hinders
  have F_moved := fun_mk (st := s_moved) l_moved c_moved k_moved
  have b_moved := F_moved.binds (ps := ["standing", "drawer"]) fun _ _ _ _ _ _ us hl => match us, hl with | [_, _], _ => rfl
  have g_moved := PySem.W.mg_of X G a_moved
  have F_bars_against := fun_mk (st := s_bars_against) l_bars_against c_bars_against k_bars_against
  have b_bars_against := F_bars_against.binds (ps := ["cabinet", "standing", "drawer"]) fun _ _ _ _ _ _ us hl => match us, hl with | [_, _, _], _ => rfl
  have g_bars_against := PySem.W.mg_of X G a_bars_against
  have F_goes := fun_mk (st := s_goes) l_goes c_goes k_goes
  have b_goes := F_goes.binds (ps := ["cabinet", "standing", "drawer"]) fun _ _ _ _ _ _ us hl => match us, hl with | [_, _, _], _ => rfl
  have g_goes := PySem.W.mg_of X G a_goes
  have F_free_drawers := fun_mk (st := s_free_drawers) l_free_drawers c_free_drawers k_free_drawers
  have b_free_drawers := F_free_drawers.binds (ps := ["cabinet", "standing"]) fun _ _ _ _ _ _ us hl => match us, hl with | [_, _], _ => rfl
  have g_free_drawers := PySem.W.mg_of X G a_free_drawers
  have F__law_hold := fun_mk (st := s__law_hold) l__law_hold c__law_hold k__law_hold
  have b__law_hold := F__law_hold.binds (ps := ["_law_bar", "_law_standing", "_law_drawer"]) fun _ _ _ _ _ _ us hl => match us, hl with | [_, _, _], _ => rfl
  have g__law_hold := PySem.W.mg_of X G a__law_hold
  have F__law_free := fun_mk (st := s__law_free) l__law_free c__law_free k__law_free
  have b__law_free := F__law_free.binds (ps := ["_law_d", "_law_standing"]) fun _ _ _ _ _ _ us hl => match us, hl with | [_, _], _ => rfl
  have g__law_free := PySem.W.mg_of X G a__law_free
  have F__law_moved := fun_mk (st := s__law_moved) l__law_moved c__law_moved k__law_moved
  have b__law_moved := F__law_moved.binds (ps := ["_law_standing", "_law_drawer"]) fun _ _ _ _ _ _ us hl => match us, hl with | [_, _], _ => rfl
  have g__law_moved := PySem.W.mg_of X G a__law_moved
  have F_check_cabinet := fun_mk (st := s_check_cabinet) l_check_cabinet c_check_cabinet k_check_cabinet
  have b_check_cabinet := F_check_cabinet.binds (ps := ["cabinet"]) fun _ _ _ _ _ _ us hl => match us, hl with | [_], _ => rfl
  have g_check_cabinet := PySem.W.mg_of X G a_check_cabinet
  have F_first_standing := fun_mk (st := s_first_standing) l_first_standing c_first_standing k_first_standing
  have b_first_standing := F_first_standing.binds (ps := ["drawers"]) fun _ _ _ _ _ _ us hl => match us, hl with | [_], _ => rfl
  have g_first_standing := PySem.W.mg_of X G a_first_standing
  have F_rows_from := fun_mk (st := s_rows_from) l_rows_from c_rows_from k_rows_from
  have b_rows_from := F_rows_from.binds (ps := ["cabinet", "standing"]) fun _ _ _ _ _ _ us hl => match us, hl with | [_, _], _ => rfl
  have g_rows_from := PySem.W.mg_of X G a_rows_from
  have F_first_rows := fun_mk (st := s_first_rows) l_first_rows c_first_rows k_first_rows
  have b_first_rows := F_first_rows.binds (ps := ["cabinet"]) fun _ _ _ _ _ _ us hl => match us, hl with | [_], _ => rfl
  have g_first_rows := PySem.W.mg_of X G a_first_rows
  have F__law_all := fun_mk (st := s__law_all) l__law_all c__law_all k__law_all
  have b__law_all := F__law_all.binds (ps := ["_law_many"]) fun _ _ _ _ _ _ us hl => match us, hl with | [_], _ => rfl
  have g__law_all := PySem.W.mg_of X G a__law_all
  have F__law_times := fun_mk (st := s__law_times) l__law_times c__law_times k__law_times
  have b__law_times := F__law_times.binds (ps := ["_law_one", "_law_other", "_law_divisor"]) fun _ _ _ _ _ _ us hl => match us, hl with | [_, _, _], _ => rfl
  have g__law_times := PySem.W.mg_of X G a__law_times
  have F__law_power := fun_mk (st := s__law_power) l__law_power c__law_power k__law_power
  have b__law_power := F__law_power.binds (ps := ["_law_table", "_law_length", "_law_divisor"]) fun _ _ _ _ _ _ us hl => match us, hl with | [_, _, _], _ => rfl
  have g__law_power := PySem.W.mg_of X G a__law_power
  have F_check_number := fun_mk (st := s_check_number) l_check_number c_check_number k_check_number
  have b_check_number := F_check_number.binds (ps := ["value", "least", "most"]) fun _ _ _ _ _ _ us hl => match us, hl with | [_, _, _], _ => rfl
  have g_check_number := PySem.W.mg_of X G a_check_number
  have F_check_few_drawers := fun_mk (st := s_check_few_drawers) l_check_few_drawers c_check_few_drawers k_check_few_drawers
  have b_check_few_drawers := F_check_few_drawers.binds (ps := ["cabinet", "most"]) fun _ _ _ _ _ _ us hl => match us, hl with | [_, _], _ => rfl
  have g_check_few_drawers := PySem.W.mg_of X G a_check_few_drawers
  have F_reached_pulls := fun_mk (st := s_reached_pulls) l_reached_pulls c_reached_pulls k_reached_pulls
  have b_reached_pulls := F_reached_pulls.binds (ps := ["cabinet"]) fun _ _ _ _ _ _ us hl => match us, hl with | [_], _ => rfl
  have g_reached_pulls := PySem.W.mg_of X G a_reached_pulls
  have F_counts_behind := fun_mk (st := s_counts_behind) l_counts_behind c_counts_behind k_counts_behind
  have b_counts_behind := F_counts_behind.binds (ps := ["pulls", "counts"]) fun _ _ _ _ _ _ us hl => match us, hl with | [_, _], _ => rfl
  have g_counts_behind := PySem.W.mg_of X G a_counts_behind
  have F_counts_by_end := fun_mk (st := s_counts_by_end) l_counts_by_end c_counts_by_end k_counts_by_end
  have b_counts_by_end := F_counts_by_end.binds (ps := ["cabinet", "length"]) fun _ _ _ _ _ _ us hl => match us, hl with | [_, _], _ => rfl
  have g_counts_by_end := PySem.W.mg_of X G a_counts_by_end
  have F_count_rows := fun_mk (st := s_count_rows) l_count_rows c_count_rows k_count_rows
  have b_count_rows := F_count_rows.binds (ps := ["cabinet", "length"]) fun _ _ _ _ _ _ us hl => match us, hl with | [_, _], _ => rfl
  have g_count_rows := PySem.W.mg_of X G a_count_rows
  have F_dot := fun_mk (st := s_dot) l_dot c_dot k_dot
  have b_dot := F_dot.binds (ps := ["ones", "others"]) fun _ _ _ _ _ _ us hl => match us, hl with | [_, _], _ => rfl
  have g_dot := PySem.W.mg_of X G a_dot
  have F_doubled := fun_mk (st := s_doubled) l_doubled c_doubled k_doubled
  have b_doubled := F_doubled.binds (ps := ["ways", "divisor"]) fun _ _ _ _ _ _ us hl => match us, hl with | [_, _], _ => rfl
  have g_doubled := PySem.W.mg_of X G a_doubled
  have F_one_pull_ways := fun_mk (st := s_one_pull_ways) l_one_pull_ways c_one_pull_ways k_one_pull_ways
  have b_one_pull_ways := F_one_pull_ways.binds (ps := ["pulls"]) fun _ _ _ _ _ _ us hl => match us, hl with | [_], _ => rfl
  have g_one_pull_ways := PySem.W.mg_of X G a_one_pull_ways
  have F_count_rest := fun_mk (st := s_count_rest) l_count_rest c_count_rest k_count_rest
  have b_count_rest := F_count_rest.binds (ps := ["cabinet", "length", "divisor"]) fun _ _ _ _ _ _ us hl => match us, hl with | [_, _, _], _ => rfl
  have g_count_rest := PySem.W.mg_of X G a_count_rest
  have F_law := fun_mk (st := s_law) l_law c_law k_law
  have b_law := F_law.binds (ps := ["_law_script"]) fun _ _ _ _ _ _ us hl => match us, hl with | [_], _ => rfl
  have g_law := PySem.W.mg_of X G a_law
  have F_Cabinet___init__ := fun_mk (st := sInit) l_Cabinet___init__ c_Cabinet___init__ k_Cabinet___init__
  have b_Cabinet___init__ := F_Cabinet___init__.binds (ps := ["self", "drawers", "bars"]) fun _ _ _ _ _ _ us hl => match us, hl with | [_, _, _], _ => rfl
  have F_Cabinet_drawers := fun_mk (st := sDrawers) l_Cabinet_drawers c_Cabinet_drawers k_Cabinet_drawers
  have b_Cabinet_drawers := F_Cabinet_drawers.binds (ps := ["self"]) fun _ _ _ _ _ _ us hl => match us, hl with | [_], _ => rfl
  have F_Cabinet_bars := fun_mk (st := sBars) l_Cabinet_bars c_Cabinet_bars k_Cabinet_bars
  have b_Cabinet_bars := F_Cabinet_bars.binds (ps := ["self"]) fun _ _ _ _ _ _ us hl => match us, hl with | [_], _ => rfl
  have TC : CabT K mg C := ⟨⟨pg, hd, po, sa⟩, nD, nB, PySem.W.mg_of X G aC⟩
  have MC : Mk K C f_Cabinet___init__ := ⟨mk, a_Cabinet___init__, i_init, kc⟩
  have IC : CabI K mg C := ⟨⟨pg, hd, po, sa⟩, PySem.W.mg_of X G aC, ci1, ci2, ci3, ci4, ci5⟩
  have TB : Bt mg := ⟨PySem.W.mg_none_of X G z_isinstance, PySem.W.mg_none_of X G z_int, PySem.W.mg_none_of X G z_bool, PySem.W.mg_none_of X G z_tuple, PySem.W.mg_none_of X G z_len, PySem.W.mg_none_of X G z_enumerate, PySem.W.mg_none_of X G z_range, PySem.W.mg_none_of X G z_sorted⟩
  have n_isinstance := PySem.W.mg_none_of X G z_isinstance
  have n_int := PySem.W.mg_none_of X G z_int
  have n_bool := PySem.W.mg_none_of X G z_bool
  have n_tuple := PySem.W.mg_none_of X G z_tuple
  have n_len := PySem.W.mg_none_of X G z_len
  have n_enumerate := PySem.W.mg_none_of X G z_enumerate
  have n_range := PySem.W.mg_none_of X G z_range
  have n_sorted := PySem.W.mg_none_of X G z_sorted
  have n_any := PySem.W.mg_none_of X G z_any
  have n_str := PySem.W.mg_none_of X G z_str
  have n_sum := PySem.W.mg_none_of X G z_sum
  have n_list := PySem.W.mg_none_of X G z_list
  have n_zip := PySem.W.mg_none_of X G z_zip
  have gM := PySem.W.mg_of X G aM
  have gW := PySem.W.mg_of X G aW
  have hW : ∀ H, SqT K H fW [.str "open", .str "shut"] := fun H => .inr ⟨_, _, _, lW, rfl, rfl, by show 2 ≤ sizeLine; decide, .cons ⟨_, rfl⟩ (.cons ⟨_, rfl⟩ .nil)⟩
  have gS := PySem.W.mg_of X G aS
  have TS : SgT K w mg fS := ⟨gS, ⟨esS, nS, _, lS, kS, oS, _, rfl⟩, ⟨esS, nS, _, lS, kS, sS, _, rfl⟩⟩
  have gMP := PySem.W.mg_of X G aMP
  have gMC := PySem.W.mg_of X G aMC
  have gML := PySem.W.mg_of X G aML
  have gMV := PySem.W.mg_of X G aMV
  refine ⟨PySem.W.fnOf "law" "law" (defArgs s_law) (defBody s_law) (defScope s_law) .none kV_law dc_law pm_law an_law cd_law ct_law, fun s v => .of_eq rfl, fun base hKX hGX => ?_⟩
  have OD := ok_getD (P := l.prog) (w := w) (base := base) F_Cabinet_drawers TC
  have OB := ok_getB (P := l.prog) (w := w) (base := base) F_Cabinet_bars TC
  have CP : CabP l.prog w K mg base C := ⟨TC.cl, ⟨_, _, _, ⟨pa_drawers, pg_drawers, pt_drawers, ⟨_, pr_drawers⟩⟩, OD, b_Cabinet_drawers⟩, ⟨_, _, _, ⟨pa_bars, pg_bars, pt_bars, ⟨_, pr_bars⟩⟩, OB, b_Cabinet_bars⟩⟩
  have O__law_taken := ok_taken (P := l.prog) (w := w) (base := base) F__law_taken TB
  have O__law_parts := ok_parts F__law_parts TB O__law_taken g__law_taken k__law_taken b__law_taken
  have O_is_integer := ok_isInt (P := l.prog) (w := w) (base := base) F_is_integer TB
  have O_is_drawer_count := ok_isCount F_is_drawer_count TB O_is_integer g_is_integer k_is_integer b_is_integer ⟨_, gM⟩
  have O_check_drawers := ok_checkDrawers F_check_drawers O_is_drawer_count g_is_drawer_count k_is_drawer_count b_is_drawer_count
  have O_is_drawer := ok_isDrawer F_is_drawer TB O_is_integer g_is_integer k_is_integer b_is_integer
  have O_is_bar := ok_isBar F_is_bar TB O_is_drawer g_is_drawer k_is_drawer b_is_drawer ⟨fW, gW, hW⟩
  have O_check_bars := ok_checkBars F_check_bars TB O_is_bar g_is_bar k_is_bar b_is_bar
  have O_Cabinet___init__ := ok_init F_Cabinet___init__ TC O_check_drawers g_check_drawers k_check_drawers b_check_drawers O_check_bars g_check_bars k_check_bars b_check_bars
  have O__law_made := ok_made F__law_made TC MC O_Cabinet___init__ b_Cabinet___init__
  have O__law_hold := ok_lawHold (P := l.prog) (w := w) (mg := mg) (base := base) F__law_hold
  have O__law_free := ok_lawFree F__law_free TB O__law_hold g__law_hold k__law_hold b__law_hold n_any
  have O__law_moved := ok_lawMoved (P := l.prog) (w := w) (base := base) F__law_moved TB
  have O__law_all := ok_lawAllW (P := l.prog) (w := w) (base := base) F__law_all TB
  have O__law_times := ok_times (P := l.prog) (w := w) (base := base) F__law_times TB
  have O__law_power := ok_power F__law_power TB n_str O__law_times g__law_times k__law_times b__law_times
  have O_check_cabinet := ok_ckCab (P := l.prog) (w := w) (base := base) F_check_cabinet TB IC
  have O_check_number := ok_ckNum0 F_check_number O_is_integer g_is_integer k_is_integer b_is_integer
  have O_hinders := ok_hinders (P := l.prog) (base := base) F_hinders TS
  have O_bars_against := ok_against F_bars_against CP O_hinders g_hinders k_hinders b_hinders
  have O_goes := ok_goes F_goes O_bars_against g_bars_against k_bars_against b_bars_against
  have O_free_drawers := ok_freeDrawers F_free_drawers TB CP O_goes g_goes k_goes b_goes
  have O_moved := ok_moved (P := l.prog) (base := base) F_moved TS
  have O_rows_from := ok_rowsFrom F_rows_from TB O_free_drawers g_free_drawers k_free_drawers b_free_drawers O_moved g_moved k_moved b_moved
  have O_first_standing := ok_first (P := l.prog) (base := base) F_first_standing TS
  have O_first_rows := ok_firstRows F_first_rows CP O_rows_from g_rows_from k_rows_from b_rows_from O_first_standing g_first_standing k_first_standing b_first_standing
  have O_reached_pulls := ok_reachedPulls F_reached_pulls O_first_rows g_first_rows k_first_rows b_first_rows O_free_drawers g_free_drawers k_free_drawers b_free_drawers O_moved g_moved k_moved b_moved
  have O_counts_behind := ok_countsBehind (mg := mg) (P := l.prog) (w := w) (base := base) F_counts_behind
  have O_counts_by_end := ok_countsByEnd F_counts_by_end TB CP O_reached_pulls g_reached_pulls k_reached_pulls b_reached_pulls O_first_standing g_first_standing k_first_standing b_first_standing O_counts_behind g_counts_behind k_counts_behind b_counts_behind
  have O_count_rows := ok_countRows F_count_rows n_sum n_list ⟨_, gMP⟩ O_check_cabinet g_check_cabinet k_check_cabinet b_check_cabinet O_check_number g_check_number k_check_number b_check_number O_counts_by_end g_counts_by_end k_counts_by_end b_counts_by_end
  have O_check_few_drawers := ok_few0 F_check_few_drawers CP
  have O_one_pull_ways := ok_ways (P := l.prog) (w := w) (base := base) F_one_pull_ways n_list
  have O_dot := ok_dot (P := l.prog) (w := w) (base := base) F_dot n_sum n_zip
  have O_doubled := ok_doubled F_doubled TB O_dot g_dot k_dot b_dot
  have O_count_rest := ok_countRest F_count_rest ⟨_, gMC⟩ ⟨_, gML⟩ ⟨_, gMV⟩ O_check_cabinet g_check_cabinet k_check_cabinet b_check_cabinet O_check_few_drawers g_check_few_drawers k_check_few_drawers b_check_few_drawers O_check_number g_check_number k_check_number b_check_number O_reached_pulls g_reached_pulls k_reached_pulls b_reached_pulls O_one_pull_ways g_one_pull_ways k_one_pull_ways b_one_pull_ways O_dot g_dot k_dot b_dot O_doubled g_doubled k_doubled b_doubled
  have O_x_tkW := ok_takenW (P := l.prog) (w := w) (base := base) F__law_taken TB
  exact ok_law F_law TB n_sum O_x_tkW g__law_taken k__law_taken b__law_taken O__law_parts g__law_parts k__law_parts b__law_parts O__law_made g__law_made k__law_made b__law_made O__law_free g__law_free k__law_free b__law_free O__law_moved g__law_moved k__law_moved b__law_moved O__law_all g__law_all k__law_all b__law_all O__law_power g__law_power k__law_power b__law_power O_count_rows g_count_rows k_count_rows b_count_rows O_count_rest g_count_rest k_count_rest b_count_rest
theorem walk {l : PySem.W.OpenLaw} {q : Program} {loose : List Str} {XP : (Str → Option Value) → Heap → Prop} {YP : World → Heap → Prop} {d : DefRec} {K : Params → PySem.W.Frag} (hn : l.most = some 63) (hdf : d.params.defaults = [])
    (hY : ∀ (w : World) (h : Heap), YP w h → (K w.params).In h)
    (F : ∀ (w : World) (mg : Str → Option Value) (fa : Addr) (h : Heap), (K w.params).In h → h.Ns mainGlobals mg → mg d.name = some (.ref fa) →
      ∃ fd : FuncData, (∀ (s : Shared) (u : Value), BindsTo s fd ⟨[u], []⟩ [("_law_script", u)]) ∧ ∀ base : Heap, (K w.params).In base → base.Ns mainGlobals mg → FnOk l.prog w (K w.params) mg base CX0 20 fa fd ["_law_script"] (spLaw36 (K w.params))) :
    PySem.W.WalkO q loose XP YP l.row.toRowW d [] (fun f vs => PySem.call f vs) :=
  L2.walk_of (n := 63) (k := 20) (x := "_law_script") (CX := fun _ => CX0) (sp := fun w => spLaw36 (K w.params)) hn (by decide) hdf ⟨rfl, by decide, by decide⟩ hY F (fun _ _ a ns hl _ hS => ⟨a, ns, rfl, hS, hl, fun _ => rfl⟩) fun _ _ _ _ _ z => z
end DL


set_option Elab.async false
open PySem PySem.W PyProof.Rows in
set_option maxRecDepth 100000 in
set_option maxHeartbeats 0 in
theorem PySem.Challenge.cw_drawerlocks_k36_whole_rests_holds : PySem.Challenge.rw_drawerlocks_k36_whole_rests.Holds := by
  w_on; o_law; k_head; (case hw => w_witness2)
  k_fill
  refine DL.walk (l := PySem.Challenge.rw_drawerlocks_k36_whole_rests) rfl rfl (fun w h Y => PySem.W.kIn_of Y) ?F
  case F =>
    intro w mg fa h KX G hmg
    refine' DL.all_mk KX G hmg ?a_is_integer ?l_is_integer ?c_is_integer ?k_is_integer ?a_is_drawer_count ?l_is_drawer_count ?c_is_drawer_count ?k_is_drawer_count ?a_is_drawer ?l_is_drawer ?c_is_drawer ?k_is_drawer ?a_is_bar ?l_is_bar ?c_is_bar ?k_is_bar ?a_check_drawers ?l_check_drawers ?c_check_drawers ?k_check_drawers ?a_check_bars ?l_check_bars ?c_check_bars ?k_check_bars ?a__law_taken ?l__law_taken ?c__law_taken ?k__law_taken ?a__law_parts ?l__law_parts ?c__law_parts ?k__law_parts ?a__law_made ?l__law_made ?c__law_made ?k__law_made ?a_hinders ?l_hinders ?c_hinders ?k_hinders ?a_moved ?l_moved ?c_moved ?k_moved ?a_bars_against ?l_bars_against ?c_bars_against ?k_bars_against ?a_goes ?l_goes ?c_goes ?k_goes ?a_free_drawers ?l_free_drawers ?c_free_drawers ?k_free_drawers ?a__law_hold ?l__law_hold ?c__law_hold ?k__law_hold ?a__law_free ?l__law_free ?c__law_free ?k__law_free ?a__law_moved ?l__law_moved ?c__law_moved ?k__law_moved ?a_check_cabinet ?l_check_cabinet ?c_check_cabinet ?k_check_cabinet ?a_first_standing ?l_first_standing ?c_first_standing ?k_first_standing ?a_rows_from ?l_rows_from ?c_rows_from ?k_rows_from ?a_first_rows ?l_first_rows ?c_first_rows ?k_first_rows ?a__law_all ?l__law_all ?c__law_all ?k__law_all ?a__law_times ?l__law_times ?c__law_times ?k__law_times ?a__law_power ?l__law_power ?c__law_power ?k__law_power ?a_check_number ?l_check_number ?c_check_number ?k_check_number ?a_check_few_drawers ?l_check_few_drawers ?c_check_few_drawers ?k_check_few_drawers ?a_reached_pulls ?l_reached_pulls ?c_reached_pulls ?k_reached_pulls ?a_counts_behind ?l_counts_behind ?c_counts_behind ?k_counts_behind ?a_counts_by_end ?l_counts_by_end ?c_counts_by_end ?k_counts_by_end ?a_count_rows ?l_count_rows ?c_count_rows ?k_count_rows ?a_dot ?l_dot ?c_dot ?k_dot ?a_doubled ?l_doubled ?c_doubled ?k_doubled ?a_one_pull_ways ?l_one_pull_ways ?c_one_pull_ways ?k_one_pull_ways ?a_count_rest ?l_count_rest ?c_count_rest ?k_count_rest ?a_law ?l_law ?c_law ?k_law ?aC ?pg ?hd ?po ?sa ?mk ?kc ?nD ?nB ?a_Cabinet___init__ ?l_Cabinet___init__ ?c_Cabinet___init__ ?k_Cabinet___init__ ?i_init ?pa_drawers ?pg_drawers ?pt_drawers ?pr_drawers ?l_Cabinet_drawers ?c_Cabinet_drawers ?k_Cabinet_drawers ?pa_bars ?pg_bars ?pt_bars ?pr_bars ?l_Cabinet_bars ?c_Cabinet_bars ?k_Cabinet_bars ?ci1 ?ci2 ?ci3 ?ci4 ?ci5 ?z_isinstance ?z_int ?z_bool ?z_tuple ?z_len ?z_enumerate ?z_range ?z_sorted ?z_any ?z_str ?z_sum ?z_list ?z_zip ?aM ?aW ?lW ?aS ?lS ?kS ?oS ?sS ?aMP ?aMC ?aML ?aMV
    (case a_is_integer => k_is)
    (case l_is_integer => k_is)
    (case c_is_integer => k_is)
    (case k_is_integer => k_is)
    (case a_is_drawer_count => k_is)
    (case l_is_drawer_count => k_is)
    (case c_is_drawer_count => k_is)
    (case k_is_drawer_count => k_is)
    (case a_is_drawer => k_is)
    (case l_is_drawer => k_is)
    (case c_is_drawer => k_is)
    (case k_is_drawer => k_is)
    (case a_is_bar => k_is)
    (case l_is_bar => k_is)
    (case c_is_bar => k_is)
    (case k_is_bar => k_is)
    (case a_check_drawers => k_is)
    (case l_check_drawers => k_is)
    (case c_check_drawers => k_is)
    (case k_check_drawers => k_is)
    (case a_check_bars => k_is)
    (case l_check_bars => k_is)
    (case c_check_bars => k_is)
    (case k_check_bars => k_is)
    (case a__law_taken => k_is)
    (case l__law_taken => k_is)
    (case c__law_taken => k_is)
    (case k__law_taken => k_is)
    (case a__law_parts => k_is)
    (case l__law_parts => k_is)
    (case c__law_parts => k_is)
    (case k__law_parts => k_is)
    (case a__law_made => k_is)
    (case l__law_made => k_is)
    (case c__law_made => k_is)
    (case k__law_made => k_is)
    (case a_hinders => k_is)
    (case l_hinders => k_is)
    (case c_hinders => k_is)
    (case k_hinders => k_is)
    (case a_moved => k_is)
    (case l_moved => k_is)
    (case c_moved => k_is)
    (case k_moved => k_is)
    (case a_bars_against => k_is)
    (case l_bars_against => k_is)
    (case c_bars_against => k_is)
    (case k_bars_against => k_is)
    (case a_goes => k_is)
    (case l_goes => k_is)
    (case c_goes => k_is)
    (case k_goes => k_is)
    (case a_free_drawers => k_is)
    (case l_free_drawers => k_is)
    (case c_free_drawers => k_is)
    (case k_free_drawers => k_is)
    (case a__law_hold => k_is)
    (case l__law_hold => k_is)
    (case c__law_hold => k_is)
    (case k__law_hold => k_is)
    (case a__law_free => k_is)
    (case l__law_free => k_is)
    (case c__law_free => k_is)
    (case k__law_free => k_is)
    (case a__law_moved => k_is)
    (case l__law_moved => k_is)
    (case c__law_moved => k_is)
    (case k__law_moved => k_is)
    (case a_check_cabinet => k_is)
    (case l_check_cabinet => k_is)
    (case c_check_cabinet => k_is)
    (case k_check_cabinet => k_is)
    (case a_first_standing => k_is)
    (case l_first_standing => k_is)
    (case c_first_standing => k_is)
    (case k_first_standing => k_is)
    (case a_rows_from => k_is)
    (case l_rows_from => k_is)
    (case c_rows_from => k_is)
    (case k_rows_from => k_is)
    (case a_first_rows => k_is)
    (case l_first_rows => k_is)
    (case c_first_rows => k_is)
    (case k_first_rows => k_is)
    (case a__law_all => k_is)
    (case l__law_all => k_is)
    (case c__law_all => k_is)
    (case k__law_all => k_is)
    (case a__law_times => k_is)
    (case l__law_times => k_is)
    (case c__law_times => k_is)
    (case k__law_times => k_is)
    (case a__law_power => k_is)
    (case l__law_power => k_is)
    (case c__law_power => k_is)
    (case k__law_power => k_is)
    (case a_check_number => k_is)
    (case l_check_number => k_is)
    (case c_check_number => k_is)
    (case k_check_number => k_is)
    (case a_check_few_drawers => k_is)
    (case l_check_few_drawers => k_is)
    (case c_check_few_drawers => k_is)
    (case k_check_few_drawers => k_is)
    (case a_reached_pulls => k_is)
    (case l_reached_pulls => k_is)
    (case c_reached_pulls => k_is)
    (case k_reached_pulls => k_is)
    (case a_counts_behind => k_is)
    (case l_counts_behind => k_is)
    (case c_counts_behind => k_is)
    (case k_counts_behind => k_is)
    (case a_counts_by_end => k_is)
    (case l_counts_by_end => k_is)
    (case c_counts_by_end => k_is)
    (case k_counts_by_end => k_is)
    (case a_count_rows => k_is)
    (case l_count_rows => k_is)
    (case c_count_rows => k_is)
    (case k_count_rows => k_is)
    (case a_dot => k_is)
    (case l_dot => k_is)
    (case c_dot => k_is)
    (case k_dot => k_is)
    (case a_doubled => k_is)
    (case l_doubled => k_is)
    (case c_doubled => k_is)
    (case k_doubled => k_is)
    (case a_one_pull_ways => k_is)
    (case l_one_pull_ways => k_is)
    (case c_one_pull_ways => k_is)
    (case k_one_pull_ways => k_is)
    (case a_count_rest => k_is)
    (case l_count_rest => k_is)
    (case c_count_rest => k_is)
    (case k_count_rest => k_is)
    (case a_law => k_is)
    (case l_law => k_is)
    (case c_law => k_is)
    (case k_law => k_is)
    (case aC => k_is)
    (case pg => k_is)
    (case hd => k_is)
    (case po => k_is)
    (case sa => k_is)
    (case mk => k_is)
    (case kc => k_is)
    (case nD => k_is)
    (case nB => k_is)
    (case a_Cabinet___init__ => k_is)
    (case l_Cabinet___init__ => k_is)
    (case c_Cabinet___init__ => k_is)
    (case k_Cabinet___init__ => k_is)
    (case i_init => k_is)
    (case pa_drawers => k_is)
    (case pg_drawers => k_is)
    (case pt_drawers => k_is)
    (case pr_drawers => k_is)
    (case l_Cabinet_drawers => k_is)
    (case c_Cabinet_drawers => k_is)
    (case k_Cabinet_drawers => k_is)
    (case pa_bars => k_is)
    (case pg_bars => k_is)
    (case pt_bars => k_is)
    (case pr_bars => k_is)
    (case l_Cabinet_bars => k_is)
    (case c_Cabinet_bars => k_is)
    (case k_Cabinet_bars => k_is)
    (case ci1 => first | k_is | rfl)
    (case ci2 => first | k_is | rfl)
    (case ci3 => first | k_is | rfl)
    (case ci4 => first | k_is | rfl)
    (case ci5 => first | k_is | rfl)
    (case z_isinstance => k_is)
    (case z_int => k_is)
    (case z_bool => k_is)
    (case z_tuple => k_is)
    (case z_len => k_is)
    (case z_enumerate => k_is)
    (case z_range => k_is)
    (case z_sorted => k_is)
    (case z_any => k_is)
    (case z_str => k_is)
    (case z_sum => k_is)
    (case z_list => k_is)
    (case z_zip => k_is)
    (case aM => k_is)
    (case aW => k_is)
    (case lW => k_is)
    (case aS => k_is)
    (case lS => k_is)
    (case kS => exact ⟨⟨_, _, rfl, rfl⟩, ⟨_, _, rfl, rfl⟩, True.intro⟩)
    (case oS => k_is)
    (case sS => k_is)
    (case aMP => k_is)
    (case aMC => k_is)
    (case aML => k_is)
    (case aMV => k_is)
