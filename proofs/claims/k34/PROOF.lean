import PyProof.Rows.All
import Wide.All
import OpenK.AllK
import Wide.FinOn
import HandS.ForMost
import HandS.ForExc
import HandS.TupLe
import HandS.TupAny
import HandS.SortOrd
import HandS.SortRule
import HandS.IsInst
import HandS.Conv
import HandS.Wide
import HandS.Property
import HandS.Deep
import HandS.Walk
import HandS.Zip
import HandS.Flow
import KE.GoesEnum
import PySem.Challenge.RW_drawerlocks_k34_whole_seen
import HandS.Replace
import HandS.More
import HandS.TryOnly
import KE.GoesZip
import KE.KSuper
import KE.KExcSuper
import HandS.ClsMeth
import HandS.ExcInit
import HandS.WordsExc
import HandS.FStr
import HandS.Star
import PyProof.Rows.SortShellAny
import KE.DataMinMax
import PyProof.Rows.StrMeet
import HandS.SlotsOwn
import HandS.ExcOwn
import HandS.TryMany
import HandS.ExcField
import HandS.DictComp
import HandS.DictSubView
import HandS.Small
import HandS.SetKeys
import HandS.SetBool
import HandS.Strs
import HandS.Rev
import HandS.Style
import HandS.Codes
import KE.KSortTupAny
import HandS.SetFor
set_option Elab.async false
set_option maxRecDepth 100000
namespace DL
open PySem PySem.Spec PyProof.Rows L2
/-! ### bars: four parts; the words as truth values (true: shut) -/
structure Bar where
  d : Int
  w : Bool
  o : Int
  t : Bool
deriving DecidableEq
def wd (b : Bool) : Str := if b = true then "shut" else "open"
theorem wd_inj : ∀ {a b : Bool}, wd a = wd b → a = b := by decide +kernel
theorem wd_lt : ∀ a b : Bool, decide ((wd a).cps.toList < (wd b).cps.toList) = (!a && b) := by decide +kernel
theorem wd_dec : ∀ a : Bool, decide (wd a = "shut") = a := by decide +kernel
def Bar.key (b : Bar) : List Key := [.inl b.d, .inr (wd b.w), .inl b.o, .inr (wd b.t)]
def Bar.vs (b : Bar) : List V := [.int b.d, .str (wd b.w), .int b.o, .str (wd b.t)]
def b2n (b : Bool) : Int := if b = true then 1 else 0
theorem b2n_le (b : Bool) : 0 ≤ b2n b ∧ b2n b ≤ 1 := by cases b <;> decide
theorem b2n_inj {a b : Bool} (h : b2n a = b2n b) : a = b := by revert h; revert a b; decide
def Bar.code (b : Bar) : Int := ((b.d * 2 + b2n b.w) * 8 + b.o) * 2 + b2n b.t
/-- the parts lie where a bar of at most eight drawers has them -/
def Bar.low (b : Bar) : Prop := 0 ≤ b.d ∧ b.d < 8 ∧ 0 ≤ b.o ∧ b.o < 8
theorem Bar.ext4 {a b : Bar} (h1 : a.d = b.d) (h2 : a.w = b.w) (h3 : a.o = b.o) (h4 : a.t = b.t) : a = b := by
  cases a; cases b; simp only at h1 h2 h3 h4; subst h1 h2 h3 h4; rfl
theorem Bar.code_inj {a b : Bar} (ha : a.low) (hb : b.low) (h : a.code = b.code) : a = b := by
  unfold Bar.low at ha hb
  unfold Bar.code at h
  have w1 := b2n_le a.w; have w2 := b2n_le b.w; have t1 := b2n_le a.t; have t2 := b2n_le b.t
  exact Bar.ext4 (by omega) (b2n_inj (by omega)) (by omega) (b2n_inj (by omega))
/-- what a < b of two such tuples comes to -/
def Bar.ltb (a b : Bar) : Bool := if a.d = b.d then (if a.w = b.w then (if a.o = b.o then (!a.t && b.t) else decide (a.o < b.o)) else (!a.w && b.w)) else decide (a.d < b.d)
theorem Bar.ltb_code {a b : Bar} (ha : a.low) (hb : b.low) : a.ltb b = decide (a.code < b.code) := by
  obtain ⟨ad, aw, ao, at'⟩ := a
  obtain ⟨bd, bw, bo, bt⟩ := b
  unfold Bar.low at ha hb
  unfold Bar.ltb Bar.code b2n
  simp only at ha hb ⊢
  by_cases h1 : ad = bd
  · rw [if_pos h1]
    by_cases h2 : aw = bw
    · rw [if_pos h2]
      by_cases h3 : ao = bo
      · rw [if_pos h3]
        subst h1 h2 h3
        cases at' <;> cases bt <;> simp <;> omega
      · rw [if_neg h3]
        subst h1 h2
        cases at' <;> cases bt <;> simp <;> omega
    · rw [if_neg h2]
      subst h1
      cases aw <;> cases bw <;> cases at' <;> cases bt <;> simp at h2 ⊢ <;> omega
  · rw [if_neg h1]
    cases aw <;> cases bw <;> cases at' <;> cases bt <;> simp <;> omega
/-- a bar read back -/
def barOf : List V → Bar
  | [.int d, .str w, .int o, .str t] => ⟨d, decide (w = "shut"), o, decide (t = "shut")⟩
  | _ => ⟨0, false, 0, false⟩
theorem barOf_vs (b : Bar) : barOf b.vs = b := by
  show (⟨b.d, decide (wd b.w = "shut"), b.o, decide (wd b.t = "shut")⟩ : Bar) = b
  rw [wd_dec, wd_dec]
/-- the bar that stands at an address of the heap -/
def barAt (H : Hp) : V → Bar
  | .ref a => (match H a with | some (.tup xs) => barOf xs | _ => ⟨0, false, 0, false⟩)
  | _ => ⟨0, false, 0, false⟩
theorem barAt_of {H : Hp} {a : Addr} {b : Bar} (h : H a = some (.tup b.vs)) : barAt H (.ref a) = b := by
  show (match H a with | some (.tup xs) => barOf xs | _ => ⟨0, false, 0, false⟩) = b
  rw [h]; exact barOf_vs b
/-! ### sorted(d), d a dict whose keys are such tuples -/
def IsBarV (h : Heap) (v : Value) (b : Bar) : Prop := ∃ a o t1 t2 t3 t4 n, v = .ref a ∧ h.get? a = some o ∧ o.cls = .type "tuple" ∧ o.data = .seq #[.int b.d t1, .str (wd b.w) t2, .int b.o t3, .str (wd b.t) t4] n
theorem IsBarV.keeps {h h' : Heap} {v : Value} {b : Bar} (p : IsBarV h v b) (k : ∀ c o, h.get? c = some o → o.cls = .type "tuple" → h'.get? c = some o) : IsBarV h' v b := by
  obtain ⟨a, o, t1, t2, t3, t4, n, e, ho, hc, hd⟩ := p
  exact ⟨a, o, t1, t2, t3, t4, n, e, k _ _ ho hc, hc, hd⟩
section
variable {prog : Program} {w : World} {A : Around} {E : Value → Shared → Prop} {s : Shared}
theorem oneLt_words (c : Bool) {p q : Str} {t u : Tok} {Q : Bool → Shared → Prop} (h : c = false) (hq : Q (decide (p.cps.toList < q.cps.toList)) s) : wpAny (model prog w) A (oneLt' c (.str p t) (.str q u)) Q E s := by
  subst h
  exact PySem.W.kat_one _ _ (PyProof.Rows.lt_str hq)
theorem bar_cmp {vs : List Value} {kb : Value → Bar} (hp : ∀ v ∈ vs, IsBarV s.heap v (kb v) ∧ (kb v).low) : SrtO.Cmp prog w A s (tuples' true) (fun p => p.1 ∈ vs) (SrtO.lt2 fun v u => decide ((kb v).code < (kb u).code)) := by
  intro p q hm hm'
  obtain ⟨h1, l1⟩ := hp _ hm
  obtain ⟨h2, l2⟩ := hp _ hm'
  show wpAny (model prog w) A (keyLt' (tuples' true) p.1 q.1) (fun r s' => s' = s ∧ r = decide ((kb p.1).code < (kb q.1).code)) (fun _ _ => False) s
  generalize kb p.1 = x at h1 l1 ⊢
  generalize kb q.1 = y at h2 l2 ⊢
  rw [← Bar.ltb_code l1 l2]
  obtain ⟨a, o, t1, t2, t3, t4, n, e, ho, hc, hd⟩ := h1
  obtain ⟨a', o', t1', t2', t3', t4', n', e', ho', hc', hd'⟩ := h2
  rw [e, e']
  refine PySem.W.kat_lt ho hd ho' hd' ?_
  show PySem.W.KatLex prog w A true (decide (4 < 4)) _ [(.int x.d t1, .int y.d t1'), (.str (wd x.w) t2, .str (wd y.w) t2'), (.int x.o t3, .int y.o t3'), (.str (wd x.t) t4, .str (wd y.t) t4')] 0 s
  refine PySem.W.kat_cons (SeqAt.EqAt.int_int x.d t1 y.d t1' prog w _ _ ?_)
  refine PySem.W.kat_go (fun e1 => ?_) (fun e1 => ?_)
  · have e1' : x.d = y.d := by simpa using e1
    refine PySem.W.kat_yes (PySem.W.kat_cons (wpAny_eqBool_str ?_))
    refine PySem.W.kat_go (fun e2 => ?_) (fun e2 => ?_)
    · have e2' : x.w = y.w := wd_inj (by simpa using e2)
      refine PySem.W.kat_yes (PySem.W.kat_cons (SeqAt.EqAt.int_int x.o t3 y.o t3' prog w _ _ ?_))
      refine PySem.W.kat_go (fun e3 => ?_) (fun e3 => ?_)
      · have e3' : x.o = y.o := by simpa using e3
        refine PySem.W.kat_yes (PySem.W.kat_cons (wpAny_eqBool_str ?_))
        refine PySem.W.kat_go (fun e4 => ?_) (fun e4 => ?_)
        · have e4' : x.t = y.t := wd_inj (by simpa using e4)
          refine PySem.W.kat_yes (PySem.W.kat_nil ⟨rfl, ?_⟩)
          unfold Bar.ltb
          rw [if_pos e1', if_pos e2', if_pos e3', e4']
          cases y.t <;> rfl
        · refine PySem.W.kat_no (oneLt_words _ rfl ⟨rfl, ?_⟩)
          unfold Bar.ltb
          rw [if_pos e1', if_pos e2', if_pos e3', wd_lt]
      · have e3' : ¬ x.o = y.o := by simpa using e3
        refine PySem.W.kat_no (PySem.W.kat_one _ _ (PyProof.Rows.lt_int ?_))
        refine (show s = s ∧ decide (x.o < y.o) = x.ltb y from ⟨rfl, ?_⟩)
        unfold Bar.ltb
        rw [if_pos e1', if_pos e2', if_neg e3']
    · have e2' : ¬ x.w = y.w := fun z => by rw [z] at e2; simp at e2
      refine PySem.W.kat_no (oneLt_words _ rfl ⟨rfl, ?_⟩)
      unfold Bar.ltb
      rw [if_pos e1', if_neg e2', wd_lt]
  · have e1' : ¬ x.d = y.d := by simpa using e1
    refine PySem.W.kat_no (oneLt_int ⟨rfl, ?_⟩)
    unfold Bar.ltb
    rw [if_neg e1']
theorem bar_firsts {h : Heap} : ∀ {vs : List Value}, (∀ v ∈ vs, ∃ b, IsBarV h v b) → ∃ fs : List Value, PySem.W.KatTups h vs fs ∧ fs.length = vs.length ∧ ∀ f ∈ fs, ∃ x t, f = Value.int x t
  | [], _ => ⟨[], PySem.W.KatTups.nil, rfl, fun _ hm => by simp at hm⟩
  | v :: vs, hp => by
    obtain ⟨fs, h1, h2, h3⟩ := bar_firsts (vs := vs) fun v' hm => hp v' (List.mem_cons_of_mem _ hm)
    obtain ⟨b, a, o, t1, t2, t3, t4, n, e, ho, hc, hd⟩ := hp v (List.mem_cons_self ..)
    subst e
    refine ⟨.int b.d t1 :: fs, PySem.W.KatTups.cons ho hc hd rfl h1, by rw [List.length_cons, List.length_cons, h2], fun f hm => ?_⟩
    rcases List.mem_cons.mp hm with rfl | hm
    · exact ⟨b.d, t1, rfl⟩
    · exact h3 f hm
theorem swo_code (kb : Value → Bar) : SrtO.Swo fun v u => decide ((kb v).code < (kb u).code) := by
  refine ⟨fun x y h => ?_, fun x y z h1 h2 => ?_⟩
  · have a := of_decide_eq_true h
    exact decide_eq_false (by omega)
  · have a := of_decide_eq_false h1
    have b := of_decide_eq_false h2
    exact decide_eq_false (by omega)
theorem bars_sortableO {a : Addr} {vs : List Value} {kb : Value → Bar} (h0 : 0 < vs.length) (hp : ∀ v ∈ vs, IsBarV s.heap v (kb v) ∧ (kb v).low) (ha : ∀ o, s.heap.get? a = some o → o.cls ≠ .type "tuple") :
    SrtO.SortableO prog w A s a vs fun v u => decide ((kb v).code < (kb u).code) := by
  intro h' keep
  have hp' : ∀ v ∈ vs, IsBarV h' v (kb v) ∧ (kb v).low := fun v hm => ⟨(hp v hm).1.keeps fun b o e c => keep b o (fun z => by subst z; exact ha o e c) e, (hp v hm).2⟩
  obtain ⟨fs, h1, h2, h3⟩ := bar_firsts fun v hm => ⟨_, (hp' v hm).1⟩
  refine ⟨tuples' true, fun Q E hq => ?_, bar_cmp hp'⟩
  refine PySem.W.kat_kind (T := .type "int") h1 (by omega) (fun f hm => ?_) (by rfl) ?_
  · obtain ⟨x, t, rfl⟩ := h3 f hm
    exact PySem.W.Looks.now
  · have e : (Value.type "int" != Value.type "tuple") = true := by first | decide +kernel | rfl | decide
    rw [e]
    exact hq
end
/-- sorted(d): the keys' own tuples, by their codes -/
def rSortB : List V → Hp → VK → Prop := fun xs H Q => ∃ (d : Addr) (kvs : List (List Key × V)) (bs : List Bar), xs = [V.ref d] ∧ Rd H d (.dT kvs) ∧ kvs.map (·.1) = bs.map Bar.key ∧ (∀ b ∈ bs, b.low) ∧
  ∀ (ks : List (Addr × Bar)) (p : Addr), (∀ k ∈ ks, H k.1 = some (.tup k.2.vs)) → (ks.map (·.2)).Perm bs → (ks.map (·.2)).Pairwise (fun x y => x.code ≤ y.code) → H p = none → Q (.ref p) (upd H p (.lst (ks.map fun k => V.ref k.1)))
theorem keys_bars : ∀ {H : Hp} {kvs : List (List Key × V)} {as : List Addr} {bs : List Bar}, IsKeys H kvs as → kvs.map (·.1) = bs.map Bar.key → (∀ a ∈ as, ∃ b ∈ bs, H a = some (.tup b.vs)) ∧ (as.map V.ref).map (barAt H) = bs := by
  intro H kvs as bs ik
  unfold IsKeys at ik
  induction ik generalizing bs with
  | nil =>
    intro e
    cases bs with
    | nil => exact ⟨fun a ha => by simp at ha, rfl⟩
    | cons b bs => simp at e
  | @cons kv a kvs' as' h t ih =>
    intro e
    cases bs with
    | nil => simp at e
    | cons b bs =>
      rw [List.map_cons, List.map_cons] at e
      injection e with e1 e2
      obtain ⟨i1, i2⟩ := ih e2
      have hb : H a = some (.tup b.vs) := by rw [h, e1]; rfl
      refine ⟨fun c hc => ?_, ?_⟩
      · rcases List.mem_cons.mp hc with rfl | hc
        · exact ⟨b, List.mem_cons_self, hb⟩
        · obtain ⟨b', m, q⟩ := i1 c hc
          exact ⟨b', List.mem_cons_of_mem _ m, q⟩
      · rw [List.map_cons, List.map_cons, i2, barAt_of hb]
section
variable {X : Cx}
theorem cr_sortB (hcalm : X.calm = true) : CallR X (.builtin "sorted") rSortB := by
  intro pins s σ H xs us Q I r h
  obtain ⟨d, kvs, bs, rfl, hd, hks, hlow, q⟩ := h
  obtain ⟨u, rfl, rx⟩ := r.one
  obtain rfl : u = Value.ref d := rx
  obtain ⟨z, hs, ks, pr, o, es, ep, ho, hx, hdt, he, hn⟩ := (show ObjOk X.prog X.w H s.heap d (.dT kvs) from hd.ok I.hok)
  have l1 : es.size = ks.length := size_of_entries he
  have l2 : kvs.length = ks.length := Paired.length pr
  refine Calls.call_function_entry PyProof.Rows.kind_sorted PyProof.Rows.plain_sorted PyProof.Rows.entry_sorted (PyProof.Rows.args_sorted1 _) ?_
  unfold Builtin.«sorted»
  refine wpAny_bind (m := checkCount "sorted" 1 1 _) (wpAny_pure ?_)
  refine wpAny_bind (PySem.W.kdu_collect (A := X.A.in1) (kdl_raw hs hx hdt) (I.ok.hd hcalm) ho (by omega) fun h' tk acc hk it => ?_)
  have ea : acc.toList = ks.map fun x => Value.ref x.2.1 := by
    have hl : acc.toList.length = ks.length := by rw [Array.length_toList, it.1]; exact l1
    apply List.ext_getElem?
    intro j
    rw [List.getElem?_map]
    cases hj : acc.toList[j]? with
    | none =>
      have h1 := List.getElem?_eq_none_iff.mp hj
      rw [List.getElem?_eq_none (by omega)]
      all_goals rfl
    | some v =>
      obtain ⟨en, hen, hv⟩ := it.2 j v (by rw [← Array.getElem?_toList]; exact hj)
      have qe := entry_at he j
      rw [hen] at qe
      cases hb : ks[j]? with
      | none =>
        rw [hb] at qe
        exact nomatch (show some en = none from qe)
      | some b =>
        rw [hb] at qe
        have e2 : en = entryOfKey (tupleKind (mixKind X.prog X.w)) b := Option.some.inj qe
        rw [hv, e2]
        all_goals rfl
  have ik : IsKeys H kvs (ks.map fun x => x.2.1) := isKeys_of pr
  obtain ⟨kb1, kb2⟩ := keys_bars ik hks
  generalize has : (ks.map fun x => x.2.1) = as at ik kb1 kb2
  have ea' : acc.toList = as.map Value.ref := by rw [ea, ← has, List.map_map]; rfl
  have hal : acc.toList.length = as.length := by rw [ea', List.length_map]
  have hasz : as.length ≤ sizeLine := by rw [← has, List.length_map]; omega
  have I1 : Inv X pins σ H { s with heap := h', toks := tk } := I.kept hk
  refine wpAny_bind (wpAny_newList ?_ (by rw [hal]; exact hasz))
  have hoL : (h'.push (seqObj "list" acc.toList.toArray 0)).get? h'.objs.size = some (seqObj "list" acc.toList.toArray 0) := Heap.get?_push_size _ rfl
  show wpAny _ _ _ _ _ { s with heap := h'.push (seqObj "list" acc.toList.toArray 0), toks := tk }
  have hbar : ∀ v ∈ acc.toList, IsBarV h' v (barAt H (backV v)) ∧ (barAt H (backV v)).low := fun v hv => by
    rw [ea'] at hv
    obtain ⟨a, ham, rfl⟩ := List.mem_map.mp hv
    obtain ⟨b, hbm, hHa⟩ := kb1 a ham
    have e1 : barAt H (backV (Value.ref a)) = b := barAt_of hHa
    rw [e1]
    refine ⟨?_, hlow b hbm⟩
    obtain ⟨_, its, rv, oo, h1, h2, n, h3⟩ := (show ObjOk X.prog X.w H h' a (.tup b.vs) from I1.hok a _ hHa)
    cases rv with
    | cons r1 rv =>
      cases rv with
      | cons r2 rv =>
        cases rv with
        | cons r3 rv =>
          cases rv with
          | cons r4 rv =>
            cases rv
            obtain ⟨t1, rfl⟩ := r1
            obtain ⟨t2, rfl⟩ := r2
            obtain ⟨t3, rfl⟩ := r3
            obtain ⟨t4, rfl⟩ := r4
            exact ⟨a, oo, t1, t2, t3, t4, n, rfl, h1, h2, h3⟩
  refine wpAny_bind (wpAny_holding (wpAny_call_entry PyProof.Rows.slot_list_sort ⟨_, hoL, rfl⟩ PyProof.Rows.entry_list_sort
    (SrtO.list_sort_ord (s := { s with heap := h'.push (seqObj "list" acc.toList.toArray 0), toks := tk }) (swo_code fun v => barAt H (backV v)) hoL (by rw [hal]; exact hasz) (fun h2 => ?_) fun out hs hb => ⟨_, rfl, ?_⟩)
    (PyProof.Rows.args_list_sort _)))
  · refine bars_sortableO (by omega) (fun v hv => ⟨(hbar v hv).1.keeps fun c oo e _ => Heap.get?_push_of_some _ e, (hbar v hv).2⟩) fun oo e => ?_
    have e' : some oo = some (seqObj "list" acc.toList.toArray 0) := e.symm.trans hoL
    cases e'
    intro c
    exact absurd (Value.type.inj c) (by decide)
  · obtain ⟨e', he'⟩ := PyProof.Rows.sortedHeap_at (vs := acc.toList) (out := out.toArray) hoL
    have pm : out.Perm (as.map Value.ref) := by rw [← ea']; exact hb.perm
    have href : ∀ v ∈ out, ∃ a, v = Value.ref a ∧ a ∈ as := fun v hv => by
      obtain ⟨a, ha, rfl⟩ := List.mem_map.mp (pm.mem_iff.mp hv)
      exact ⟨a, rfl, ha⟩
    have e1 : out.map backV = (out.map fun v => ((match v with | .ref a => a | _ => 0 : Addr), barAt H (backV v))).map fun k => V.ref k.1 := by
      rw [List.map_map]
      refine List.map_congr_left fun v hv => ?_
      obtain ⟨a, rfl, _⟩ := href v hv
      rfl
    have e2 : (out.map fun v => ((match v with | .ref a => a | _ => 0 : Addr), barAt H (backV v))).map (·.2) = out.map fun v => barAt H (backV v) := by
      rw [List.map_map]; rfl
    have pm2 : (out.map fun v => barAt H (backV v)).Perm bs := by
      have q1 := pm.map fun v => barAt H (backV v)
      have q2 : (as.map Value.ref).map (fun v => barAt H (backV v)) = bs := by
        rw [← kb2, List.map_map, List.map_map]; rfl
      rw [q2] at q1
      exact q1
    have qq := q (out.map fun v => ((match v with | .ref a => a | _ => 0 : Addr), barAt H (backV v))) h'.objs.size (fun k hk2 => by
        obtain ⟨v, hv, rfl⟩ := List.mem_map.mp hk2
        obtain ⟨a, rfl, ha⟩ := href v hv
        obtain ⟨b, _, hH⟩ := kb1 a ha
        show H a = some (.tup (barAt H (.ref a)).vs)
        rw [barAt_of hH]
        exact hH) (by rw [e2]; exact pm2) (by
        rw [e2, List.pairwise_map]
        exact hs.imp fun {x y} q => by
          have := of_decide_eq_false q
          omega) (I1.hok.fresh (Nat.le_refl _))
    rw [← e1] at qq
    refine wpAny_pure ⟨_, rfl, .ref h'.objs.size, upd H h'.objs.size (.lst (out.map backV)), I1.laid (t' := tk) (fun b u e => ?_) (Nat.le_refl _)
      (show ObjOk X.prog X.w _ _ _ (.lst (out.map backV)) from ⟨?_, out, e', vals_back fun v hv => ?_, he'⟩), rfl, qq⟩
    · have hb : b < h'.objs.size := Heap.lt_size e
      rw [PyProof.Rows.sortedHeap_old (Nat.ne_of_lt hb) (by rw [size_push']; exact Nat.lt_succ_of_lt hb)]
      exact Heap.get?_push_of_some _ e
    · rw [List.length_map, pm.length_eq, List.length_map]
      exact hasz
    · obtain ⟨a, e, _⟩ := href v hv
      exact ⟨a, e⟩
end
end DL

set_option Elab.async false
set_option maxRecDepth 100000
namespace DL
open PySem PySem.Spec PyProof.Rows L2
/-! ### bar <= bar -/
def Bar.leb (a b : Bar) : Bool := decide (a.code ≤ b.code)
def Bar.leq (a b : Bar) : Bool := if a.d = b.d then (if a.w = b.w then (if a.o = b.o then (if a.t = b.t then true else !(!b.t && a.t)) else decide (a.o ≤ b.o)) else !(!b.w && a.w)) else decide (a.d ≤ b.d)
theorem Bar.leq_code {a b : Bar} (ha : a.low) (hb : b.low) : a.leq b = a.leb b := by
  obtain ⟨ad, aw, ao, at'⟩ := a
  obtain ⟨bd, bw, bo, bt⟩ := b
  unfold Bar.low at ha hb
  unfold Bar.leq Bar.leb Bar.code b2n
  simp only at ha hb ⊢
  by_cases h1 : ad = bd
  · rw [if_pos h1]
    by_cases h2 : aw = bw
    · rw [if_pos h2]
      by_cases h3 : ao = bo
      · rw [if_pos h3]
        subst h1 h2 h3
        cases at' <;> cases bt <;> simp <;> omega
      · rw [if_neg h3]
        subst h1 h2
        cases at' <;> cases bt <;> simp <;> omega
    · rw [if_neg h2]
      subst h1
      cases aw <;> cases bw <;> cases at' <;> cases bt <;> simp at h2 ⊢ <;> omega
  · rw [if_neg h1]
    cases aw <;> cases bw <;> cases at' <;> cases bt <;> simp <;> omega
def rLeB (K : PySem.W.Frag) : R2 := fun x y H Q => ∃ (a b : Addr) (p q : Bar), x = .ref a ∧ y = .ref b ∧ SqT K H a p.vs ∧ SqT K H b q.vs ∧ Q (.bl (p.leq q)) H
theorem four_of {p : Bar} {its : List Value} (r : Vals p.vs its) : ∃ t1 t2 t3 t4, its = [.int p.d t1, .str (wd p.w) t2, .int p.o t3, .str (wd p.t) t4] := by
  cases r with
  | cons r1 rv =>
    cases rv with
    | cons r2 rv =>
      cases rv with
      | cons r3 rv =>
        cases rv with
        | cons r4 rv =>
          cases rv
          obtain ⟨t1, rfl⟩ := r1
          obtain ⟨t2, rfl⟩ := r2
          obtain ⟨t3, rfl⟩ := r3
          obtain ⟨t4, rfl⟩ := r4
          exact ⟨t1, t2, t3, t4, rfl⟩
theorem beq_dec {α : Type} [BEq α] [LawfulBEq α] [DecidableEq α] (a b : α) : (a == b) = decide (a = b) := by
  by_cases q : a = b
  · rw [decide_eq_true q]; exact beq_iff_eq.mpr q
  · rw [decide_eq_false q]; exact beq_eq_false_iff_ne.mpr q
theorem wd_beq (a b : Bool) : ((wd a) == (wd b)) = decide (a = b) := by revert a b; decide +kernel
theorem op_leB {X : Cx} (hu : X.A.units < cLine) : OpR X (compareOp .LtE) (rLeB X.K) := by
  intro pins s σ H x y v u Q I rx ry h
  obtain ⟨a, b, p, q, rfl, rfl, ha, hb, hq⟩ := h
  cases rx
  cases ry
  obtain ⟨its, r1, p1, _⟩ := I.tuple ha
  obtain ⟨its2, r2, p2, _⟩ := I.tuple hb
  obtain ⟨t1, t2, t3, t4, rfl⟩ := four_of r1
  obtain ⟨u1, u2, u3, u4, rfl⟩ := four_of r2
  have R := Ob.RcOp.tuples_le (A := X.A) (s := s) (e := fun j => match j with | 0 => decide (p.d = q.d) | 1 => decide (p.w = q.w) | 2 => decide (p.o = q.o) | _ => decide (p.t = q.t))
    (r := fun j => match j with | 0 => decide (p.d ≤ q.d) | 1 => !(!q.w && p.w) | 2 => decide (p.o ≤ q.o) | _ => !(!q.t && p.t)) p1 p2 hu (fun j h1 h2 => by
      match j, h1, h2 with
      | 0, _, _ => show SeqAt.EqAt _ _ (.int p.d t1) (.int q.d u1) (decide (p.d = q.d)); rw [← beq_dec]; exact SeqAt.EqAt.int_int _ _ _ _
      | 1, _, _ => show SeqAt.EqAt _ _ (.str (wd p.w) t2) (.str (wd q.w) u2) (decide (p.w = q.w)); rw [← wd_beq]; exact SeqAt.EqAt.str_str _ _ _ _
      | 2, _, _ => show SeqAt.EqAt _ _ (.int p.o t3) (.int q.o u3) (decide (p.o = q.o)); rw [← beq_dec]; exact SeqAt.EqAt.int_int _ _ _ _
      | 3, _, _ => show SeqAt.EqAt _ _ (.str (wd p.t) t4) (.str (wd q.t) u4) (decide (p.t = q.t)); rw [← wd_beq]; exact SeqAt.EqAt.str_str _ _ _ _
      | n + 4, h1, _ => exact absurd (show n + 4 < 4 from h1) (by omega)) (fun j h1 h2 _ => by
      match j, h1, h2 with
      | 0, _, _ => exact Ob.RcOp.le_int _ _ _ _
      | 1, _, _ =>
        show Ob.RcOp .LtE _ _ (.str (wd p.w) t2) (.str (wd q.w) u2) (!(!q.w && p.w))
        rw [← wd_lt]
        exact fun _ _ _ _ h => PySem.P.le_str h
      | 2, _, _ => exact Ob.RcOp.le_int _ _ _ _
      | 3, _, _ =>
        show Ob.RcOp .LtE _ _ (.str (wd p.t) t4) (.str (wd q.t) u4) (!(!q.t && p.t))
        rw [← wd_lt]
        exact fun _ _ _ _ h => PySem.P.le_str h
      | n + 4, h1, _ => exact absurd (show n + 4 < 4 from h1) (by omega))
  have z : wpAny (model X.prog X.w) X.A (compareOp .LtE (.ref a) (.ref b)) (EP X pins σ Q) X.xe s := R X.prog X.w X.xe (EP X pins σ Q) (by
    refine ⟨.bl (p.leq q), H, I, ?_, hq⟩
    show Value.bool _ = Value.bool (p.leq q)
    have e : (Ob.lexAt (fun j => match j with | 0 => decide (p.d = q.d) | 1 => decide (p.w = q.w) | 2 => decide (p.o = q.o) | _ => decide (p.t = q.t))
      (fun j => match j with | 0 => decide (p.d ≤ q.d) | 1 => !(!q.w && p.w) | 2 => decide (p.o ≤ q.o) | _ => !(!q.t && p.t)) true 0 4) = p.leq q := by
      unfold Bar.leq
      simp only [Ob.lexAt, decide_eq_true_eq]
    exact congrArg Value.bool e)
  exact z
/-! ### for i, x in enumerate(t), t a tuple -/
def IteT (K : PySem.W.Frag) (a : Addr) : It :=
  ⟨fun i H => ∃ (xs : List V) (x : V), SqT K H a xs ∧ xs[i]? = some x, fun i H v H' => ∃ T x, v = .ref T ∧ H T = none ∧ H' = upd H T (.tup [.int (i : Nat), x]) ∧ ∀ xs, SqT K H a xs → xs[i]? = some x, fun i H => ∃ xs : List V, SqT K H a xs ∧ xs.length ≤ i⟩
theorem turn_enumT {P : Program} {w : World} {K : PySem.W.Frag} {elts : List Expr} {kk : Nat} {tpos : Pos} (a e it : Addr) (hai : a ≠ it) (hae : e ≠ a) :
    Turn P w K (.Tuple elts kk tpos) (IteT K a) [e, it] e (fun i h => (∃ old, IsEnum h e it ((i : Nat) : Int) old) ∧ h.IsTupleIter it a i ∧ e ≠ it) where
  mem := by simp
  obj := fun i h st b hb => by
    obtain ⟨⟨old, he⟩, ⟨o, ho, hc, hd⟩, _⟩ := st
    have e' : b = e ∨ b = it := by simpa using hb
    rcases e' with z | z
    · rw [z]; exact ⟨_, he, fun v q => nomatch q⟩
    · rw [z]; exact ⟨o, ho, fun v q => by rw [hd] at q; cases q⟩
  keep := fun i h h' st k => let ⟨⟨old, he⟩, hi, hne⟩ := st; ⟨⟨old, k e (by simp) _ he⟩, hi.at fun o q => k it (by simp) o q, hne⟩
  item := by
    intro X hP hw hK hc i pins s σ H E I hf st hg
    subst hP hw hK
    obtain ⟨⟨old, he⟩, hit, hne⟩ := st
    obtain ⟨xs, x, hq, hx⟩ := hg
    obtain ⟨its, rv, p, hz⟩ := I.tuple hq
    obtain ⟨u, hu, ru⟩ := rv.get hx
    have hel : e < s.heap.objs.size := Heap.lt_size he
    have hil : it < s.heap.objs.size := by obtain ⟨_, q, _⟩ := hit; exact Heap.lt_size q
    have hlt : i < its.toArray.size := by
      have := (List.getElem?_eq_some_iff.mp hu).1
      simpa using this
    refine wpAny_pyNext_enum_itemD (Draws.tuple (A := X.A.in1) (I.ok.hd hc) it a hai its.toArray) he ⟨hit, p⟩ hlt hne (by simp; exact ⟨hne, hae⟩) fun x1 h' tk hp ho hst' hT hsz hk => ?_
    have hx1 : x1 = u := by
      have q : its.toArray[i]? = some u := by simpa using hu
      rw [q] at hp
      exact (Option.some.inj hp).symm
    subst hx1
    refine ⟨_, rfl, wpAny_letOwnedTupleGo_enum (s := { s with heap := h', toks := tk + 1 }) ho fun h'' he' sb => ?_⟩
    have hT2 : h''.get? s.heap.objs.size = some { cls := .type "tuple", data := .seq #[.int i tk, x1] } := (sb.2 _ (Nat.ne_of_gt hel)).trans hT
    have new : ObjOk X.prog X.w (upd H s.heap.objs.size (.tup [.int (i : Nat), x])) h'' s.heap.objs.size (.tup [.int (i : Nat), x]) :=
      ⟨by show 2 ≤ sizeLine; decide, [.int i tk, x1], .cons ⟨_, rfl⟩ (.cons ru .nil), ⟨_, hT2, rfl, _, rfl⟩⟩
    have I1 : Inv X pins σ (upd H s.heap.objs.size (.tup [.int (i : Nat), x])) { s with heap := h'', toks := tk + 1 } :=
      I.turnedNew (ch := [e, it]) (fun b ob hb q => (sb.2 b (fun z => hb (by simp [z]))).trans (hk b ob (fun z => hb (by simp [z])) (fun z => hb (by simp [z])) q)) hf (Nat.le_refl _) new
    refine ⟨.ref s.heap.objs.size, _, I1, rfl, ⟨_, x, rfl, I.hok.fresh (Nat.le_refl _), rfl, fun ys hy => by rw [I.tuple_inj hy hq]; exact hx⟩, ⟨⟨x1, ?_⟩, hst'.1.at fun o q => (sb.2 it (Ne.symm hne)).trans q, hne⟩, fun b hb => ?_⟩
    · have e1 : ((i + 1 : Nat) : Int) = (i : Int) + 1 := by omega
      rw [e1]; exact he'
    · have hb' : b < s.heap.objs.size := by
        have e' : b = e ∨ b = it := by simpa using hb
        rcases e' with z | z
        · rw [z]; exact hel
        · rw [z]; exact hil
      rw [upd_ne (Nat.ne_of_lt hb')]
      exact (hf b hb).1
  done := by
    intro X hP hw hK hc i pins s σ H E I hf st hg
    subst hP hw hK
    obtain ⟨⟨old, he⟩, hit, hne⟩ := st
    obtain ⟨xs, hq, hx⟩ := hg
    obtain ⟨its, rv, p, hz⟩ := I.tuple hq
    obtain ⟨f0, f1, f2, f3, f4, f5⟩ := hf it (by simp)
    have hl := rv.length
    have D := Draws.tuple (prog := X.prog) (w := X.w) (A := X.A.in1) (I.ok.hd hc) it a hai its.toArray
    have go : ∀ {Q : Option Value → Shared → Prop}, (∀ h', Heap.ExtBut it s.heap h' → Q none { s with heap := h' }) → wpAny (model X.prog X.w) X.A (pyNext (.ref e)) Q E s := by
      intro Q hQ
      unfold pyNext
      have hT : s.TypeIs (.ref e) "enumerate" := ⟨_, he, rfl⟩
      refine wpAny_bind (wpAny_attempt (wpAny_callSpecial?_slot (name := Str.ofString "__next__") hT F.slot_enumerate_next
        (wpAny_call_entry F.slot_enumerate_next hT F.entry_enumerate_next ?_ (F.args_enumerate_next_1 _))))
      show wpAny _ _ (field (.ref e) 2 >>= _) _ _ _
      refine wpAny_bind (wpAny_field he rfl (x := .ref it) rfl ?_)
      refine wpAny_bind (wpAny_nextOf_tuple_end (I.ok.hd hc) hit p (by simp; omega) fun h' x he' hx' => ?_)
      obtain ⟨o, ho, hc⟩ := hx'
      refine wpAny_bind (wpAny_isInstance (T := "StopIteration") (b := true) ⟨o, ho, hc⟩ isSubtype_stop ?_)
      exact wpAny_pure (hQ _ he')
    exact go fun h' eb => ⟨rfl, I.turned (t' := s.toks) (fun b o hb q => eb b o hb q) f0 f1 f3 f4 f5⟩
  self := fun A i s Q E st h => let ⟨⟨_, he⟩, _⟩ := st; wpAny_pyIter_enum he h
def iEnumT (K : PySem.W.Frag) (ta : TA) : TI := fun σ H R => ta σ H fun vs H1 => ∃ a xs, vs = [.ref a] ∧ SqT K H1 a xs ∧ R (IteT K a) H1
end DL

set_option Elab.async false
set_option maxRecDepth 100000
namespace DL
open PySem PySem.Spec PyProof.Rows L2
open Sem (wp)
set_option maxHeartbeats 1000000 in
theorem meets_enumerate_newB1 {v : Value} {o : Obj} {H : Heap → Prop} (B : Begins v o H) :
    Meets (Builtin.«enumerate.__new__» ⟨[.type "enumerate", v], []⟩) (fun _ R s => H s.heap ∧
      R (.ok (.ret (.ref (s.heap.push o).objs.size))) { s with heap := (s.heap.push o).push { cls := .type "enumerate", data := .fields #[.none, .bool false, .ref s.heap.objs.size, rawInt 0, .none, .none] } }) :=
  .of_wp fun prog w A R s h => by
    obtain ⟨hp, g, d, tk, os⟩ := s; obtain ⟨h1, h⟩ := h
    have hsub := sub_enumerate
    have q1 : ∀ {A' : Around} {E : Value → Shared → Prop} {Q : Value → Shared → Prop}, Q (.ref hp.objs.size) ⟨hp.push o, g, d, tk, os⟩ → wpAny (model prog w) A' (pyIter v) Q E ⟨hp, g, d, tk, os⟩ :=
      fun q => B.iter prog w _ _ ⟨hp, g, d, tk, os⟩ _ h1 q
    wp_walk using q1
    refine wpAny_stack_any fun st => wpAny_pure ?_
    split
    · rename_i c _ _ _ _ _
      cases (c == Value.type "enumerate")
      · wp_walk using q1
        exact ⟨_, rfl, h⟩
      · wp_walk using q1
        exact ⟨_, rfl, h⟩
    · wp_walk using q1
      exact ⟨_, rfl, h⟩
section
variable {prog : Program} {w : World} {A : Around} {E : Value → Shared → Prop} {s : Shared}
theorem enum_begins1 {v : Value} {o : Obj} {H : Heap → Prop} {Q : Value → Shared → Prop} (B : Begins v o H) (h1 : H s.heap)
    (h : ∀ h', IsEnum h' (s.heap.objs.size + 1) s.heap.objs.size 0 .none → h'.get? s.heap.objs.size = some o → h'.objs.size = s.heap.objs.size + 2 →
      (∀ b o, s.heap.get? b = some o → h'.get? b = some o) → Q (.ref (s.heap.objs.size + 1)) { s with heap := h' }) :
    wpAny (model prog w) A (call (.type "enumerate") [v]) Q E s := by
  refine callType_new F.called_enumerate (by decide) (F.typeCall_enumerate_1 _) (F.newCall_enumerate_1 _) (fun obj => F.args_object_init_2 obj _) F.entry_enumerate_new
    (meets_enumerate_newB1 B) ⟨h1, ?_⟩
  have hz : (s.heap.push o).objs.size = s.heap.objs.size + 1 := Heap.size_push ..
  show _ ∧ _
  rw [hz]
  have he : IsEnum ((s.heap.push o).push { cls := .type "enumerate", data := .fields #[.none, .bool false, .ref s.heap.objs.size, rawInt 0, .none, .none] }) (s.heap.objs.size + 1) s.heap.objs.size 0 .none := by
    have := Heap.get?_push_size (s.heap.push o) (o := { cls := .type "enumerate", data := .fields #[.none, .bool false, .ref s.heap.objs.size, rawInt 0, .none, .none] }) rfl
    rw [hz] at this; exact this
  refine ⟨⟨_, he, rfl⟩, h _ he (Heap.get?_push_of_some _ (Heap.get?_push_size _ B.free)) (by rw [Heap.size_push, hz]) fun b o x => Heap.get?_push_of_some _ (Heap.get?_push_of_some _ x)⟩
end
theorem pi_enumT {X : Cx} {e : Expr} {ta : TA} {p pos tpos : Pos} {elts : List Expr} {kk : Nat} (hg : Gl X "enumerate") (hm : X.mg "enumerate" = none) (ha : PA X [e] ta) (hs : starEach [e] X.env = [(false, eval e X.env)] := by rfl) :
    PI X (.Tuple elts kk tpos) (.Call (.Name "enumerate" p) [e] [] pos) (iEnumT X.K ta) := by
  refine ⟨fun pins s σ H R I h => ?_⟩
  refine Call_ (ld_blt I hg hm boot_enumerate (PyProof.Rows.callWith_type1 (thn (ha.run pos pins s σ H _ I h) fun us s1 ⟨vs, H1, I1, r1, q1⟩ => ?_) hs rfl))
  obtain ⟨a, xs, ex, hq, q⟩ := q1
  subst ex
  cases r1 with
  | cons r rr =>
    cases rr
    cases r
    obtain ⟨its, rv, p', hz⟩ := I1.tuple hq
    have hal : a < s1.heap.objs.size := by obtain ⟨o, ho, _⟩ := id p'; exact Heap.lt_size ho
    refine enum_begins1 (begins_tuple a its.toArray) (show s1.heap.IsTuple a its.toArray from p') fun h' he hit hsz hk => wpAny_pyIter_enum he ?_
    have I2 : Inv X pins σ H1 { s1 with heap := h' } := I1.kept (t' := s1.toks) hk
    refine ⟨s1.heap.objs.size + 1, [s1.heap.objs.size + 1, s1.heap.objs.size], _, _, H1, rfl, I2, turn_enumT a (s1.heap.objs.size + 1) s1.heap.objs.size (Nat.ne_of_lt hal) (Nat.ne_of_gt (Nat.lt_succ_of_lt hal)),
      ⟨⟨.none, he⟩, ⟨_, hit, rfl, rfl⟩, Nat.succ_ne_self _⟩, fun b hb => ?_, q⟩
    have e' : b = s1.heap.objs.size + 1 ∨ b = s1.heap.objs.size := by simpa using hb
    have hle : s1.heap.objs.size ≤ b := by
      rcases e' with z | z
      · rw [z]; exact Nat.le_add_right _ _
      · rw [z]; exact Nat.le_refl _
    exact I1.fpOk hle (I1.hok.fresh hle)
theorem walk_enumT {K : PySem.W.Frag} {a : Addr} {xs : List V} : Walk (IteT K a) xs.length (fun H => SqT K H a xs) (YPair (fun i => some (.int (i : Nat))) (fun i => xs[i]?)) := by
  refine ⟨fun i _ hi q => ⟨xs, xs[i], q, by simp [hi]⟩, fun _ q => ⟨xs, q, Nat.le_refl _⟩, fun i H v H' _ q y => ?_⟩
  obtain ⟨T, x, h1, h2, h3, h4⟩ := y
  exact ⟨T, .int (i : Nat), x, h1, h2, h3, rfl, h4 xs q⟩
end DL

set_option Elab.async false
set_option maxRecDepth 100000
namespace DL
open PySem L2
def top (i : Nat) : Stmt := PySem.Challenge.pw_drawerlocks_k34_whole_seen.main.body.getD i (.Pass ⟨0, 0, 0, 0⟩)
abbrev sIsInt : Stmt := top 10
abbrev sIsCount : Stmt := top 11
abbrev sIsDrawer : Stmt := top 12
abbrev sIsBar : Stmt := top 13
abbrev s_first_standing : Stmt := top 14
abbrev s_hinders : Stmt := top 15
abbrev s_moved : Stmt := top 16
abbrev sInit : Stmt := inClass (top 18) 0
abbrev sDrawers : Stmt := inClass (top 18) 1
abbrev sBars : Stmt := inClass (top 18) 2
abbrev s_free_drawers : Stmt := top 19
abbrev s_goes : Stmt := top 20
abbrev s_bars_against : Stmt := top 21
abbrev sCheckDrawers : Stmt := top 22
abbrev sCheckBars : Stmt := top 23
abbrev s_check_cabinet : Stmt := top 24
abbrev s_first_rows : Stmt := top 26
abbrev s_reached_pulls : Stmt := top 27
abbrev s_rows_from : Stmt := top 28
abbrev s_counts_behind : Stmt := top 30
abbrev s_fits_many : Stmt := top 33
abbrev s_first_fit : Stmt := top 34
abbrev s_stands_after : Stmt := top 35
abbrev s_sure_pulls : Stmt := top 36
abbrev s_counts_after : Stmt := top 37
abbrev s_pulls_onward : Stmt := top 38
abbrev s_pulls_agreeing : Stmt := top 39
abbrev s_check_seen : Stmt := top 40
abbrev sTaken : Stmt := top 42
abbrev sParts : Stmt := top 43
abbrev sMade : Stmt := top 44
abbrev s__law_hold : Stmt := top 45
abbrev s__law_free : Stmt := top 46
abbrev s__law_moved : Stmt := top 47
abbrev s_law : Stmt := top 48
end DL

set_option Elab.async false
set_option maxRecDepth 100000
namespace DL
open PySem L2
/-! ### the facts of the top -/
structure Bt (mg : Str → Option Value) : Prop where
  isinstance : mg "isinstance" = none
  int : mg "int" = none
  bool : mg "bool" = none
  tuple : mg "tuple" = none
  len : mg "len" = none
  enumerate : mg "enumerate" = none
  range : mg "range" = none
  sorted : mg "sorted" = none
/-! ### is_integer -/
structure spIsInt (K : PySem.W.Frag) (vs : List V) (H : Hp) (Q : VK) (_ : XK) : Prop where
  h : ∃ (v : V) (t : Value) (b1 b2 : Bool), vs = [v] ∧ TyX K H v t ∧ PySem.W.kitOne K t (.type "int") = some b1 ∧ PySem.W.kitOne K t (.type "bool") = some b2 ∧ Q (.bl (b1 && !b2)) H
section
variable {P : Program} {w : World} {K : PySem.W.Frag} {mg : Str → Option Value} {base : Heap}
theorem scIsInt : FnScope ["value"] ["value"] (defScope sIsInt) := ⟨rfl, rfl, rfl, by decide +kernel, rfl, by decide +kernel, by decide +kernel⟩
theorem ok_isInt {f : Addr} {fd : FuncData} (F : Fun K "is_integer" "is_integer" sIsInt f fd) (T : Bt mg) : FnOk P w K mg base CX0 1 f fd ["value"] (spIsInt K) := by
  refine F.ok scIsInt (fun vs H Q E h => ?_) (fun cdv A outer s H vs Q E hr h => ?_)
  · obtain ⟨v, t, b1, b2, rfl, _⟩ := h.h
    rfl
  · obtain ⟨v, t, b1, b2, rfl, ty, k1, k2, k⟩ := h.h
    refine ⟨_, pss_one (ps_ret (pe_and (pe_callB call_isi (by rfl) T.isinstance (by decide +kernel) (pa_cons (pv 0) (pa_cons (pe_bltn (v := .ty "int") (by rfl) T.int (by decide +kernel) rfl) pa_nil)))
      (pe_one (pe_not (pe_callB call_isi (by rfl) T.isinstance (by decide +kernel) (pa_cons (pv 0) (pa_cons (pe_bltn (v := .ty "bool") (by rfl) T.bool (by decide +kernel) rfl) pa_nil))))))), ?_⟩
    refine ⟨_, rfl, _, _, t, _, b1, rfl, .ty "int", ty, k1, b1, rfl, ?_⟩
    cases b1 with
    | false => exact iteF k
    | true => exact iteT ⟨_, rfl, _, _, t, _, b2, rfl, .ty "bool", ty, k2, b2, rfl, k⟩
/-! ### is_drawer_count(value), is_drawer(drawers, value) -/
/-- an int as value: whether it is one; any other known thing: False -/
structure spIsCount (K : PySem.W.Frag) (vs : List V) (H : Hp) (Q : VK) (_ : XK) : Prop where
  h : (∃ n : Int, vs = [.int n] ∧ Q (.bl (decide (1 ≤ n) && decide (n ≤ 7))) H) ∨
  ∃ (v : V) (t : Value) (b1 b2 : Bool), vs = [v] ∧ TyX K H v t ∧ PySem.W.kitOne K t (.type "int") = some b1 ∧ PySem.W.kitOne K t (.type "bool") = some b2 ∧ (b1 && !b2) = false ∧ Q (.bl false) H
theorem scIsCount : FnScope ["value"] ["value"] (defScope sIsCount) := ⟨rfl, rfl, rfl, by decide +kernel, rfl, by decide +kernel, by decide +kernel⟩
theorem ok_isCount {f f1 : Addr} {fd fd1 : FuncData} (F : Fun K "is_drawer_count" "is_drawer_count" sIsCount f fd) (_T : Bt mg) (G : FnOk P w K mg base CX0 1 f1 fd1 ["value"] (spIsInt K)) (g1 : mg "is_integer" = some (.ref f1)) (k1 : PySem.W.keepIn K (.ref f1) = true) (b1 : Binds K fd1 ["value"] [])
    (gM : ∃ t, mg "MOST_DRAWERS" = some (.int 7 t)) : FnOk P w K mg base CX0 2 f fd ["value"] (spIsCount K) := by
  refine F.ok scIsCount (fun vs H Q E h => ?_) (fun cdv A outer s H vs Q E hr h => ?_)
  · rcases h.h with ⟨n, rfl, _⟩ | ⟨v, t, b1, b2, rfl, _⟩ <;> rfl
  · obtain ⟨tM, gM⟩ := gM
    refine ⟨_, pss_one (ps_ret (pe_and (pe_call G (hr.mono (by decide)) rfl g1 k1 b1 .nil pass0 (pa_cons (pv 0) pa_nil)) (pe_one (pe_chain op_le op_le pe_int (pv 0) (pe_glob (v := .int 7) rfl gM ⟨_, rfl⟩))))), ?_⟩
    rcases h.h with ⟨n, rfl, k⟩ | ⟨v, t, c1, c2, rfl, ty, e1, e2, e3, k⟩
    · refine ⟨_, rfl, ⟨.int n, .type "int", true, false, rfl, .base (.int n), kit_ty (by decide +kernel), kit_ty (by decide +kernel), true, rfl, iteT ?_⟩⟩
      refine ⟨_, rfl, _, _, rfl, rfl, _, rfl, ?_⟩
      by_cases h1 : 1 ≤ n
      · rw [decide_eq_true h1] at k ⊢
        exact iteT ⟨_, _, rfl, rfl, k⟩
      · rw [decide_eq_false h1] at k ⊢
        exact iteF k
    · refine ⟨_, rfl, ⟨v, t, c1, c2, rfl, ty, e1, e2, _, rfl, ?_⟩⟩
      rw [e3]
      exact iteF k
structure spIsDrawer (K : PySem.W.Frag) (vs : List V) (H : Hp) (Q : VK) (_ : XK) : Prop where
  h : ∃ n : Int, (∃ i : Int, vs = [.int n, .int i] ∧ Q (.bl (decide (0 ≤ i) && decide (i < n))) H) ∨
  ∃ (v : V) (t : Value) (b1 b2 : Bool), vs = [.int n, v] ∧ TyX K H v t ∧ PySem.W.kitOne K t (.type "int") = some b1 ∧ PySem.W.kitOne K t (.type "bool") = some b2 ∧ (b1 && !b2) = false ∧ Q (.bl false) H
theorem scIsDrawer : FnScope ["drawers", "value"] ["drawers", "value"] (defScope sIsDrawer) := ⟨rfl, rfl, rfl, by decide +kernel, rfl, by decide +kernel, by decide +kernel⟩
theorem ok_isDrawer {f f1 : Addr} {fd fd1 : FuncData} (F : Fun K "is_drawer" "is_drawer" sIsDrawer f fd) (_T : Bt mg) (G : FnOk P w K mg base CX0 1 f1 fd1 ["value"] (spIsInt K)) (g1 : mg "is_integer" = some (.ref f1)) (k1 : PySem.W.keepIn K (.ref f1) = true) (b1 : Binds K fd1 ["value"] []) :
    FnOk P w K mg base CX0 2 f fd ["drawers", "value"] (spIsDrawer K) := by
  refine F.ok scIsDrawer (fun vs H Q E h => ?_) (fun cdv A outer s H vs Q E hr h => ?_)
  · rcases h.h with ⟨n, ⟨i, rfl, _⟩ | ⟨v, t, b1, b2, rfl, _⟩⟩ <;> rfl
  · refine ⟨_, pss_one (ps_ret (pe_and (pe_call G (hr.mono (by decide)) rfl g1 k1 b1 .nil pass0 (pa_cons (pv 1) pa_nil)) (pe_one (pe_chain op_le op_lt pe_int (pv 1) (pv 0))))), ?_⟩
    rcases h.h with ⟨n, ⟨i, rfl, k⟩ | ⟨v, t, c1, c2, rfl, ty, e1, e2, e3, k⟩⟩
    · refine ⟨_, rfl, ⟨.int i, .type "int", true, false, rfl, .base (.int i), kit_ty (by decide +kernel), kit_ty (by decide +kernel), true, rfl, iteT ?_⟩⟩
      refine ⟨_, rfl, _, _, rfl, rfl, _, rfl, ?_⟩
      by_cases h1 : 0 ≤ i
      · rw [decide_eq_true h1] at k ⊢
        exact iteT ⟨_, rfl, _, _, rfl, rfl, k⟩
      · rw [decide_eq_false h1] at k ⊢
        exact iteF k
    · refine ⟨_, rfl, ⟨v, t, c1, c2, rfl, ty, e1, e2, _, rfl, ?_⟩⟩
      rw [e3]
      exact iteF k
end
end DL

set_option Elab.async false
set_option maxRecDepth 100000
namespace DL
open PySem L2
/-! ### is_bar -/
def scV : V → Bool
  | .non => true | .bl _ => true | .int _ => true | .str _ => true | _ => false
def isD (n : Int) : V → Bool
  | .int i => decide (0 ≤ i) && decide (i < n)
  | _ => false
def inW : V → Bool
  | .str z => decide (z = "open") || decide (z = "shut")
  | _ => false
def barB (n : Int) (x0 x1 x2 x3 : V) : Bool := isD n x0 && (isD n x2 && (!decide (x0 = x2) && (inW x1 && inW x3)))
theorem inW_in (x : V) (h : scV x = true) : inV x [.str "open", .str "shut"] = inW x ∧ flatV x = true := by
  have z1 : ∀ z : Str, ((("open" : Str) == z) || ((("shut" : Str) == z) || false)) = (decide (z = "open") || decide (z = "shut")) := fun z => by
    rw [beq_dec, beq_dec, Bool.or_false]
    congr 1
    · exact decide_eq_decide.mpr ⟨Eq.symm, Eq.symm⟩
    · exact decide_eq_decide.mpr ⟨Eq.symm, Eq.symm⟩
  cases x with
  | str z => exact ⟨z1 z, rfl⟩
  | non => exact ⟨rfl, rfl⟩
  | bl b => exact ⟨rfl, rfl⟩
  | int i => exact ⟨rfl, rfl⟩
  | _ => cases h
theorem spIsDrawer_sc {K : PySem.W.Frag} {n : Int} {x : V} {H : Hp} {Q : VK} {E : XK} (hx : scV x = true) (k : Q (.bl (isD n x)) H) : spIsDrawer K [.int n, x] H Q E := by
  cases x with
  | int i => exact ⟨⟨n, .inl ⟨i, rfl, k⟩⟩⟩
  | non => exact ⟨⟨n, .inr ⟨.non, .type "NoneType", false, false, rfl, .base .non, kit_ty (by decide +kernel), kit_ty (by decide +kernel), rfl, k⟩⟩⟩
  | bl b => exact ⟨⟨n, .inr ⟨.bl b, .type "bool", true, true, rfl, .base (.bl b), kit_ty (by decide +kernel), kit_ty (by decide +kernel), rfl, k⟩⟩⟩
  | str z => exact ⟨⟨n, .inr ⟨.str z, .type "str", false, false, rfl, .base (.str z), kit_ty (by decide +kernel), kit_ty (by decide +kernel), rfl, k⟩⟩⟩
  | _ => cases hx
theorem tyT {K : PySem.W.Frag} {H : Hp} {a : Addr} {xs : List V} (h : SqT K H a xs) : TyX K H (.ref a) (.type "tuple") := by
  rcases h with (h | ⟨o, h⟩) | ⟨o, its, n, h1, h2, _⟩
  · exact .base (.tup h)
  · exact .fTuple h
  · exact .kTuple h1 h2
structure spIsBar (K : PySem.W.Frag) (vs : List V) (H : Hp) (Q : VK) (_ : XK) : Prop where
  h : ∃ n : Int, (∃ (v : V) (t : Value), vs = [.int n, v] ∧ TyX K H v t ∧ PySem.W.kitOne K t (.type "tuple") = some false ∧ Q (.bl false) H) ∨
  (∃ (a : Addr) (xs : List V), vs = [.int n, .ref a] ∧ SqT K H a xs ∧ xs.length ≠ 4 ∧ Q (.bl false) H) ∨
  ∃ (a : Addr) (x0 x1 x2 x3 : V), vs = [.int n, .ref a] ∧ SqT K H a [x0, x1, x2, x3] ∧ scV x0 = true ∧ scV x1 = true ∧ scV x2 = true ∧ scV x3 = true ∧ Q (.bl (barB n x0 x1 x2 x3)) H
section
variable {P : Program} {w : World} {K : PySem.W.Frag} {mg : Str → Option Value} {base : Heap}
theorem scIsBar : FnScope ["drawers", "value", "drawer", "way", "other", "stand"] ["drawers", "value"] (defScope sIsBar) := ⟨rfl, rfl, rfl, by decide +kernel, rfl, by decide +kernel, by decide +kernel⟩
theorem ok_isBar {f f1 : Addr} {fd fd1 : FuncData} (F : Fun K "is_bar" "is_bar" sIsBar f fd) (T : Bt mg) (G : FnOk P w K mg base CX0 2 f1 fd1 ["drawers", "value"] (spIsDrawer K)) (g1 : mg "is_drawer" = some (.ref f1)) (k1 : PySem.W.keepIn K (.ref f1) = true) (b1 : Binds K fd1 ["drawers", "value"] [])
    (gW : ∃ aW, mg "WORDS" = some (.ref aW) ∧ ∀ H, SqT K H aW [.str "open", .str "shut"]) : FnOk P w K mg base CX0 3 f fd ["drawers", "value"] (spIsBar K) := by
  refine F.ok scIsBar (fun vs H Q E h => ?_) (fun cdv A outer s H vs Q E hr h => ?_)
  · rcases h.h with ⟨n, ⟨v, t, rfl, _⟩ | ⟨a, xs, rfl, _⟩ | ⟨a, x0, x1, x2, x3, rfl, _⟩⟩ <;> rfl
  · obtain ⟨aW, gW, hW⟩ := gW
    refine ⟨_, pss_cons (ps_if (PW.pt (pw_or (pt_not (pt_val (pe_callB call_isi (by rfl) T.isinstance (by decide +kernel) (pa_cons (pv 1) (pa_cons (pe_bltn (v := .ty "tuple") (by rfl) T.tuple (by decide +kernel) rfl) pa_nil)))))
        (pw_or1 (pt_cmpR op_ne (pe_callB call_len_seq (by rfl) T.len PySem.boot_len (pa_cons (pv 1) pa_nil)) pe_int (nomark _))))) (pss_one (ps_ret pe_bl)) pss_nil)
      (pss_cons (ps_asg (pv 1) (pg_tup (by rfl) (pgs_cons (pg_name (i := 2) scIsBar.nd rfl (.inl rfl)) (pgs_cons (pg_name (i := 3) scIsBar.nd rfl (.inl rfl)) (pgs_cons (pg_name (i := 4) scIsBar.nd rfl (.inl rfl)) (pgs_cons (pg_name (i := 5) scIsBar.nd rfl (.inl rfl)) pgs_nil))))))
      (pss_cons (ps_if (PW.pt (pw_or (pt_not (pt_val (pe_call G (hr.mono (by decide)) rfl g1 k1 b1 .nil pass0 (pa_cons (pv 0) (pa_cons (pv 2) pa_nil))))) (pw_or1 (pt_not (pt_val (pe_call G (hr.mono (by decide)) rfl g1 k1 b1 .nil pass0 (pa_cons (pv 0) (pa_cons (pv 4) pa_nil)))))))) (pss_one (ps_ret pe_bl)) pss_nil)
      (pss_one (ps_ret (pe_and (pe_cmpR op_ne (pv 2) (pv 4) (nomark _)) (pe_and (pe_cmpR op_in_seq (pv 3) (pe_glob (v := .ref aW) rfl gW rfl) (by rfl)) (pe_one (pe_cmpR op_in_seq (pv 5) (pe_glob (v := .ref aW) rfl gW rfl) (by rfl))))))))), ?_⟩
    rcases h.h with ⟨n, ⟨v, t, rfl, ty, e, k⟩ | ⟨a, xs, rfl, hq, hl, k⟩ | ⟨a, x0, x1, x2, x3, rfl, hq, c0, c1, c2, c3, k⟩⟩
    · exact ⟨_, rfl, _, _, t, _, false, rfl, .ty "tuple", ty, e, _, rfl, iteT (iteT k)⟩
    · refine ⟨_, rfl, _, _, _, _, true, rfl, .ty "tuple", tyT hq, kit_ty (by decide +kernel), _, rfl, iteF ?_⟩
      refine ⟨_, rfl, a, xs, rfl, .inr hq, rfl, _, rfl, ?_⟩
      refine ite2 (fun _ => k) (fun z => ?_)
      exact absurd (show (.int (xs.length : Int) : V) = .int 4 by simpa using z) (fun q => hl (by injection q with q; omega))
    · refine ⟨_, rfl, _, _, _, _, true, rfl, .ty "tuple", tyT hq, kit_ty (by decide +kernel), _, rfl, iteF ?_⟩
      refine ⟨_, rfl, a, _, rfl, .inr hq, rfl, _, rfl, iteF ?_⟩
      refine ⟨_, rfl, a, _, rfl, hq, rfl, x0, _, rfl, x1, _, rfl, x2, _, rfl, x3, _, rfl, rfl, ?_⟩
      refine ⟨_, rfl, _, rfl, ?_⟩
      refine spIsDrawer_sc c0 ⟨_, rfl, ?_⟩
      unfold barB at k
      cases d0 : isD n x0 with
      | false => rw [d0] at k; exact iteT (iteT k)
      | true =>
        rw [d0] at k
        refine iteF ⟨_, rfl, _, rfl, ?_⟩
        refine spIsDrawer_sc c2 ⟨_, rfl, ?_⟩
        cases d2 : isD n x2 with
        | false => rw [d2] at k; exact iteT k
        | true =>
          rw [d2] at k
          refine iteF ?_
          obtain ⟨i0, rfl⟩ : ∃ i, x0 = .int i := by cases x0 <;> first | exact ⟨_, rfl⟩ | cases d0
          obtain ⟨i2, rfl⟩ : ∃ i, x2 = .int i := by cases x2 <;> first | exact ⟨_, rfl⟩ | cases d2
          refine ⟨_, rfl, _, rfl, rfl, _, rfl, ?_⟩
          have k' : Q (.bl (!decide ((.int i0 : V) = .int i2) && (inW x1 && inW x3))) H := k
          cases e : decide ((.int i0 : V) = .int i2) with
          | true => rw [e] at k'; exact iteF k'
          | false =>
            rw [e] at k'
            refine iteT ⟨_, rfl, aW, _, rfl, .inr (hW H), (inW_in x1 c1).2, rfl, _, rfl, ?_⟩
            show if inV x1 _ = true then _ else _
            rw [(inW_in x1 c1).1]
            have k'' : Q (.bl (inW x1 && inW x3)) H := k'
            cases e1 : inW x1 with
            | false => rw [e1] at k''; exact iteF k''
            | true =>
              rw [e1] at k''
              refine iteT ⟨_, rfl, aW, _, rfl, .inr (hW H), (inW_in x3 c3).2, rfl, ?_⟩
              show Q (.bl (inV x3 _)) H
              rw [(inW_in x3 c3).1]
              exact k''
end
end DL

set_option Elab.async false
set_option maxRecDepth 100000
namespace DL
open PySem L2
/-! ### bars of the heap -/
structure BarsAt (H : Hp) (t : Addr) (ks : List (Addr × Bar)) : Prop where
  tu : H t = some (.tup (ks.map fun k => V.ref k.1))
  el : ∀ k ∈ ks, H k.1 = some (.tup k.2.vs)
theorem BarsAt.same {H H' : Hp} {t : Addr} {ks : List (Addr × Bar)} (B : BarsAt H t ks) (s : Same H H') : BarsAt H' t ks := ⟨s _ _ B.tu, fun k hk => s _ _ (B.el k hk)⟩
def Bar.ok (n : Int) (b : Bar) : Prop := 0 ≤ b.d ∧ b.d < n ∧ 0 ≤ b.o ∧ b.o < n ∧ b.d ≠ b.o
theorem Bar.ok.low {n : Int} {b : Bar} (h : b.ok n) (hn : n ≤ 7) : b.low := by
  obtain ⟨h1, h2, h3, h4, _⟩ := h
  exact ⟨h1, by omega, h3, by omega⟩
structure OkBars (n : Int) (bs : List Bar) : Prop where
  ok : ∀ b ∈ bs, b.ok n
  asc : bs.Pairwise fun x y => x.code < y.code
theorem inW_wd (b : Bool) : inW (.str (wd b)) = true := by revert b; decide +kernel
theorem barB_ok {n : Int} {b : Bar} (h : b.ok n) : barB n (.int b.d) (.str (wd b.w)) (.int b.o) (.str (wd b.t)) = true := by
  obtain ⟨h1, h2, h3, h4, h5⟩ := h
  unfold barB
  rw [inW_wd, inW_wd]
  show ((decide (0 ≤ b.d) && decide (b.d < n)) && ((decide (0 ≤ b.o) && decide (b.o < n)) && (!decide ((.int b.d : V) = .int b.o) && true))) = true
  have e : decide ((.int b.d : V) = .int b.o) = false := decide_eq_false fun q => h5 (by injection q)
  rw [decide_eq_true h1, decide_eq_true h2, decide_eq_true h3, decide_eq_true h4, e]
  rfl
theorem spIsBar_ok {K : PySem.W.Frag} {n : Int} {a : Addr} {b : Bar} {H : Hp} {Q : VK} {E : XK} (h : b.ok n) (ha : SqT K H a b.vs) (k : Q (.bl true) H) : spIsBar K [.int n, .ref a] H Q E :=
  ⟨⟨n, .inr (.inr ⟨a, _, _, _, _, rfl, ha, rfl, rfl, rfl, rfl, by rw [barB_ok h]; exact k⟩)⟩⟩
theorem SqT.of' {K : PySem.W.Frag} {H : Hp} {a : Addr} {xs : List V} (h : H a = some (.tup xs)) : SqT K H a xs := .inl (.inl h)
theorem same_upd {H : Hp} {p : Addr} {o : HO} (h : H p = none) : Same H (upd H p o) := fun b u e => by rw [upd_ne (ne_of_none e h)]; exact e
theorem at_prev {α : Type} {xs : List α} {i : Nat} {v : α} (h0 : 0 < i) (h : xs[i - 1]? = some v) : atI xs ((i : Int) - 1) = some v := by
  have e : (i : Int) - 1 = ((i - 1 : Nat) : Int) := by omega
  rw [e]
  exact atI_nat h
theorem pw_prev {bs : List Bar} (h : bs.Pairwise fun x y => x.code < y.code) {i : Nat} (h0 : 0 < i) {x y : Bar} (hx : bs[i - 1]? = some x) (hy : bs[i]? = some y) : x.code < y.code := by
  obtain ⟨l1, e1⟩ := List.getElem?_eq_some_iff.mp hx
  obtain ⟨l2, e2⟩ := List.getElem?_eq_some_iff.mp hy
  have := List.pairwise_iff_getElem.mp h (i - 1) i l1 l2 (by omega)
  rw [e1, e2] at this
  exact this
theorem not_leq {n : Int} {x y : Bar} (hn : n ≤ 7) (hx : x.ok n) (hy : y.ok n) (h : x.code < y.code) : y.leq x = false := by
  rw [Bar.leq_code (hy.low hn) (hx.low hn)]
  exact decide_eq_false (by omega)
/-! ### check_drawers, check_bars, __init__ of what is right -/
structure spCheckDrawers (vs : List V) (H : Hp) (Q : VK) (_ : XK) : Prop where
  h : ∃ n : Int, vs = [.int n] ∧ 1 ≤ n ∧ n ≤ 7 ∧ Q .non H
structure spCheckBars (vs : List V) (H : Hp) (Q : VK) (_ : XK) : Prop where
  h : ∃ (n : Int) (t : Addr) (ks : List (Addr × Bar)), vs = [.int n, .ref t] ∧ n ≤ 7 ∧ BarsAt H t ks ∧ OkBars n (ks.map (·.2)) ∧ ∀ H', Same H H' → Q .non H'
theorem kd_ : ¬ (("_drawers" : Str) = "_bars") := by decide +kernel
def cfl (n : Int) (t : Addr) : List (Str × V) := putF "_bars" (.ref t) (putF "_drawers" (.int n) [])
theorem cfl_d (n : Int) (t : Addr) : (cfl n t).lookup ("_drawers" : Str) = some (.int n) := by
  unfold cfl
  rw [lookup_putF, if_neg kd_, lookup_putF, if_pos rfl]
theorem cfl_b (n : Int) (t : Addr) : (cfl n t).lookup ("_bars" : Str) = some (.ref t) := by
  unfold cfl
  rw [lookup_putF, if_pos rfl]
/-- a Cabinet stands at c -/
def CabAt (C : Addr) (H : Hp) (c : Addr) (n : Int) (t : Addr) : Prop := ∃ dx, H c = some (.ins C dx (cfl n t))
structure spInit (C : Addr) (vs : List V) (H : Hp) (Q : VK) (_ : XK) : Prop where
  h : ∃ (p dx : Addr) (n : Int) (t : Addr) (ks : List (Addr × Bar)), vs = [.ref p, .int n, .ref t] ∧ H p = some (.ins C dx []) ∧ 1 ≤ n ∧ n ≤ 7 ∧ BarsAt H t ks ∧ OkBars n (ks.map (·.2)) ∧
    ∀ H', H' p = some (.ins C dx (cfl n t)) → (∀ b o, b ≠ p → H b = some o → H' b = some o) → Q .non H'
/-- the class -/
structure CabT (K : PySem.W.Frag) (mg : Str → Option Value) (C : Addr) : Prop where
  cl : Cls K C
  nD : NoAttr K C "_drawers"
  nB : NoAttr K C "_bars"
  mgC : mg "Cabinet" = some (.ref C)
section
variable {P : Program} {w : World} {K : PySem.W.Frag} {mg : Str → Option Value} {base : Heap}
theorem scCheckDrawers : FnScope ["drawers"] ["drawers"] (defScope sCheckDrawers) := ⟨rfl, rfl, rfl, by decide +kernel, rfl, by decide +kernel, by decide +kernel⟩
theorem ok_checkDrawers {f f1 : Addr} {fd fd1 : FuncData} (F : Fun K "check_drawers" "check_drawers" sCheckDrawers f fd) (G : FnOk P w K mg base CX0 2 f1 fd1 ["value"] (spIsCount K)) (g1 : mg "is_drawer_count" = some (.ref f1)) (k1 : PySem.W.keepIn K (.ref f1) = true) (b1 : Binds K fd1 ["value"] []) :
    FnOk P w K mg base CX0 3 f fd ["drawers"] spCheckDrawers := by
  refine F.ok scCheckDrawers (fun vs H Q E h => ?_) (fun cdv A outer s H vs Q E hr h => ?_)
  · obtain ⟨n, rfl, _⟩ := h.h
    rfl
  · obtain ⟨n, rfl, h1, h2, k⟩ := h.h
    refine ⟨_, pss_one (ps_if (pt_not (pt_val (pe_call G (hr.mono (by decide)) rfl g1 k1 b1 .nil pass0 (pa_cons (pv 0) pa_nil)))) (pss_one ps_never) pss_nil), ?_⟩
    refine ⟨_, rfl, ⟨.inl ⟨n, rfl, _, rfl, ?_⟩⟩⟩
    rw [decide_eq_true h1, decide_eq_true h2]
    exact iteF k
theorem scCheckBars : FnScope ["drawers", "bars", "index", "bar"] ["drawers", "bars"] (defScope sCheckBars) := ⟨rfl, rfl, rfl, by decide +kernel, rfl, by decide +kernel, by decide +kernel⟩
theorem ok_checkBars {f f1 : Addr} {fd fd1 : FuncData} (F : Fun K "check_bars" "check_bars" sCheckBars f fd) (T : Bt mg) (G : FnOk P w K mg base CX0 3 f1 fd1 ["drawers", "value"] (spIsBar K)) (g1 : mg "is_bar" = some (.ref f1)) (k1 : PySem.W.keepIn K (.ref f1) = true) (b1 : Binds K fd1 ["drawers", "value"] []) :
    FnOk P w K mg base CX0 4 f fd ["drawers", "bars"] spCheckBars := by
  refine F.ok scCheckBars (fun vs H Q E h => ?_) (fun cdv A outer s H vs Q E hr h => ?_)
  · obtain ⟨n, t, ks, rfl, _⟩ := h.h
    rfl
  · obtain ⟨n, t, ks, rfl, hn, B, O, k⟩ := h.h
    have hu : _ < cLine := hr.units0
    refine ⟨_, pss_cons (ps_if (pt_not (pt_val (pe_callB call_isi (by rfl) T.isinstance (by decide +kernel) (pa_cons (pv 1) (pa_cons (pe_bltn (v := .ty "tuple") (by rfl) T.tuple (by decide +kernel) rfl) pa_nil))))) (pss_one ps_never) pss_nil)
      (pss_one (ps_for PassesOwn.never rfl (pi_enumT (by rfl) T.enumerate (pa_cons (pv 1) pa_nil)) (pg_tup (by rfl) (pgs_cons (pg_name (i := 2) scCheckBars.nd rfl (.inl rfl)) (pgs_cons (pg_name (i := 3) scCheckBars.nd rfl (.inl rfl)) pgs_nil)))
        (pss_cons (ps_if (pt_not (pt_val (pe_call G (hr.mono (by decide)) rfl g1 k1 b1 .nil pass0 (pa_cons (pv 0) (pa_cons (pv 3) pa_nil))))) (pss_one ps_never) pss_nil)
        (pss_one (ps_if (PW.pt (pw_and (pt_cmpR op_gt (pv 2) pe_int (nomark _)) (pw_and1 (pt_cmpR (op_leB hu) (pv 3) (pe_ix ix_tup (pv 1) (pe_op op_sub (pv 2) pe_int) (fun _ _ => rfl)) (nomark _))))) (pss_one ps_never) pss_nil))))), ?_⟩
    refine ⟨_, rfl, _, _, _, _, true, rfl, .ty "tuple", tyT (SqT.of' B.tu), kit_ty (by decide +kernel), _, rfl, iteF ?_⟩
    refine ⟨_, rfl, t, _, rfl, SqT.of' B.tu, ?_⟩
    refine for_it walk_enumT (fun i σ H' => ∃ v2 v3, σ = [some (.int n), some (.ref t), v2, v3] ∧ Same H H') ⟨_, _, rfl, Same.refl H⟩ (fun i σ H' _ ⟨_, _, _, s1⟩ => SqT.of' (s1 _ _ B.tu)) ?_ ?_
    · rintro i x σ H1 H2 hi ⟨v2, v3, rfl, s1⟩ ⟨T, x1, x2, rfl, hT, rfl, e1, e2⟩
      have e1' : V.int (i : Nat) = x1 := Option.some.inj e1
      subst e1'
      have e2 : (ks.map fun k => V.ref k.1)[i]? = some x2 := e2
      rw [List.getElem?_map] at e2
      cases ek : ks[i]? with
      | none => rw [ek] at e2; cases e2
      | some kk =>
        rw [ek] at e2
        have e2' : V.ref kk.1 = x2 := Option.some.inj e2
        subst e2'
        have s2 : Same H (upd H1 T (.tup [.int (i : Nat), .ref kk.1])) := s1.trans (same_upd hT)
        have hm : kk ∈ ks := List.mem_of_getElem? ek
        have hok : kk.2.ok n := O.ok _ (List.mem_map.mpr ⟨kk, hm, rfl⟩)
        refine ⟨T, _, rfl, SqT.of' upd_same, rfl, _, _, rfl, _, _, rfl, rfl, ?_⟩
        refine ⟨_, rfl, _, rfl, spIsBar_ok hok (SqT.of' (s2 _ _ (B.el kk hm))) ⟨_, rfl, iteF ?_⟩⟩
        refine ⟨_, rfl, _, _, rfl, rfl, _, rfl, ?_⟩
        refine ite2 (fun z => ?_) (fun z => iteF ⟨_, _, rfl, s2⟩)
        have h0 : 0 < i := by have := of_decide_eq_true z; omega
        obtain ⟨kp, ep⟩ : ∃ kp, ks[i - 1]? = some kp := by
          have := (List.getElem?_eq_some_iff.mp ek).1
          exact ⟨ks[i - 1]'(by omega), List.getElem?_eq_getElem (by omega)⟩
        have hmp : kp ∈ ks := List.mem_of_getElem? ep
        have hokp : kp.2.ok n := O.ok _ (List.mem_map.mpr ⟨kp, hmp, rfl⟩)
        refine ⟨_, rfl, _, rfl, _, rfl, _, _, rfl, rfl, t, _, _, .ref kp.1, rfl, rfl, SqT.of' (s2 _ _ B.tu), at_prev h0 (by rw [List.getElem?_map, ep]; rfl), ?_⟩
        refine ⟨kk.1, kp.1, kk.2, kp.2, rfl, rfl, SqT.of' (s2 _ _ (B.el kk hm)), SqT.of' (s2 _ _ (B.el kp hmp)), _, rfl, ?_⟩
        have hlt : kp.2.code < kk.2.code := pw_prev O.asc h0 (by rw [List.getElem?_map, ep]; rfl) (by rw [List.getElem?_map, ek]; rfl)
        rw [not_leq hn hokp hok hlt]
        exact iteF ⟨_, _, rfl, s2⟩
    · rintro σ H' ⟨v2, v3, rfl, s1⟩
      exact k H' s1
theorem scInit : FnScope ["self", "drawers", "bars"] ["self", "drawers", "bars"] (defScope sInit) := ⟨rfl, rfl, rfl, by decide +kernel, rfl, by decide +kernel, by decide +kernel⟩
theorem ok_init {f f1 f2 C : Addr} {fd fd1 fd2 : FuncData} (F : Fun K "__init__" "Cabinet.__init__" sInit f fd) (T : CabT K mg C) (G1 : FnOk P w K mg base CX0 3 f1 fd1 ["drawers"] spCheckDrawers) (g1 : mg "check_drawers" = some (.ref f1)) (k1 : PySem.W.keepIn K (.ref f1) = true) (b1 : Binds K fd1 ["drawers"] [])
    (G2 : FnOk P w K mg base CX0 4 f2 fd2 ["drawers", "bars"] spCheckBars) (g2 : mg "check_bars" = some (.ref f2)) (k2 : PySem.W.keepIn K (.ref f2) = true) (b2 : Binds K fd2 ["drawers", "bars"] []) : FnOk P w K mg base CX0 5 f fd ["self", "drawers", "bars"] (spInit C) := by
  refine F.ok scInit (fun vs H Q E h => ?_) (fun cdv A outer s H vs Q E hr h => ?_)
  · obtain ⟨p, dx, n, t, ks, rfl, _⟩ := h.h
    rfl
  · obtain ⟨p, dx, n, t, ks, rfl, hp, h1, h7, B, O, k⟩ := h.h
    refine ⟨_, pss_cons (ps_expr (pe_call G1 (hr.mono (by decide)) rfl g1 k1 b1 .nil pass0 (pa_cons (pv 1) pa_nil))) (pss_cons (ps_expr (pe_call G2 (hr.mono (by decide)) rfl g2 k2 b2 .nil pass0 (pa_cons (pv 1) (pa_cons (pv 2) pa_nil))))
      (pss_cons (ps_fld (pv 0) (pv 1) rfl) (pss_one (ps_fld (pv 0) (pv 2) rfl)))), ?_⟩
    refine ⟨_, rfl, ⟨n, rfl, h1, h7, ?_⟩⟩
    refine ⟨_, rfl, _, rfl, ⟨n, t, ks, rfl, h7, B, O, fun H1 s1 => ?_⟩⟩
    refine ⟨_, rfl, _, rfl, p, C, dx, _, rfl, s1 _ _ hp, T.cl, T.nD, (by show 0 < 1000; decide), _, rfl, _, rfl, p, C, dx, _, rfl, upd_same, T.cl, T.nB, (by show 1 < 1000; decide), ?_⟩
    refine k _ upd_same fun b o hb e => ?_
    rw [upd_ne hb, upd_ne hb]
    exact s1 _ _ e
end
end DL

set_option Elab.async false
set_option maxRecDepth 100000
namespace DL
open PySem L2
/-! ### drawing: the row of draws stands at r, the script at sc -/
def But (r : Addr) (H H' : Hp) : Prop := ∀ b o, b ≠ r → H b = some o → H' b = some o
theorem But.refl (r : Addr) (H : Hp) : But r H H := fun _ _ _ h => h
theorem But.trans {r : Addr} {H H1 H2 : Hp} (a : But r H H1) (b : But r H1 H2) : But r H H2 := fun c o hc h => b c o hc (a c o hc h)
theorem sbut {r : Addr} {H H' : Hp} (s : Same H H') : But r H H' := fun c o _ h => s c o h
theorem but_upd {r : Addr} {H : Hp} {o : HO} : But r H (upd H r o) := fun c u hc h => by rw [upd_ne hc]; exact h
theorem But.seq {K : PySem.W.Frag} {r : Addr} {H H' : Hp} {a : Addr} {xs : List V} (s : But r H H') (ha : a ≠ r) (h : SqL K H a xs) : SqL K H' a xs := by
  rcases h with (h | ⟨o, h⟩) | h
  · exact .inl (.inl (s _ _ ha h))
  · exact .inl (.inr ⟨o, s _ _ ha h⟩)
  · exact .inr h
theorem But.tup {r : Addr} {H H' : Hp} {a : Addr} {xs : List V} {ys : List V} (s : But r H H') (hr : H r = some (.lst ys)) (h : H a = some (.tup xs)) : H' a = some (.tup xs) :=
  s _ _ (ne_of h hr (by intro z; cases z)) h
structure RowOk (H : Hp) (r sc : Addr) : Prop where
  h : ∃ i m e : Int, H r = some (.lst [.ref sc, .int i, .int m, .int e]) ∧ 0 ≤ i ∧ 0 ≤ m ∧ m < 2147483647 ∧ 0 ≤ e
theorem RowOk.same {H H' : Hp} {r sc : Addr} (R : RowOk H r sc) (s : Same H H') : RowOk H' r sc := by
  obtain ⟨i, m, e, h, q⟩ := R.h
  exact ⟨⟨i, m, e, s _ _ h, q⟩⟩
theorem But.seqR {K : PySem.W.Frag} {r sc : Addr} {H H' : Hp} {a : Addr} {ns : List Int} (s : But r H H') (R : RowOk H r sc) (h : SqL K H a (ns.map V.int)) : SqL K H' a (ns.map V.int) := by
  obtain ⟨i, m, e, hR, _⟩ := R.h
  have nd : ∀ u : HO, H a = some u → u ≠ .lst [.ref sc, .int i, .int m, .int e] → a ≠ r := fun u hu hn z => by
    rw [z, hR] at hu
    exact hn (Option.some.inj hu).symm
  rcases h with (h | ⟨o, h⟩) | h
  · refine .inl (.inl (s _ _ (nd _ h fun z => ?_) h))
    injection z with z
    cases ns with
    | nil => cases z
    | cons n ns => injection z with z _; cases z
  · exact .inl (.inr ⟨o, s _ _ (nd _ h fun z => by cases z) h⟩)
  · exact .inr h
structure spTaken (K : PySem.W.Frag) (vs : List V) (H : Hp) (Q : VK) (_ : XK) : Prop where
  h : ∃ (r sc : Addr) (ns : List Int) (many : Int), vs = [.ref r, .int many] ∧ RowOk H r sc ∧ SqL K H sc (ns.map V.int) ∧ 1 ≤ many ∧ many ≤ 1000 ∧
    ∀ (v : Int) (H' : Hp), 0 ≤ v → v < many → RowOk H' r sc → But r H H' → Q (.int v) H'
section
variable {P : Program} {w : World} {K : PySem.W.Frag} {mg : Str → Option Value} {base : Heap}
theorem scTaken : FnScope ["_law_row", "_law_many", "_law_found", "_law_cell"] ["_law_row", "_law_many"] (defScope sTaken) := ⟨rfl, rfl, rfl, by decide +kernel, rfl, by decide +kernel, by decide +kernel⟩
theorem ok_taken {f : Addr} {fd : FuncData} (F : Fun K "_law_taken" "_law_taken" sTaken f fd) (T : Bt mg) : FnOk P w K mg base CX0 1 f fd ["_law_row", "_law_many"] (spTaken K) := by
  refine F.ok scTaken (fun vs H Q E h => ?_) (fun cdv A outer s H vs Q E hr h => ?_)
  · obtain ⟨r, sc, ns, many, rfl, _⟩ := h.h
    rfl
  · obtain ⟨r, sc, ns, many, rfl, R, S, h1, h2, k⟩ := h.h
    obtain ⟨i, m, e, hR, hi, hm0, hm, he⟩ := R.h
    have dv : CDivW e many := wide_div (b := 10) (by omega) (by omega) (by decide) (by decide)
    refine ⟨_, pss_cons (ps_if (pt_cmpR op_gt (pe_ix ix_list (pv 0) pe_int (fun _ _ => rfl)) pe_int (nomark _))
        (pss_cons (ps_set (i := 2) scTaken.nd rfl (.inl rfl) (pe_op op_mod (pe_callTy call_int1 (by rfl) T.int (by decide +kernel) (pa_cons (pe_ix ix_list (pv 0) pe_int (fun _ _ => rfl)) pa_nil)) (pv 1)))
        (pss_cons (ps_asg (pe_op op_fdivW (pe_ix ix_list (pv 0) pe_int (fun _ _ => rfl)) (pv 1)) (pg_sub (pv 0) pe_int set_list))
        (pss_one (ps_ret (pv 2))))) pss_nil)
      (pss_cons (ps_asg (pe_op op_add (pe_ix ix_list (pv 0) pe_int (fun _ _ => rfl)) pe_int) (pg_sub (pv 0) pe_int set_list))
      (pss_cons (ps_if (pt_cmpR op_gt (pe_ix ix_list (pv 0) pe_int (fun _ _ => rfl)) (pe_callB call_len_seq (by rfl) T.len PySem.boot_len (pa_cons (pe_ix ix_list (pv 0) pe_int (fun _ _ => rfl)) pa_nil)) (nomark _))
        (pss_cons (ps_asg (pe_op op_mod (pe_callTy call_int1 (by rfl) T.int (by decide +kernel) (pa_cons (pe_op op_add (pe_op op_mul (pe_ix ix_list (pv 0) pe_int (fun _ _ => rfl)) pe_int) pe_int) pa_nil)) pe_int) (pg_sub (pv 0) pe_int set_list))
        (pss_one (ps_ret (pe_op op_mod (pe_callTy call_int1 (by rfl) T.int (by decide +kernel) (pa_cons (pe_op op_fdiv (pe_ix ix_list (pv 0) pe_int (fun _ _ => rfl)) pe_int) pa_nil)) (pv 1))))) pss_nil)
      (pss_cons (ps_set (i := 3) scTaken.nd rfl (.inl rfl) (pe_ix ix_list (pe_ix ix_list (pv 0) pe_int (fun _ _ => rfl)) (pe_op op_sub (pe_ix ix_list (pv 0) pe_int (fun _ _ => rfl)) pe_int) (fun _ _ => rfl)))
      (pss_cons (ps_asg (pe_op op_mod (pe_callTy call_int1 (by rfl) T.int (by decide +kernel) (pa_cons (pe_op op_add (pe_op op_add (pe_op op_mul (pe_ix ix_list (pv 0) pe_int (fun _ _ => rfl)) pe_int) (pv 3)) pe_int) pa_nil)) pe_int) (pg_sub (pv 0) pe_int set_list))
      (pss_cons (ps_if (pt_cmpR op_ge (pv 3) (pe_op op_pow pe_int pe_int) (nomark _)) (pss_one (ps_asg (pe_op op_fdivW (pv 3) (pv 1)) (pg_sub (pv 0) pe_int set_list))) pss_nil)
      (pss_one (ps_ret (pe_op op_mod (pe_callTy call_int1 (by rfl) T.int (by decide +kernel) (pa_cons (pv 3) pa_nil)) (pv 1))))))))), ?_⟩
    refine ⟨_, rfl, r, _, _, .int e, rfl, rfl, SqL.of hR, rfl, _, _, rfl, rfl, _, rfl, ?_⟩
    refine ite2 (fun z => ?_) (fun _ => ?_)
    · refine ⟨_, rfl, r, _, _, .int e, rfl, rfl, SqL.of hR, rfl, .inl ⟨_, rfl, _, rfl, _, _, rfl, rfl, (by omega), ?_⟩⟩
      refine ⟨_, rfl, r, _, _, .int e, rfl, rfl, SqL.of hR, rfl, _, rfl, _, _, rfl, rfl, dv, ?_⟩
      refine ⟨_, rfl, r, _, _, 3, rfl, rfl, hR, rfl, _, rfl, ?_⟩
      exact k _ _ (Int.emod_nonneg _ (by omega)) (Int.emod_lt_of_pos _ (by omega)) ⟨⟨i, m, e / many, upd_same, hi, hm0, hm, Int.ediv_nonneg he (by omega)⟩⟩ but_upd
    · refine ⟨_, rfl, r, _, _, .int i, rfl, rfl, SqL.of hR, rfl, _, _, rfl, rfl, ?_⟩
      refine ⟨_, rfl, r, _, _, 1, rfl, rfl, hR, rfl, ?_⟩
      have S1 : SqL K (upd H r (.lst [.ref sc, .int (i + 1), .int m, .int e])) sc (ns.map V.int) := but_upd.seqR R S
      refine ⟨_, rfl, r, _, _, .int (i + 1), rfl, rfl, SqL.of upd_same, rfl, ?_⟩
      refine ⟨_, rfl, r, _, _, .ref sc, rfl, rfl, SqL.of upd_same, rfl, sc, _, rfl, .inl S1, _, _, rfl, rfl, _, rfl, ?_⟩
      refine ite2 (fun z => ?_) (fun z => ?_)
      · refine ⟨_, rfl, r, _, _, .int m, rfl, rfl, SqL.of upd_same, rfl, _, _, rfl, rfl, .inl ⟨by omega, by omega⟩, _, _, rfl, rfl, .inl ⟨_, rfl, _, _, rfl, rfl, (by show (0 : Int) < 2147483647; decide), ?_⟩⟩
        refine ⟨_, rfl, r, _, _, 2, rfl, rfl, upd_same, rfl, ?_⟩
        refine ⟨_, rfl, r, _, _, .int ((m * 48271 + 11) % 2147483647), rfl, rfl, SqL.of upd_same, rfl, _, _, rfl, rfl, ⟨by decide, by decide⟩, .inl ⟨_, rfl, _, rfl, _, _, rfl, rfl, (by omega), ?_⟩⟩
        refine k _ _ (Int.emod_nonneg _ (by omega)) (Int.emod_lt_of_pos _ (by omega)) ⟨⟨i + 1, (m * 48271 + 11) % 2147483647, e, upd_same, by omega, Int.emod_nonneg _ (by decide), Int.emod_lt_of_pos _ (by decide), he⟩⟩ (but_upd.trans but_upd)
      · have hlt : i < ns.length := by
          have := of_decide_eq_false (by simpa using z : decide ((ns.map V.int).length < i + 1) = false)
          rw [List.length_map] at this
          omega
        have hc : ∃ c, ns[i.toNat]? = some c := ⟨ns[i.toNat]'(by omega), List.getElem?_eq_getElem (by omega)⟩
        obtain ⟨c, hc⟩ := hc
        have hat : atI (ns.map V.int) ((i + 1) - 1) = some (.int c) := by
          have e1 : (i + 1) - 1 = ((i.toNat : Nat) : Int) := by omega
          rw [e1]
          exact atI_nat (by rw [List.getElem?_map, hc]; rfl)
        refine ⟨_, rfl, r, _, _, .ref sc, rfl, rfl, SqL.of upd_same, rfl, _, rfl, r, _, _, .int (i + 1), rfl, rfl, SqL.of upd_same, rfl, _, _, rfl, rfl, sc, _, _, .int c, rfl, rfl, S1, hat, ?_⟩
        refine ⟨_, rfl, r, _, _, .int m, rfl, rfl, SqL.of upd_same, rfl, _, _, rfl, rfl, .inl ⟨by omega, by omega⟩, _, rfl, _, _, rfl, rfl, _, _, rfl, rfl, .inl ⟨_, rfl, _, _, rfl, rfl, (by show (0 : Int) < 2147483647; decide), ?_⟩⟩
        refine ⟨_, rfl, r, _, _, 2, rfl, rfl, upd_same, rfl, ?_⟩
        refine ⟨_, rfl, _, _, rfl, rfl, ⟨by decide, by decide, by decide⟩, _, _, rfl, rfl, _, rfl, ?_⟩
        have m1 := Int.emod_nonneg (m * 48271 + c + 11) (show (2147483647 : Int) ≠ 0 by decide)
        have m2 := Int.emod_lt_of_pos (m * 48271 + c + 11) (show (0 : Int) < 2147483647 by decide)
        have v1 := Int.emod_nonneg c (show many ≠ 0 by omega)
        have v2 := Int.emod_lt_of_pos c (show 0 < many by omega)
        refine ite2 (fun z => ?_) (fun _ => ?_)
        · have hc0 : (10 : Int) ^ (18 : Int).toNat ≤ c := of_decide_eq_true z
          have hc1 : 0 ≤ c := by
            have : (0 : Int) ≤ (10 : Int) ^ (18 : Int).toNat := by decide
            omega
          refine ⟨_, rfl, _, rfl, _, _, rfl, rfl, wide_div (b := 10) (by omega) (by omega) (by decide) (by decide), ?_⟩
          refine ⟨_, rfl, r, _, _, 3, rfl, rfl, upd_same, rfl, ?_⟩
          refine ⟨_, rfl, .inl ⟨_, rfl, _, rfl, _, _, rfl, rfl, (by omega), ?_⟩⟩
          exact k _ _ v1 v2 ⟨⟨i + 1, _, c / many, upd_same, by omega, m1, m2, Int.ediv_nonneg hc1 (by omega)⟩⟩ ((but_upd.trans but_upd).trans but_upd)
        · refine ⟨_, rfl, .inl ⟨_, rfl, _, rfl, _, _, rfl, rfl, (by omega), ?_⟩⟩
          exact k _ _ v1 v2 ⟨⟨i + 1, _, e, upd_same, by omega, m1, m2, he⟩⟩ (but_upd.trans but_upd)
end
end DL

set_option Elab.async false
set_option maxRecDepth 100000
namespace DL
open PySem L2
theorem keys_put {kvs : List (List Key × V)} {bs : List Bar} {b : Bar} (v : V) (h : kvs.map (·.1) = bs.map Bar.key) (hn : bs.Nodup) :
    ∃ bs' : List Bar, (putK kvs b.key v).map (·.1) = bs'.map Bar.key ∧ bs'.Nodup ∧ (∀ x ∈ bs', x = b ∨ x ∈ bs) ∧ bs'.length ≤ bs.length + 1 := by
  unfold putK
  by_cases e : (kvs.any fun kv => decide (kv.1 = b.key)) = true
  · rw [if_pos e]
    refine ⟨bs, ?_, hn, fun x hx => .inr hx, Nat.le_succ _⟩
    rw [← h, List.map_map]
    refine List.map_congr_left fun kv _ => ?_
    show (if kv.1 = b.key then (kv.1, v) else kv).1 = kv.1
    by_cases q : kv.1 = b.key
    · rw [if_pos q]
    · rw [if_neg q]
  · rw [if_neg e]
    have hnot : b ∉ bs := fun hm => e (by
      rw [List.any_eq_true]
      have : b.key ∈ kvs.map (·.1) := by rw [h]; exact List.mem_map.mpr ⟨b, hm, rfl⟩
      obtain ⟨kv, hkv, q⟩ := List.mem_map.mp this
      exact ⟨kv, hkv, decide_eq_true q⟩)
    refine ⟨bs ++ [b], by rw [List.map_append, List.map_append, h]; rfl, ?_, fun x hx => ?_, by simp⟩
    · rw [List.nodup_append]
      refine ⟨hn, List.nodup_cons.mpr ⟨by simp, List.nodup_nil⟩, fun x hx y hy => ?_⟩
      rw [List.mem_singleton.mp hy]
      exact fun q => hnot (q ▸ hx)
    · rcases List.mem_append.mp hx with hx | hx
      · exact .inr hx
      · exact .inl (List.mem_singleton.mp hx)
theorem asc_of {n : Int} (hn : n ≤ 7) {xs bs : List Bar} (hp : xs.Perm bs) (hs : xs.Pairwise fun x y => x.code ≤ y.code) (hd : bs.Nodup) (ho : ∀ b ∈ bs, b.ok n) : OkBars n xs := by
  have hx : ∀ b ∈ xs, b.ok n := fun b hb => ho b (hp.mem_iff.mp hb)
  refine ⟨hx, ?_⟩
  have hd' : xs.Nodup := hp.nodup_iff.mpr hd
  have := hs.and hd'
  refine List.Pairwise.imp_of_mem (fun {a b} ha hb q => ?_) this
  obtain ⟨q1, q2⟩ := q
  rcases Int.lt_or_eq_of_le q1 with z | z
  · exact z
  · exact absurd (Bar.code_inj ((hx a ha).low hn) ((hx b hb).low hn) z) q2
structure spParts (K : PySem.W.Frag) (vs : List V) (H : Hp) (Q : VK) (_ : XK) : Prop where
  h : ∃ (r sc : Addr) (ns : List Int) (most : Int), vs = [.ref r, .int most] ∧ RowOk H r sc ∧ SqL K H sc (ns.map V.int) ∧ 1 ≤ most ∧ most ≤ 7 ∧
    ∀ (p t : Addr) (n : Int) (ks : List (Addr × Bar)) (H' : Hp), H p = none → H t = none → 1 ≤ n → n ≤ most → H' p = some (.lst [.int n, .ref t]) → BarsAt H' t ks → OkBars n (ks.map (·.2)) → ks.length ≤ 13 → RowOk H' r sc → But r H H' → Q (.ref p) H'
theorem three_at {v : Int} (h0 : 0 ≤ v) (h3 : v < 3) : ∃ c : Int, atI [V.int 3, V.int 6, V.int 14] v = some (.int c) ∧ 1 ≤ c ∧ c ≤ 14 := by
  have : v = 0 ∨ v = 1 ∨ v = 2 := by omega
  rcases this with rfl | rfl | rfl
  · exact ⟨3, rfl, by decide, by decide⟩
  · exact ⟨6, rfl, by decide, by decide⟩
  · exact ⟨14, rfl, by decide, by decide⟩
theorem two_at {v : Int} (h0 : 0 ≤ v) (h3 : v < 2) : ∃ c : Bool, atI [V.str "open", V.str "shut"] v = some (.str (wd c)) := by
  have : v = 0 ∨ v = 1 := by omega
  rcases this with rfl | rfl
  · exact ⟨false, rfl⟩
  · exact ⟨true, rfl⟩
section
variable {P : Program} {w : World} {K : PySem.W.Frag} {mg : Str → Option Value} {base : Heap}
theorem scParts : FnScope ["_law_row", "_law_most", "_law_many", "_law_found", "_law_k", "_law_drawer", "_law_other", "_law_way", "_law_stand"] ["_law_row", "_law_most"] (defScope sParts) := ⟨rfl, rfl, rfl, by decide +kernel, rfl, by decide +kernel, by decide +kernel⟩
theorem ok_parts {f f1 : Addr} {fd fd1 : FuncData} (F : Fun K "_law_parts" "_law_parts" sParts f fd) (T : Bt mg) (G : FnOk P w K mg base CX0 1 f1 fd1 ["_law_row", "_law_many"] (spTaken K)) (g1 : mg "_law_taken" = some (.ref f1)) (k1 : PySem.W.keepIn K (.ref f1) = true) (b1 : Binds K fd1 ["_law_row", "_law_many"] []) :
    FnOk P w K mg base CX0 2 f fd ["_law_row", "_law_most"] (spParts K) := by
  refine F.ok scParts (fun vs H Q E h => ?_) (fun cdv A outer s H vs Q E hr h => ?_)
  · obtain ⟨r, sc, ns, most, rfl, _⟩ := h.h
    rfl
  · obtain ⟨r, sc, ns, most, rfl, R, S, h1, h7, k⟩ := h.h
    have hu := hu_of hr
    obtain ⟨i0, m0, e0, hR0, _⟩ := id R.h
    refine ⟨_, pss_cons (ps_par (i := 2) (j := 3) (by rfl) scParts.nd rfl rfl (by decide) rfl rfl (pa_cons (pe_op op_add pe_int (pe_call G (hr.mono (by decide)) rfl g1 k1 b1 .nil pass0 (pa_cons (pv 0) (pa_cons (pv 1) pa_nil)))) (pa_cons pe_dnewT pa_nil)) (by rfl))
      (pss_cons (ps_for PassesOwn.never rfl (pi_range1 (by rfl) T.range (pa_cons (pe_call G (hr.mono (by decide)) rfl g1 k1 b1 .nil pass0 (pa_cons (pv 0) (pa_cons (pe_ix ix_list (pe_lst (pa_cons pe_int (pa_cons pe_int (pa_cons pe_int pa_nil)))) (pe_call G (hr.mono (by decide)) rfl g1 k1 b1 .nil pass0 (pa_cons (pv 0) (pa_cons pe_int pa_nil))) (fun _ _ => rfl)) pa_nil))) pa_nil)) (pg_name (i := 4) scParts.nd rfl (.inl rfl))
        (pss_cons (ps_par (i := 5) (j := 6) (by rfl) scParts.nd rfl rfl (by decide) rfl rfl (pa_cons (pe_call G (hr.mono (by decide)) rfl g1 k1 b1 .nil pass0 (pa_cons (pv 0) (pa_cons (pv 2) pa_nil))) (pa_cons (pe_call G (hr.mono (by decide)) rfl g1 k1 b1 .nil pass0 (pa_cons (pv 0) (pa_cons (pv 2) pa_nil))) pa_nil)) (by rfl))
        (pss_one (ps_if (pt_cmpR op_ne (pv 5) (pv 6) (nomark _))
          (pss_cons (ps_par (i := 7) (j := 8) (by rfl) scParts.nd rfl rfl (by decide) rfl rfl (pa_cons (pe_ix ix_list (pe_lst (pa_cons pe_str (pa_cons pe_str pa_nil))) (pe_op op_fdiv (pe_call G (hr.mono (by decide)) rfl g1 k1 b1 .nil pass0 (pa_cons (pv 0) (pa_cons pe_int pa_nil))) pe_int) (fun _ _ => rfl))
            (pa_cons (pe_ix ix_list (pe_lst (pa_cons pe_str (pa_cons pe_str pa_nil))) (pe_call G (hr.mono (by decide)) rfl g1 k1 b1 .nil pass0 (pa_cons (pv 0) (pa_cons pe_int pa_nil))) (fun _ _ => rfl)) pa_nil)) (by rfl))
          (pss_one (ps_dput hu (pv 3) (pe_tup (pa_cons (pv 5) (pa_cons (pv 7) (pa_cons (pv 6) (pa_cons (pv 8) pa_nil))))) pe_bl rfl))) pss_nil))))
      (pss_one (ps_ret (pe_lst (pa_cons (pv 2) (pa_cons (pe_callTy call_tuple_of (by rfl) T.tuple (by decide +kernel) (pa_cons (pe_callB (cr_sortB (by rfl)) (by rfl) T.sorted (by decide +kernel) (pa_cons (pv 3) pa_nil)) pa_nil)) pa_nil)))))), ?_⟩
    -- many, found
    refine ⟨_, rfl, _, rfl, ⟨⟨r, sc, ns, most, rfl, R, S, h1, by omega, fun v H1 v0 v1 R1 B1 => ?_⟩⟩⟩
    refine ⟨_, _, rfl, rfl, fun d hd => ⟨_, _, rfl, ?_⟩⟩
    obtain ⟨i1, m1, e1, hR1, _⟩ := id R1.h
    have ndr : d ≠ r := (ne_of_none hR1 hd).symm
    have hd0 : H d = none := by
      cases q : H d with
      | none => rfl
      | some o =>
        rw [B1 d o ndr q] at hd
        cases hd
    have R2 : RowOk (upd H1 d (.dT [])) r sc := R1.same (same_upd hd)
    have B2 : But r H (upd H1 d (.dT [])) := B1.trans (sbut (same_upd hd))
    -- range(..)
    refine ⟨_, rfl, (by show 3 ≤ sizeLine; decide), fun l hl => ?_⟩
    have nlr : l ≠ r := by
      obtain ⟨_, _, _, q, _⟩ := id R2.h
      exact (ne_of_none q hl).symm
    have R3 := R2.same (same_upd (o := .lst [V.int 3, V.int 6, V.int 14]) hl)
    have B3 : But r H _ := B2.trans (sbut (same_upd (o := .lst [V.int 3, V.int 6, V.int 14]) hl))
    refine ⟨_, rfl, ⟨⟨r, sc, ns, 3, rfl, R3, B3.seqR R S, by decide, by decide, fun v2 H3 w0 w1 R4 B4 => ?_⟩⟩⟩
    obtain ⟨c, hc, c1, c14⟩ := three_at w0 w1
    refine ⟨l, _, v2, .int c, rfl, rfl, SqL.of (B4 _ _ nlr upd_same), hc, ?_⟩
    have B5 : But r H H3 := B3.trans B4
    refine ⟨⟨r, sc, ns, c, rfl, R4, B5.seqR R S, c1, by omega, fun v3 H4 x0 x1 R5 B6 => ?_⟩⟩
    refine ⟨v3, rfl, by omega, by omega, ?_⟩
    have B7 : But r H H4 := B5.trans B6
    have hd4 : H4 d = some (.dT []) := B6 _ _ ndr (B4 _ _ ndr (by rw [upd_ne (ne_of_none (upd_same (H := H1) (a := d)) hl)]; exact upd_same))
    refine for_range (lo := 0) (n := v3.toNat) (fun i σ H5 => ∃ (kvs : List (List Key × V)) (bs : List Bar) (u4 u5 u6 u7 u8 : Option V), σ = [some (.ref r), some (.int most), some (.int (1 + v)), some (.ref d), u4, u5, u6, u7, u8] ∧ H5 d = some (.dT kvs) ∧ kvs.map (·.1) = bs.map Bar.key ∧ bs.Nodup ∧ (∀ b ∈ bs, b.ok (1 + v)) ∧ bs.length ≤ i ∧ RowOk H5 r sc ∧ But r H H5)
      ⟨[], [], _, _, _, _, _, rfl, hd4, rfl, List.nodup_nil, fun b hb => by simp at hb, Nat.le_refl _, R5, B7⟩ ?_ ?_
    · rintro i σ H5 hi ⟨kvs, bs, u4, u5, u6, u7, u8, rfl, hD, hk, hnd, hok, hlen, R6, B8⟩
      refine ⟨_, rfl, _, rfl, ⟨⟨r, sc, ns, 1 + v, rfl, R6, B8.seqR R S, by omega, by omega, fun a H6 a0 a1 R7 B9 => ?_⟩⟩⟩
      refine ⟨_, rfl, _, rfl, ⟨⟨r, sc, ns, 1 + v, rfl, R7, (B8.trans B9).seqR R S, by omega, by omega, fun o H7 o0 o1 R8 B10 => ?_⟩⟩⟩
      have hD7 : H7 d = some (.dT kvs) := B10 _ _ ndr (B9 _ _ ndr hD)
      have B11 : But r H H7 := (B8.trans B9).trans B10
      refine ⟨_, _, rfl, _, rfl, _, rfl, rfl, _, rfl, ?_⟩
      refine ite2 (fun z => ?_) (fun _ => ?_)
      · have hao : a ≠ o := fun q => by subst q; simp at z
        refine ⟨(by show 2 ≤ sizeLine; decide), fun l1 hl1 => ?_⟩
        have R9 := R8.same (same_upd (o := .lst [V.str "open", V.str "shut"]) hl1)
        have nl1 : l1 ≠ r := by
          obtain ⟨_, _, _, q, _⟩ := id R8.h
          exact (ne_of_none q hl1).symm
        refine ⟨_, rfl, ⟨⟨r, sc, ns, 3, rfl, R9, (B11.trans (sbut (same_upd hl1))).seqR R S, by decide, by decide, fun y H8 y0 y1 R10 B12 => ?_⟩⟩⟩
        obtain ⟨cw, hcw⟩ := two_at (v := y / 2) (by omega) (by omega)
        refine ⟨_, _, rfl, rfl, ⟨by decide, by decide⟩, l1, _, _, _, rfl, rfl, SqL.of (B12 _ _ nl1 upd_same), hcw, ?_⟩
        refine ⟨(by show 2 ≤ sizeLine; decide), fun l2 hl2 => ?_⟩
        have R11 := R10.same (same_upd (o := .lst [V.str "open", V.str "shut"]) hl2)
        have nl2 : l2 ≠ r := by
          obtain ⟨_, _, _, q, _⟩ := id R10.h
          exact (ne_of_none q hl2).symm
        have B13 : But r H7 (upd H8 l2 (.lst [V.str "open", V.str "shut"])) := ((sbut (same_upd hl1)).trans B12).trans (sbut (same_upd hl2))
        refine ⟨_, rfl, ⟨⟨r, sc, ns, 2, rfl, R11, (B11.trans B13).seqR R S, by decide, by decide, fun y2 H9 z0 z1 R12 B14 => ?_⟩⟩⟩
        obtain ⟨ct, hct⟩ := two_at z0 z1
        refine ⟨l2, _, _, _, rfl, rfl, SqL.of (B14 _ _ nl2 upd_same), hct, ?_⟩
        have B15 : But r H7 H9 := B13.trans B14
        have hD9 : H9 d = some (.dT kvs) := B15 _ _ ndr hD7
        refine ⟨_, _, rfl, _, rfl, _, rfl, _, rfl, _, rfl, _, rfl, (by show 4 ≤ sizeLine; decide), fun q hq => ?_⟩
        have hlen2 : kvs.length = bs.length := by
          have := congrArg List.length hk
          rw [List.length_map, List.length_map] at this
          exact this
        refine ⟨d, _, rfl, DPut.t (k := (⟨a, cw, o, ct⟩ : Bar).key) (by rw [upd_ne (ne_of_none hD9 hq)]; exact hD9) upd_same (by rw [hlen2]; exact small1000 (by omega)), ?_⟩
        obtain ⟨bs', g1', g2', g3', g4'⟩ := keys_put (b := ⟨a, cw, o, ct⟩) (.bl true) hk hnd
        have nqr : q ≠ r := by
          obtain ⟨_, _, _, q', _⟩ := id R12.h
          exact (ne_of_none q' hq).symm
        refine ⟨_, bs', _, _, _, _, _, rfl, upd_same, g1', g2', fun b hb => ?_, by omega, ?_, ?_⟩
        · rcases g3' b hb with rfl | hb
          · exact ⟨a0, a1, o0, o1, hao⟩
          · exact hok b hb
        · obtain ⟨i', m', e', q1, q2⟩ := (R12.same (same_upd (o := .tup (⟨a, cw, o, ct⟩ : Bar).vs) hq)).h
          exact ⟨⟨i', m', e', by rw [upd_ne (Ne.symm ndr)]; exact q1, q2⟩⟩
        · refine fun c u hc hH => ?_
          have hcd : c ≠ d := fun z' => by rw [z', hd0] at hH; cases hH
          rw [upd_ne hcd]
          exact same_upd hq _ _ (B15 _ _ hc (B11 _ _ hc hH))
      · exact ⟨kvs, bs, _, _, _, _, _, rfl, hD7, hk, hnd, hok, by omega, R8, B11⟩
    · rintro σ H5 ⟨kvs, bs, u4, u5, u6, u7, u8, rfl, hD, hk, hnd, hok, hlen, R6, B8⟩
      refine ⟨_, rfl, _, rfl, d, kvs, bs, rfl, .inl hD, hk, fun b hb => (hok b hb).low (by omega), fun ks p g1' g2' g3' hp => ?_⟩
      refine ⟨p, _, rfl, .inl ⟨SqL.of upd_same, fun t ht => ?_⟩⟩
      refine ⟨(by show 2 ≤ sizeLine; decide), fun q hq => ?_⟩
      have sp : Same H5 (upd H5 p (.lst (ks.map fun k => V.ref k.1))) := same_upd hp
      have st : Same H5 (upd (upd H5 p (.lst (ks.map fun k => V.ref k.1))) t (.tup (ks.map fun k => V.ref k.1))) := sp.trans (same_upd ht)
      have sq : Same H5 _ := st.trans (same_upd (o := .lst [.int (1 + v), .ref t]) hq)
      obtain ⟨i', m', e', qR, _⟩ := id R6.h
      have nfree : ∀ {c : Addr}, H5 c = none → H c = none := fun {c} hc => by
        cases q' : H c with
        | none => rfl
        | some o =>
          have ncr : c ≠ r := fun z => by rw [z, qR] at hc; cases hc
          rw [B8 c o ncr q'] at hc
          cases hc
      refine k q t (1 + v) ks _ (nfree (st.free hq)) (nfree (sp.free ht)) (by omega) (by omega) upd_same ⟨by rw [upd_ne (ne_of_none upd_same hq)]; exact upd_same, fun kk hkk => sq _ _ (g1' kk hkk)⟩
        (asc_of (by omega) g2' g3' hnd hok) ?_ (R6.same sq) (B8.trans (sbut sq))
      have := g2'.length_eq
      rw [List.length_map] at this
      omega
/-! ### the cabinet of a draw -/
structure spMade (C : Addr) (vs : List V) (H : Hp) (Q : VK) (_ : XK) : Prop where
  h : ∃ (p t : Addr) (n : Int) (ks : List (Addr × Bar)) (zs : List V), vs = [.ref p] ∧ H p = some (.lst (.int n :: .ref t :: zs)) ∧ 1 ≤ n ∧ n ≤ 7 ∧ BarsAt H t ks ∧ OkBars n (ks.map (·.2)) ∧
    ∀ (c : Addr) (H' : Hp), H c = none → CabAt C H' c n t → Same H H' → Q (.ref c) H'
theorem scMade : FnScope ["_law_d"] ["_law_d"] (defScope sMade) := ⟨rfl, rfl, rfl, by decide +kernel, rfl, by decide +kernel, by decide +kernel⟩
theorem ok_made {f fI C : Addr} {fd fdI : FuncData} (F : Fun K "_law_made" "_law_made" sMade f fd) (T : CabT K mg C) (M : Mk K C fI) (G : FnOk P w K mg base CX0 5 fI fdI ["self", "drawers", "bars"] (spInit C)) (bI : Binds K fdI ["self", "drawers", "bars"] []) :
    FnOk P w K mg base CX0 7 f fd ["_law_d"] (spMade C) := by
  refine F.ok scMade (fun vs H Q E h => ?_) (fun cdv A outer s H vs Q E hr h => ?_)
  · obtain ⟨p, t, n, ks, zs, rfl, _⟩ := h.h
    rfl
  · obtain ⟨p, t, n, ks, zs, rfl, hp, h1, h7, B, O, k⟩ := h.h
    refine ⟨_, pss_one (ps_ret (pe_make M G hr rfl T.mgC bI .nil pass0 (pa_cons (pe_ix ix_list (pv 0) pe_int (fun _ _ => rfl)) (pa_cons (pe_ix ix_list (pv 0) pe_int (fun _ _ => rfl)) pa_nil)))), ?_⟩
    refine ⟨_, rfl, p, _, 0, .int n, rfl, rfl, SqL.of hp, atI_nat (j := 0) rfl, _, rfl, p, _, 1, .ref t, rfl, rfl, SqL.of hp, atI_nat (j := 1) rfl, ?_⟩
    intro x dx nx ndx nex
    have s0 : Same H (upd (upd H dx (.own x)) x (.ins C dx [])) := fun b o e => by
      rw [upd_ne (ne_of_none e nx), upd_ne (ne_of_none e ndx)]
      exact e
    refine ⟨⟨x, dx, n, t, ks, rfl, upd_same, h1, h7, B.same s0, O, fun H' hx kp => ⟨rfl, ?_⟩⟩⟩
    exact k x H' nx ⟨dx, hx⟩ fun b o e => kp b o (ne_of_none e nx) (s0 b o e)
end
end DL

set_option Elab.async false
set_option maxRecDepth 100000
namespace DL
open PySem L2
/-! ### rules with the written part named, for blocks within blocks -/
theorem cr_anyK {X : Cx} {K : PySem.W.Frag} (hK : X.K = K) (hc : X.calm = true) : CallR X (.builtin "any") (rAny K) := by subst hK; exact cr_any hc
theorem cr_allK {X : Cx} {K : PySem.W.Frag} (hK : X.K = K) (hc : X.calm = true) : CallR X (.builtin "all") (rAll K) := by subst hK; exact cr_all hc
theorem pi_tupK {X : Cx} {K : PySem.W.Frag} {tg l : Expr} {tl : TE} (hK : X.K = K) (hl : PE X l tl) : PI X tg l (iTup K tl) := by subst hK; exact pi_tup hl
theorem pi_listK {X : Cx} {K : PySem.W.Frag} {tg l : Expr} {tl : TE} (hK : X.K = K) (hl : PE X l tl) : PI X tg l (iList K tl) := by subst hK; exact pi_list hl
theorem ix_listK {X : Cx} {K : PySem.W.Frag} (hK : X.K = K) : IxR X (rIxL K) := by subst hK; exact ix_list
theorem ix_tupK {X : Cx} {K : PySem.W.Frag} (hK : X.K = K) : IxR X (rIxT K) := by subst hK; exact ix_tup
theorem op_in_seqK {X : Cx} {K : PySem.W.Frag} (hK : X.K = K) : OpR X (compareOp .In) (rIn K false) := by subst hK; exact op_in_seq
theorem call_len_seqK {X : Cx} {K : PySem.W.Frag} (hK : X.K = K) : CallR X (.builtin "len") (fun xs H Q => ∃ p ys, xs = [.ref p] ∧ (SqL K H p ys ∨ SqT K H p ys) ∧ Q (.int ys.length) H) := by subst hK; exact call_len_seq
theorem pe_bmK {X : Cx} {K : PySem.W.Frag} {T : String} {name : Str} {id : String} {r : V → List V → Hp → VK → Prop} {o e : Expr} {es : List Expr} {to : TE} {t : TA} {apos cpos : Pos} (hK : X.K = K) (pa : PlainAttrs T) (slot : Slot T name id) (hty : typeOf (.builtin id) = pure (.type "method_descriptor")) (hm : MtR X id r) (ho : PE X o to) (ha : PA X (e :: es) t)
    (hbase : attributeBase o name X.env (eval o X.env) = eval o X.env := by rfl)
    (hfew : ((backTo cpos (starEach (e :: es) X.env)).all (fun x => !x.1) && (backToKw cpos (keywordEach [] X.env)).all (fun x => x.1.isSome)
      && decide ((e :: es).length + ([] : List Keyword).length + (if ([] : List Keyword).isEmpty then 0 else 1) < 30)) = true := by rfl)
    (hline : (apos.endLine == cpos.line) = true := by rfl) (hs : starEach (e :: es) X.env = (false, eval e X.env) :: starEach es X.env := by rfl) (hplain : (backTo cpos (starEach es X.env)).any (·.1) = false := by rfl) :
    PE X (.Call (.Attribute o name apos) (e :: es) [] cpos) (tBM K T r to t) := by subst hK; exact pe_bm pa slot hty hm ho ha hbase hfew hline hs hplain
theorem boot_any_ : bootBuiltins ("any" : Str) = some (.builtin "any") := by decide +kernel
theorem boot_all_ : bootBuiltins ("all" : Str) = some (.builtin "all") := by decide +kernel
end DL

set_option Elab.async false
set_option maxRecDepth 100000
namespace DL
open PySem L2 HT TL
/-! ### standings: a truth value a drawer (true: open) -/
def sg (b : Bool) : Nat := if b = true then 111 else 115
def sgs (b : Bool) : Str := ⟨#[sg b]⟩
def sstr (st : List Bool) : Str := ⟨(st.map sg).toArray⟩
theorem sstr_tl (st : List Bool) : (sstr st).cps.toList = st.map sg := by simp [sstr]
theorem sstr_len (st : List Bool) : (sstr st).length = st.length := by
  show (sstr st).cps.size = st.length
  rw [← Array.length_toList, sstr_tl, List.length_map]
theorem sg_inj : ∀ {a b : Bool}, sg a = sg b → a = b := by decide
theorem sstr_inj {a b : List Bool} (h : sstr a = sstr b) : a = b := by
  have h1 : a.map sg = b.map sg := by rw [← sstr_tl, ← sstr_tl, h]
  have : ∀ {a b : List Bool}, a.map sg = b.map sg → a = b := by
    intro a
    induction a with
    | nil => intro b h; cases b with | nil => rfl | cons y b => simp at h
    | cons x a ih =>
      intro b h
      cases b with
      | nil => simp at h
      | cons y b =>
        rw [List.map_cons, List.map_cons] at h
        injection h with h1 h2
        rw [sg_inj h1, ih h2]
  exact this h1
def sat (st : List Bool) (i : Int) : Bool := st.getD i.toNat false
theorem sstr_at {st : List Bool} {i : Int} (h0 : 0 ≤ i) (h1 : i < st.length) : atI (sstr st).cps.toList i = some (sg (sat st i)) := by
  have e : i = ((i.toNat : Nat) : Int) := by omega
  have hl : i.toNat < st.length := by omega
  rw [e]
  refine atI_nat ?_
  rw [sstr_tl, List.getElem?_map]
  unfold sat
  rw [Int.toNat_natCast, List.getD_eq_getElem?_getD, List.getElem?_eq_getElem hl]
  rfl
def sgn (b : Bool) : Str := if b = true then "s" else "o"
theorem sgs_sgn (x b : Bool) : decide ((V.str ⟨#[sg x]⟩) = V.str (sgn b)) = (x != b) := by revert x b; decide +kernel
theorem sgs_o (x : Bool) : decide ((V.str ⟨#[sg x]⟩) = V.str "o") = x := by revert x; decide +kernel
theorem sgs_s (x : Bool) : decide ((V.str ⟨#[sg x]⟩) = V.str "s") = !x := by revert x; decide +kernel
theorem wd_ne (a b : Bool) : decide ((V.str (wd a)) = V.str (wd b)) = (a == b) := by revert a b; decide +kernel
/-- whether the bar stands against the pull -/
def hind (b : Bar) (st : List Bool) (d : Int) : Bool := decide (b.d = d) && ((sat st d == b.w) && (sat st b.o == b.t))
def goesB (bs : List Bar) (st : List Bool) (d : Int) : Bool := !(bs.any fun b => hind b st d)
def flip (st : List Bool) (d : Int) : List Bool := st.set d.toNat (!sat st d)
theorem flip_len (st : List Bool) (d : Int) : (flip st d).length = st.length := by unfold flip; rw [List.length_set]
def drs (n : Nat) : List Int := (List.range n).map fun (i : Nat) => (i : Int)
def freeL (bs : List Bar) (st : List Bool) : List Int := (drs st.length).filter fun d => goesB bs st d
/-- the table of signs -/
structure SgT (K : PySem.W.Frag) (w : World) (mg : Str → Option Value) (aS : Addr) : Prop where
  g : mg "SIGNS" = some (.ref aS)
  o : KDct K w aS "open" (.str "o")
  s : KDct K w aS "shut" (.str "s")
theorem SgT.at {K : PySem.W.Frag} {w : World} {mg : Str → Option Value} {aS : Addr} (T : SgT K w mg aS) (b : Bool) : KDct K w aS (wd b) (.str (sgn b)) := by
  cases b
  · exact T.o
  · exact T.s
structure spHold (K : PySem.W.Frag) (vs : List V) (H : Hp) (Q : VK) (_ : XK) : Prop where
  h : ∃ (a : Addr) (b : Bar) (st : List Bool) (d : Int), vs = [.ref a, .str (sstr st), .int d] ∧ SqT K H a b.vs ∧ b.ok st.length ∧ st.length ≤ 7 ∧ 0 ≤ d ∧ d < st.length ∧ Q (.bl (hind b st d)) H
structure spMoved (vs : List V) (H : Hp) (Q : VK) (_ : XK) : Prop where
  h : ∃ (st : List Bool) (d : Int), vs = [.str (sstr st), .int d] ∧ st.length ≤ 7 ∧ 0 ≤ d ∧ d < st.length ∧ ∀ H', Same H H' → Q (.str (sstr (flip st d))) H'
theorem str_small {st : List Bool} (h : st.length ≤ 7) : (sstr st).length ≤ sizeLine := by rw [sstr_len]; exact Nat.le_of_lt (small1000 (by omega))
theorem cut_flip (st : List Bool) (d : Int) (h0 : 0 ≤ d) (h1 : d < st.length) (x : Str) (hx : x.cps.toList = [sg (!sat st d)]) : (cutS (sstr st) none (some d) ++ x) ++ cutS (sstr st) (some (d + 1)) none = sstr (flip st d) := by
  refine PyProof.Rows.ext_toList ?_
  obtain ⟨k, rfl⟩ : ∃ k : Nat, d = (k : Int) := ⟨d.toNat, by omega⟩
  have hk : k < st.length := by omega
  have e1 : ((k : Int) + 1) = ((k + 1 : Nat) : Int) := by omega
  have t1 : tl (cutS (sstr st) none (some (k : Int))) = (st.map sg).take k := by
    unfold tl cutS
    rw [HT.sIx_none, HT.sIx_nat, sstr_len, sstr_tl]
    simp [Nat.min_eq_left (Nat.le_of_lt hk)]
  have t2 : tl (cutS (sstr st) (some ((k : Int) + 1)) none) = (st.map sg).drop (k + 1) := by
    unfold tl cutS
    rw [e1, HT.sIx_none, HT.sIx_nat, sstr_len, sstr_tl]
    simp only [Nat.min_eq_left (show k + 1 ≤ st.length by omega)]
    rw [List.take_of_length_le (by rw [List.length_drop, List.length_map]; omega)]
  show tl _ = tl _
  rw [tl_append, tl_append, t1, t2, show tl x = _ from hx, show tl (sstr (flip st (k : Int))) = _ from sstr_tl _]
  unfold flip
  rw [Int.toNat_natCast, List.map_set, List.set_eq_take_append_cons_drop, if_pos (by rw [List.length_map]; exact hk)]
  simp
section
variable {P : Program} {w : World} {K : PySem.W.Frag} {mg : Str → Option Value} {base : Heap}
theorem scHinders : FnScope ["bar", "standing", "drawer", "barred", "way", "other", "stand"] ["bar", "standing", "drawer"] (defScope s_hinders) := ⟨rfl, rfl, rfl, by decide +kernel, rfl, by decide +kernel, by decide +kernel⟩
theorem ok_hinders {f aS : Addr} {fd : FuncData} (F : Fun K "hinders" "hinders" s_hinders f fd) (T : SgT K w mg aS) : FnOk P w K mg base CX0 1 f fd ["bar", "standing", "drawer"] (spHold K) := by
  refine F.ok scHinders (fun vs H Q E h => ?_) (fun cdv A outer s H vs Q E hr h => ?_)
  · obtain ⟨a, b, st, d, rfl, _⟩ := h.h
    rfl
  · obtain ⟨a, b, st, d, rfl, hq, hb, h7, d0, d1, k⟩ := h.h
    obtain ⟨b1, b2, b3, b4, b5⟩ := hb
    refine ⟨_, pss_cons (ps_asg (pv 0) (pg_tup (by rfl) (pgs_cons (pg_name (i := 3) scHinders.nd rfl (.inl rfl)) (pgs_cons (pg_name (i := 4) scHinders.nd rfl (.inl rfl)) (pgs_cons (pg_name (i := 5) scHinders.nd rfl (.inl rfl)) (pgs_cons (pg_name (i := 6) scHinders.nd rfl (.inl rfl)) pgs_nil))))))
      (pss_cons (ps_if (PW.pt (pw_or (pt_cmpR op_ne (pv 3) (pv 2) (nomark _)) (pw_or1 (pt_cmpR op_eq (pe_ix ix_str (pv 1) (pv 2) (fun _ _ => rfl)) (pe_ix ix_kdict (pe_glob (v := .ref aS) rfl T.g rfl) (pv 4) (fun _ _ => rfl)) (nomark _))))) (pss_one (ps_ret pe_bl)) pss_nil)
      (pss_one (ps_ret (pe_cmpR op_ne (pe_ix ix_str (pv 1) (pv 5) (fun _ _ => rfl)) (pe_ix ix_kdict (pe_glob (v := .ref aS) rfl T.g rfl) (pv 6) (fun _ _ => rfl)) (nomark _))))), ?_⟩
    refine ⟨_, rfl, a, _, rfl, hq, rfl, _, _, rfl, _, _, rfl, _, _, rfl, _, _, rfl, rfl, ?_⟩
    refine ⟨_, rfl, _, rfl, rfl, _, rfl, ?_⟩
    have e0 : decide ((V.int b.d) = V.int d) = decide (b.d = d) := decide_eq_decide.mpr ⟨fun z => by injection z, fun z => by rw [z]⟩
    show if (!decide ((V.int b.d) = V.int d)) = true then _ else _
    rw [e0]
    by_cases q : b.d = d
    · rw [decide_eq_true q]
      refine iteF ?_
      refine ⟨_, rfl, _, rfl, _, d, _, rfl, rfl, str_small h7, sstr_at d0 d1, _, rfl, aS, wd b.w, _, rfl, rfl, T.at b.w, rfl, _, rfl, ?_⟩
      show if decide ((V.str ⟨#[sg (sat st d)]⟩) = V.str (sgn b.w)) = true then _ else _
      rw [sgs_sgn]
      unfold hind at k
      rw [decide_eq_true q] at k
      cases e : (sat st d != b.w) with
      | true =>
        have e' : (sat st d == b.w) = false := by rw [bne, Bool.not_eq_true'] at e; exact e
        rw [e'] at k
        exact iteT k
      | false =>
        have e' : (sat st d == b.w) = true := by rw [bne, Bool.not_eq_false'] at e; exact e
        rw [e'] at k
        refine iteF ?_
        refine ⟨_, rfl, _, rfl, _, b.o, _, rfl, rfl, str_small h7, sstr_at b3 b4, _, rfl, aS, wd b.t, _, rfl, rfl, T.at b.t, rfl, ?_⟩
        show Q (.bl (!decide ((V.str ⟨#[sg (sat st b.o)]⟩) = V.str (sgn b.t)))) H
        rw [sgs_sgn, bne, Bool.not_not]
        exact k
    · rw [decide_eq_false q]
      unfold hind at k
      rw [decide_eq_false q] at k
      exact iteT k
theorem scMoved : FnScope ["standing", "drawer", "word"] ["standing", "drawer"] (defScope s_moved) := ⟨rfl, rfl, rfl, by decide +kernel, rfl, by decide +kernel, by decide +kernel⟩
theorem ok_moved {f aS : Addr} {fd : FuncData} (F : Fun K "moved" "moved" s_moved f fd) (T : SgT K w mg aS) : FnOk P w K mg base CX0 1 f fd ["standing", "drawer"] spMoved := by
  refine F.ok scMoved (fun vs H Q E h => ?_) (fun cdv A outer s H vs Q E hr h => ?_)
  · obtain ⟨st, d, rfl, _⟩ := h.h
    rfl
  · obtain ⟨st, d, rfl, h7, d0, d1, k⟩ := h.h
    refine ⟨_, pss_cons (ps_set (i := 2) scMoved.nd rfl (.inl rfl) (pe_ifExp (pt_cmpR op_eq (pe_ix ix_str (pv 0) (pv 1) (fun _ _ => rfl)) (pe_ix ix_kdict (pe_glob (v := .ref aS) rfl T.g rfl) pe_str (fun _ _ => rfl)) (nomark _)) pe_str pe_str))
      (pss_one (ps_ret (pe_op op_add_str (pe_op op_add_str (pe_slice sl_str (pv 0) po_none (po_some (pv 1))) (pe_ix ix_kdict (pe_glob (v := .ref aS) rfl T.g rfl) (pv 2) (fun _ _ => rfl))) (pe_slice sl_str (pv 0) (po_some (pe_op op_add (pv 1) pe_int)) po_none)))), ?_⟩
    refine ⟨_, rfl, _, rfl, _, d, _, rfl, rfl, str_small h7, sstr_at d0 d1, aS, _, _, rfl, rfl, T.s, rfl, _, rfl, ?_⟩
    show if decide ((V.str ⟨#[sg (sat st d)]⟩) = V.str "s") = true then _ else _
    rw [sgs_s]
    have fin : ∀ x : Bool, x = sat st d → (∃ v, ((L2.start ["standing", "drawer", "word"] [.str (sstr st), .int d]).set 2 (some (.str (wd x))))[0]? = some (some v) ∧ (∃ z, v = .str z ∧ ∃ i, i = d ∧ True)) → True := fun _ _ _ => trivial
    have small : ∀ a b : Str, a.length ≤ 7 → b.length ≤ 7 → a.length + b.length ≤ sizeLine := fun a b ha hb => Nat.le_of_lt (small1000 (by omega))
    have c7 : ∀ lo hi, (cutS (sstr st) lo hi).length ≤ 7 := fun lo hi => by
      show (cutS (sstr st) lo hi).cps.size ≤ 7
      unfold cutS
      rw [List.size_toArray, List.length_take, List.length_drop, sstr_tl, List.length_map]
      omega
    have one : ∀ b : Bool, (sgn b).length ≤ 7 ∧ (sgn b).cps.toList = [sg (!b)] := by decide +kernel
    have app : ∀ a b : Str, (a ++ b).length = a.length + b.length := fun a b => by
      show (a ++ b).cps.size = a.cps.size + b.cps.size
      rw [← Array.length_toList, ← Array.length_toList, ← Array.length_toList]
      exact (congrArg List.length (tl_append a b)).trans (List.length_append ..)
    cases e : sat st d with
    | false =>
      refine iteT ?_
      refine ⟨_, rfl, _, rfl, _, rfl, _, rfl, str_small h7, _, rfl, aS, wd false, _, rfl, rfl, T.at false, _, _, rfl, rfl, small _ _ (c7 _ _) (one false).1, ?_⟩
      refine ⟨_, rfl, _, rfl, _, _, rfl, rfl, _, rfl, _, rfl, str_small h7, _, _, rfl, rfl, ?_, ?_⟩
      · have h1 := c7 none (some d)
        have h2 := (one false).1
        have h3 := c7 (some (d + 1)) none
        have h4 := app (cutS (sstr st) none (some d)) (sgn false)
        exact Nat.le_of_lt (small1000 (by omega))
      · have := k H (Same.refl H)
        rw [← cut_flip st d d0 d1 (sgn false) (by rw [(one false).2, e])] at this
        exact this
    | true =>
      refine iteF ?_
      refine ⟨_, rfl, _, rfl, _, rfl, _, rfl, str_small h7, _, rfl, aS, wd true, _, rfl, rfl, T.at true, _, _, rfl, rfl, small _ _ (c7 _ _) (one true).1, ?_⟩
      refine ⟨_, rfl, _, rfl, _, _, rfl, rfl, _, rfl, _, rfl, str_small h7, _, _, rfl, rfl, ?_, ?_⟩
      · have h1 := c7 none (some d)
        have h2 := (one true).1
        have h3 := c7 (some (d + 1)) none
        have h4 := app (cutS (sstr st) none (some d)) (sgn true)
        exact Nat.le_of_lt (small1000 (by omega))
      · have := k H (Same.refl H)
        rw [← cut_flip st d d0 d1 (sgn true) (by rw [(one true).2, e])] at this
        exact this
end
end DL

set_option Elab.async false
set_option maxRecDepth 100000
namespace DL
open PySem L2 HT TL
theorem new_at {H : Hp} {a : Addr} {o : HO} (h : H a = none) : Same H (upd H a o) ∧ (upd H a o) a = some o := ⟨same_upd h, upd_same⟩
/-! ### comprehensions that pick, in one word -/
theorem take_pick {α : Type} (p : α → Bool) (v : α → V) {l : List α} {i : Nat} {z : α} (h : l[i]? = some z) :
    ((l.take (i + 1)).filter p).map v = if p z = true then ((l.take i).filter p).map v ++ [v z] else ((l.take i).filter p).map v := by
  obtain ⟨hl, e⟩ := List.getElem?_eq_some_iff.mp h
  rw [List.take_succ_eq_append_getElem hl, List.filter_append, e]
  by_cases q : p z = true
  · rw [if_pos q, List.filter_cons_of_pos q, List.filter_nil, List.map_append]
    rfl
  · rw [if_neg q, List.filter_cons_of_neg q, List.filter_nil, List.append_nil]
theorem lc_pick {α : Type} {J : It} {n : Nat} {G : Hp → Prop} {Y : Nat → Hp → V → Hp → Prop} (wk : Walk J n G Y) (l : List α) (hl : l.length = n) (hn : n ≤ 3000) (p : α → Bool) (v : α → V) {g : TG} {tt : TT} {te : TE} {vs : List Nat} {σ : L2.St} {H1 : Hp} {D : Addr} {Qd : Hp → Prop}
    (hD : H1 D = none) (hG : ∀ H, Same H1 H → G H)
    (hs : ∀ i x z H H' (Tk : V → Hp → Prop) (Nk : Hp → Prop), l[i]? = some z → Same H1 H → Y i H x H' → (∀ H4, p z = true → Same H H4 → Tk (v z) H4) → (∀ H4, p z = false → Same H H4 → Nk H4) →
      g x (wipe σ vs) H' fun σ2 H2 => wipe σ2 vs = wipe σ vs ∧ tt σ2 H2 fun b H3 => if b = true then te σ2 H3 Tk else Nk H3)
    (hd : ∀ H, Same H1 H → H D = some (.lst ((l.filter p).map v)) → Qd H) :
    ∃ W : Nat → Nat → Hp → Prop, (∃ m, W 0 m (upd H1 D (.lst []))) ∧ ∀ i m H, W i m H →
      (J.stop i H ∧ Qd H) ∨ (J.go i H ∧ ∃ Nx : Hp → Prop, (∀ H', Nx H' → ∃ m', m' < m ∧ W (i + 1) m' H') ∧ ∀ x H', J.yld i H x H' → g x (wipe σ vs) H' fun σ2 H2 => wipe σ2 vs = wipe σ vs ∧ tt σ2 H2 fun b H3 =>
        if b = true then te σ2 H3 fun y H4 => ∃ acc, H4 D = some (.lst acc) ∧ acc.length < sizeLine ∧ Nx (upd H4 D (.lst (acc ++ [y]))) else Nx H3) := by
  refine lc_it wk (fun i H' => Same H1 H' ∧ H' D = some (.lst (((l.take i).filter p).map v))) ⟨same_upd hD, upd_same⟩ (fun i H' _ q => hG H' q.1) ?_ ?_
  · rintro i x H H' hi ⟨s1, hD1⟩ y
    have hi' : i < l.length := by omega
    have ez : l[i]? = some l[i] := List.getElem?_eq_getElem hi'
    refine hs i x l[i] H H' _ _ ez s1 y (fun H4 hp s4 => ?_) (fun H4 hp s4 => ?_)
    · refine ⟨_, s4 _ _ hD1, ?_, fun b o e => ?_, ?_⟩
      · rw [List.length_map]
        have h1 := List.length_filter_le p (l.take i)
        rw [List.length_take] at h1
        have h2 : (3000 : Nat) < sizeLine := by decide
        omega
      · rw [upd_ne (ne_of_none e hD)]
        exact s4 _ _ (s1 b o e)
      · rw [upd_same, take_pick p v ez, if_pos hp]
    · refine ⟨s1.trans s4, ?_⟩
      rw [take_pick p v ez, if_neg (by rw [hp]; exact Bool.false_ne_true)]
      exact s4 _ _ hD1
  · rintro H ⟨s1, hD1⟩
    rw [← hl, List.take_length] at hD1
    exact hd H s1 hD1
/-! ### walks over the bars of a tuple -/
theorem walk_bars {K : PySem.W.Frag} {a : Addr} {α : Type} {l : List α} {f : α → V} : Walk (Itt K a) l.length (fun H => SqT K H a (l.map f)) (fun i H x H' => H' = H ∧ ∃ z, l[i]? = some z ∧ x = f z) := by
  have e : l.length = (l.map f).length := by rw [List.length_map]
  rw [e]
  refine (walk_tup (K := K) (a := a) (xs := l.map f)).mono (fun H h => h) fun i H x H' _ _ y => ⟨y.1, ?_⟩
  have h := y.2
  rw [List.getElem?_map] at h
  cases q : l[i]? with
  | none => rw [q] at h; cases h
  | some z => rw [q] at h; cases h; exact ⟨z, rfl, rfl⟩
theorem walk_lst {K : PySem.W.Frag} {a : Addr} {α : Type} {l : List α} {f : α → V} : Walk (Itl K a) l.length (fun H => SqL K H a (l.map f)) (fun i H x H' => H' = H ∧ ∃ z, l[i]? = some z ∧ x = f z) := by
  have e : l.length = (l.map f).length := by rw [List.length_map]
  rw [e]
  refine (walk_list (K := K) (a := a) (xs := l.map f)).mono (fun H h => h) fun i H x H' _ _ y => ⟨y.1, ?_⟩
  have h := y.2
  rw [List.getElem?_map] at h
  cases q : l[i]? with
  | none => rw [q] at h; cases h
  | some z => rw [q] at h; cases h; exact ⟨z, rfl, rfl⟩
end DL

set_option Elab.async false
set_option maxRecDepth 100000
namespace DL
open PySem L2 HT TL
structure CabOk (C : Addr) (H : Hp) (c : Addr) (n : Int) (bs : List Bar) : Prop where
  h : ∃ (t : Addr) (ks : List (Addr × Bar)), CabAt C H c n t ∧ BarsAt H t ks ∧ ks.map (·.2) = bs ∧ OkBars n bs ∧ 1 ≤ n ∧ n ≤ 7 ∧ bs.length ≤ 100
theorem tYes_of {σ : L2.St} {H : Hp} {Q : Bool → Hp → Prop} (h : Q true H) : tYes σ H Q := h
theorem CabOk.same {C : Addr} {H H' : Hp} {c : Addr} {n : Int} {bs : List Bar} (B : CabOk C H c n bs) (s : Same H H') : CabOk C H' c n bs := by
  obtain ⟨t, ks, ⟨dx, h1⟩, h2, h3⟩ := B.h
  exact ⟨⟨t, ks, ⟨dx, s _ _ h1⟩, h2.same s, h3⟩⟩
structure spGetD (C : Addr) (vs : List V) (H : Hp) (Q : VK) (_ : XK) : Prop where
  h : ∃ (c dx : Addr) (n : Int) (t : Addr), vs = [.ref c] ∧ H c = some (.ins C dx (cfl n t)) ∧ Q (.int n) H
structure spGetB (C : Addr) (vs : List V) (H : Hp) (Q : VK) (_ : XK) : Prop where
  h : ∃ (c dx : Addr) (n : Int) (t : Addr), vs = [.ref c] ∧ H c = some (.ins C dx (cfl n t)) ∧ Q (.ref t) H
/-- the two properties of the class -/
structure CabP (P : Program) (w : World) (K : PySem.W.Frag) (mg : Str → Option Value) (base : Heap) (C : Addr) : Prop where
  cl : Cls K C
  d : ∃ p g fd, PropOf K C "drawers" p g ∧ FnOk P w K mg base CX0 1 g fd ["self"] (spGetD C) ∧ Binds K fd ["self"] []
  b : ∃ p g fd, PropOf K C "bars" p g ∧ FnOk P w K mg base CX0 1 g fd ["self"] (spGetB C) ∧ Binds K fd ["self"] []
structure spGoes (C : Addr) (vs : List V) (H : Hp) (Q : VK) (_ : XK) : Prop where
  h : ∃ (c : Addr) (bs : List Bar) (st : List Bool) (d : Int), vs = [.ref c, .str (sstr st), .int d] ∧ CabOk C H c st.length bs ∧ 0 ≤ d ∧ d < st.length ∧ ∀ H', Same H H' → Q (.bl (goesB bs st d)) H'
structure spBarring (C : Addr) (vs : List V) (H : Hp) (Q : VK) (_ : XK) : Prop where
  h : ∃ (c t : Addr) (ks : List (Addr × Bar)) (st : List Bool) (d : Int), vs = [.ref c, .str (sstr st), .int d] ∧ CabAt C H c st.length t ∧ BarsAt H t ks ∧ OkBars st.length (ks.map (·.2)) ∧ st.length ≤ 7 ∧ ks.length ≤ 100 ∧ 0 ≤ d ∧ d < st.length ∧
    ∀ (p : Addr) (H' : Hp), H p = none → Same H H' → H' p = some (.lst ((ks.filter fun k => hind k.2 st d).map fun k => V.ref k.1)) → Q (.ref p) H'
structure spFreeDrawers (C : Addr) (vs : List V) (H : Hp) (Q : VK) (_ : XK) : Prop where
  h : ∃ (c : Addr) (bs : List Bar) (st : List Bool), vs = [.ref c, .str (sstr st)] ∧ CabOk C H c st.length bs ∧ ∀ (p : Addr) (H' : Hp), H p = none → Same H H' → H' p = some (.lst ((freeL bs st).map V.int)) → Q (.ref p) H'
theorem take_succ_map {α β : Type} (f : α → β) {l : List α} {i : Nat} {x : α} (h : l[i]? = some x) : (l.take i).map f ++ [f x] = (l.take (i + 1)).map f := by
  obtain ⟨hl, e⟩ := List.getElem?_eq_some_iff.mp h
  rw [List.take_succ_eq_append_getElem hl, List.map_append, ← e]
  rfl
theorem any_take {ks : List (Addr × Bar)} {bs : List Bar} (e : ks.map (·.2) = bs) (f : Bar → Bool) : ((ks.take (ks.map fun k => V.ref k.1).length).map fun k => f k.2).any id = bs.any f := by
  rw [List.length_map, List.take_length, ← e, List.any_map, List.any_map]
  rfl
section
variable {P : Program} {w : World} {K : PySem.W.Frag} {mg : Str → Option Value} {base : Heap}
theorem scDrawers : FnScope ["self"] ["self"] (defScope sDrawers) := ⟨rfl, rfl, rfl, by decide +kernel, rfl, by decide +kernel, by decide +kernel⟩
theorem ok_getD {f C : Addr} {fd : FuncData} (F : Fun K "drawers" "Cabinet.drawers" sDrawers f fd) (T : CabT K mg C) : FnOk P w K mg base CX0 1 f fd ["self"] (spGetD C) := by
  refine F.ok scDrawers (fun vs H Q E h => ?_) (fun cdv A outer s H vs Q E hr h => ?_)
  · obtain ⟨c, dx, n, t, rfl, _⟩ := h.h
    rfl
  · obtain ⟨c, dx, n, t, rfl, hc, k⟩ := h.h
    exact ⟨_, pss_one (ps_ret (pe_fld (pv 0) rfl)), ⟨_, rfl, c, C, dx, _, _, rfl, hc, T.cl, T.nD, cfl_d n t, k⟩⟩
theorem scBars : FnScope ["self"] ["self"] (defScope sBars) := ⟨rfl, rfl, rfl, by decide +kernel, rfl, by decide +kernel, by decide +kernel⟩
theorem ok_getB {f C : Addr} {fd : FuncData} (F : Fun K "bars" "Cabinet.bars" sBars f fd) (T : CabT K mg C) : FnOk P w K mg base CX0 1 f fd ["self"] (spGetB C) := by
  refine F.ok scBars (fun vs H Q E h => ?_) (fun cdv A outer s H vs Q E hr h => ?_)
  · obtain ⟨c, dx, n, t, rfl, _⟩ := h.h
    rfl
  · obtain ⟨c, dx, n, t, rfl, hc, k⟩ := h.h
    exact ⟨_, pss_one (ps_ret (pe_fld (pv 0) rfl)), ⟨_, rfl, c, C, dx, _, _, rfl, hc, T.cl, T.nB, cfl_b n t, k⟩⟩
abbrev nGoes : List Str := ["cabinet", "standing", "drawer", "bar"]
theorem scAg : FnScope nGoes ["cabinet", "standing", "drawer"] (defScope s_bars_against) := ⟨rfl, rfl, rfl, by decide +kernel, rfl, by decide +kernel, by decide +kernel⟩
theorem ok_against {f f1 C : Addr} {fd fd1 : FuncData} (F : Fun K "bars_against" "bars_against" s_bars_against f fd) (CP : CabP P w K mg base C) (G : FnOk P w K mg base CX0 1 f1 fd1 ["bar", "standing", "drawer"] (spHold K)) (g1 : mg "hinders" = some (.ref f1)) (k1 : PySem.W.keepIn K (.ref f1) = true) (b1 : Binds K fd1 ["bar", "standing", "drawer"] []) :
    FnOk P w K mg base CX0 4 f fd ["cabinet", "standing", "drawer"] (spBarring C) := by
  refine F.ok scAg (fun vs H Q E h => ?_) (fun cdv A outer s H vs Q E hr h => ?_)
  · obtain ⟨c, t, ks, st, d, rfl, _⟩ := h.h
    rfl
  · obtain ⟨c, t, ks, st, d, rfl, ⟨dx, hc⟩, B, O, n7, n100, d0, d1, k⟩ := h.h
    obtain ⟨pB, gB, fdB, hpB, GB, bB⟩ := CP.b
    refine ⟨_, pss_one (ps_ret (pe_lc (own := [("bar", 3)]) (g := gName 3) (by rfl) scAg.nd (pi_tup (pe_prop (pv 0) CP.cl hpB GB (hr.mono (by decide)) bB .nil pass0 rfl)) (blkOk_by (N := nGoes) (sc := defScope s_bars_against) (by decide +kernel)) (fun _ _ _ _ _ => pg_name (i := 3) scAg.nd rfl (Or.inl rfl))
        (fun _ _ _ _ _ => pts_one (pt_val (pe_call G (hr.mono (by decide)) rfl g1 k1 b1 .nil pass0 (pa_cons (pv 3) (pa_cons (pv 1) (pa_cons (pv 2) pa_nil)))))) (fun _ _ _ _ _ => pv 3))), ?_⟩
    refine ⟨_, rfl, c, dx, _, rfl, hc, ⟨⟨c, dx, _, t, rfl, hc, ?_⟩⟩⟩
    refine ⟨t, rfl, ⟨_, SqT.of' B.tu⟩, fun D hD => ?_⟩
    refine lc_pick (walk_bars (K := K) (a := t) (l := ks) (f := fun k => V.ref k.1)) ks rfl (by omega) (fun k => hind k.2 st d) (fun k => V.ref k.1) hD (fun H' s1 => SqT.of' (s1 _ _ B.tu)) ?_ (fun H' s1 hD1 => k D H' hD s1 hD1)
    rintro i x kk H1 H1' Tk Nk ek s1 ⟨rfl, z, ez, rfl⟩ kT kF
    rw [ek] at ez
    cases ez
    have hm : kk ∈ ks := List.mem_of_getElem? ek
    have hok : kk.2.ok st.length := O.ok _ (List.mem_map.mpr ⟨kk, hm, rfl⟩)
    refine ⟨rfl, ?_⟩
    refine ⟨_, rfl, _, rfl, _, rfl, ⟨⟨kk.1, kk.2, st, d, rfl, SqT.of' (s1 _ _ (B.el kk hm)), hok, by omega, d0, d1, _, rfl, ?_⟩⟩⟩
    cases e : hind kk.2 st d with
    | true => exact iteT ⟨_, rfl, kT _ e (Same.refl _)⟩
    | false => exact iteF (kF _ e (Same.refl _))
theorem goes_empty {ks : List (Addr × Bar)} {bs : List Bar} (e : ks.map (·.2) = bs) (st : List Bool) (d : Int) : ((ks.filter fun k => hind k.2 st d).map fun k => V.ref k.1).isEmpty = goesB bs st d := by
  subst e
  unfold goesB
  induction ks with
  | nil => rfl
  | cons k ks ih =>
    rw [List.map_cons, List.any_cons]
    by_cases q : hind k.2 st d = true
    · rw [List.filter_cons, if_pos q, q]
      rfl
    · rw [List.filter_cons, if_neg q]
      have q' : hind k.2 st d = false := by simpa using q
      rw [q', Bool.false_or]
      exact ih
theorem scGoes : FnScope ["cabinet", "standing", "drawer"] ["cabinet", "standing", "drawer"] (defScope s_goes) := ⟨rfl, rfl, rfl, by decide +kernel, rfl, by decide +kernel, by decide +kernel⟩
theorem ok_goes {f f1 C : Addr} {fd fd1 : FuncData} (F : Fun K "goes" "goes" s_goes f fd) (G : FnOk P w K mg base CX0 4 f1 fd1 ["cabinet", "standing", "drawer"] (spBarring C)) (g1 : mg "bars_against" = some (.ref f1)) (k1 : PySem.W.keepIn K (.ref f1) = true) (b1 : Binds K fd1 ["cabinet", "standing", "drawer"] []) :
    FnOk P w K mg base CX0 6 f fd ["cabinet", "standing", "drawer"] (spGoes C) := by
  refine F.ok scGoes (fun vs H Q E h => ?_) (fun cdv A outer s H vs Q E hr h => ?_)
  · obtain ⟨c, bs, st, d, rfl, _⟩ := h.h
    rfl
  · obtain ⟨c, bs, st, d, rfl, B, d0, d1, k⟩ := h.h
    obtain ⟨t, ks, hc, hB, ebs, O, n1, n7, n100⟩ := B.h
    refine ⟨_, pss_one (ps_ret (pe_notT (pe_call G (hr.mono (by decide)) rfl g1 k1 b1 .nil pass0 (pa_cons (pv 0) (pa_cons (pv 1) (pa_cons (pv 2) pa_nil)))))), ?_⟩
    refine ⟨_, rfl, _, rfl, _, rfl, ⟨⟨c, t, ks, st, d, rfl, hc, hB, by rw [ebs]; exact O, by omega, by rw [← ebs, List.length_map] at n100; exact n100, d0, d1, fun p H' hp s1 h1 => ?_⟩⟩⟩
    refine ⟨_, .inl ⟨_, SqL.of h1, rfl⟩, ?_⟩
    rw [Bool.not_not, goes_empty ebs]
    exact k H' s1
end
end DL

set_option Elab.async false
set_option maxRecDepth 100000
namespace DL
open PySem L2 HT TL
theorem drs_get {n i : Nat} (h : i < n) : (drs n)[i]? = some (i : Int) := by
  unfold drs
  rw [List.getElem?_map, List.getElem?_range h]
  rfl
theorem take_succ_filter {α : Type} (f : α → Bool) {l : List α} {i : Nat} {x : α} (h : l[i]? = some x) : (l.take (i + 1)).filter f = if f x = true then (l.take i).filter f ++ [x] else (l.take i).filter f := by
  obtain ⟨hl, e⟩ := List.getElem?_eq_some_iff.mp h
  rw [List.take_succ_eq_append_getElem hl, List.filter_append, e]
  by_cases q : f x = true
  · rw [if_pos q, List.filter_cons_of_pos q, List.filter_nil]
  · rw [if_neg q, List.filter_cons_of_neg q, List.filter_nil, List.append_nil]
theorem drs_len (n : Nat) : (drs n).length = n := by unfold drs; rw [List.length_map, List.length_range]
/-- a drawn cabinet's parts: the list at p -/
structure DrOk (H : Hp) (p : Addr) (n : Int) (bs : List Bar) : Prop where
  h : ∃ (t : Addr) (ks : List (Addr × Bar)) (zs : List V), H p = some (.lst (.int n :: .ref t :: zs)) ∧ BarsAt H t ks ∧ ks.map (·.2) = bs ∧ OkBars n bs ∧ 1 ≤ n ∧ n ≤ 7 ∧ bs.length ≤ 100
theorem DrOk.same {H H' : Hp} {p : Addr} {n : Int} {bs : List Bar} (B : DrOk H p n bs) (s : Same H H') : DrOk H' p n bs := by
  obtain ⟨t, ks, zs, h1, h2, h3⟩ := B.h
  exact ⟨⟨t, ks, zs, s _ _ h1, h2.same s, h3⟩⟩
structure spLawFree (vs : List V) (H : Hp) (Q : VK) (_ : XK) : Prop where
  h : ∃ (p : Addr) (bs : List Bar) (st : List Bool), vs = [.ref p, .str (sstr st)] ∧ DrOk H p st.length bs ∧ ∀ (q : Addr) (H' : Hp), H q = none → Same H H' → H' q = some (.lst ((freeL bs st).map V.int)) → Q (.ref q) H'
theorem occ_so (b : Bool) : Builtin.Str.occurrences ("so" : Str) ⟨#[sg b]⟩ 0 ("so" : Str).length 1 = [if b = true then 1 else 0] := by revert b; decide +kernel
theorem os_at (b : Bool) : atI ("os" : Str).cps.toList (((if b = true then 1 else 0 : Nat) : Int)) = some (sg (!b)) := by revert b; decide +kernel
theorem join_codes (cs : List Nat) : Txt.join "" (cs.map fun c => (⟨#[c]⟩ : Str)) = ⟨cs.toArray⟩ := by
  rw [join_eq]
  refine PyProof.Rows.ext_toList ?_
  show tl _ = cs
  rw [tl_join]
  have z : tl ("" : Str) = [] := by decide +kernel
  rw [z]
  have : ∀ l : List Nat, joinL [] ((l.map fun c => (⟨#[c]⟩ : Str)).map tl) = l := by
    intro l
    induction l with
    | nil => rfl
    | cons a l ih =>
      cases l with
      | nil => rfl
      | cons b l =>
        show [a] ++ ([] ++ joinL [] (((b :: l).map fun c => (⟨#[c]⟩ : Str)).map tl)) = _
        rw [ih]
        rfl
  exact this cs
theorem sum_ones (cs : List Nat) : ((cs.map fun c => (⟨#[c]⟩ : Str)).map (·.length)).sum = cs.length := by
  induction cs with
  | nil => rfl
  | cons a l ih =>
    rw [List.map_cons, List.map_cons, List.sum_cons, ih, List.length_cons]
    show 1 + l.length = _
    omega
theorem flip_sat {st : List Bool} {d : Int} {i : Nat} (h : i < st.length) (d0 : 0 ≤ d) : (flip st d)[i]? = some (if (i : Int) = d then !sat st d else sat st i) := by
  unfold flip sat
  rw [Int.toNat_natCast]
  by_cases q : (i : Int) = d
  · subst q
    rw [if_pos rfl, Int.toNat_natCast, List.getElem?_set_self h]
  · rw [if_neg q, List.getElem?_set_ne (by omega), List.getD_eq_getElem?_getD, List.getElem?_eq_getElem h]
    rfl
section
variable {P : Program} {w : World} {K : PySem.W.Frag} {mg : Str → Option Value} {base : Heap}
abbrev nFD : List Str := ["cabinet", "standing", "drawer"]
theorem scFD : FnScope nFD ["cabinet", "standing"] (defScope s_free_drawers) := ⟨rfl, rfl, rfl, by decide +kernel, rfl, by decide +kernel, by decide +kernel⟩
theorem ok_freeDrawers {f f1 C : Addr} {fd fd1 : FuncData} (F : Fun K "free_drawers" "free_drawers" s_free_drawers f fd) (T : Bt mg) (CP : CabP P w K mg base C) (G : FnOk P w K mg base CX0 6 f1 fd1 ["cabinet", "standing", "drawer"] (spGoes C)) (g1 : mg "goes" = some (.ref f1)) (k1 : PySem.W.keepIn K (.ref f1) = true) (b1 : Binds K fd1 ["cabinet", "standing", "drawer"] []) :
    FnOk P w K mg base CX0 8 f fd ["cabinet", "standing"] (spFreeDrawers C) := by
  refine F.ok scFD (fun vs H Q E h => ?_) (fun cdv A outer s H vs Q E hr h => ?_)
  · obtain ⟨c, bs, st, rfl, _⟩ := h.h
    rfl
  · obtain ⟨c, bs, st, rfl, B, k⟩ := h.h
    obtain ⟨t, ks, ⟨dx, hc⟩, hB, ebs, O, n1, n7, n100⟩ := id B.h
    obtain ⟨pD, gD, fdD, hpD, GD, bD⟩ := CP.d
    refine ⟨_, pss_one (ps_ret
      (pe_lc (own := [("drawer", 2)]) (g := gName 2) (by rfl) scFD.nd (pi_range1 (by rfl) T.range (pa_cons (pe_prop (pv 0) CP.cl hpD GD (hr.mono (by decide)) bD .nil pass0 rfl) pa_nil)) (blkOk_by (N := nFD) (sc := defScope s_free_drawers) (by decide +kernel)) (fun _ _ _ _ _ => pg_name (i := 2) scFD.nd rfl (by first | exact Or.inl rfl | exact Or.inr rfl))
        (fun _ _ _ _ _ => pts_one (pt_val (pe_call G (hr.mono (by decide)) rfl g1 k1 b1 .nil pass0 (pa_cons (pv 0) (pa_cons (pv 1) (pa_cons (pv 2) pa_nil)))))) (fun _ _ _ _ _ => pv 2))), ?_⟩
    refine ⟨_, rfl, c, dx, _, rfl, hc, ⟨⟨c, dx, _, t, rfl, hc, ?_⟩⟩⟩
    refine ⟨_, rfl, by omega, by omega, fun D hD => ?_⟩
    refine lc_range (lo := 0) (n := st.length) (fun i H' => Same H H' ∧ H' D = some (.lst ((((drs st.length).take i).filter fun d => goesB bs st d).map V.int))) ⟨same_upd hD, upd_same⟩ ?_ ?_
    · rintro i H' hi ⟨s1, hD1⟩
      refine ⟨rfl, ?_⟩
      have ei : (0 : Int) + (i : Nat) = (i : Int) := by omega
      refine ⟨_, rfl, _, rfl, _, rfl, ⟨⟨c, bs, st, (0 : Int) + (i : Nat), rfl, B.same s1, by omega, by omega, fun H2 s2 => ⟨_, rfl, ?_⟩⟩⟩⟩
      rw [take_succ_filter (fun d => goesB bs st d) (drs_get hi), ei]
      cases e : goesB bs st i with
      | true =>
        refine iteT ⟨_, rfl, _, s2 _ _ hD1, ?_, fun b o eb => ?_, ?_⟩
        · rw [List.length_map]
          have := List.length_filter_le (fun d => goesB bs st d) ((drs st.length).take i)
          rw [List.length_take, drs_len] at this
          exact small1000 (by omega)
        · rw [upd_ne (ne_of_none eb hD)]
          exact s2 _ _ (s1 _ _ eb)
        · rw [upd_same, if_pos rfl, List.map_append]
          rfl
      | false =>
        refine iteF ⟨fun b o eb => s2 _ _ (s1 _ _ eb), ?_⟩
        rw [if_neg Bool.false_ne_true]
        exact s2 _ _ hD1
    · rintro H' ⟨s1, hD1⟩
      refine k D H' hD s1 ?_
      rw [List.take_of_length_le (by rw [drs_len]; exact Nat.le_refl _)] at hD1
      exact hD1
theorem scLHold : FnScope ["_law_bar", "_law_standing", "_law_drawer"] ["_law_bar", "_law_standing", "_law_drawer"] (defScope s__law_hold) := ⟨rfl, rfl, rfl, by decide +kernel, rfl, by decide +kernel, by decide +kernel⟩
theorem ok_lawHold {f : Addr} {fd : FuncData} (F : Fun K "_law_hold" "_law_hold" s__law_hold f fd) : FnOk P w K mg base CX0 1 f fd ["_law_bar", "_law_standing", "_law_drawer"] (spHold K) := by
  refine F.ok scLHold (fun vs H Q E h => ?_) (fun cdv A outer s H vs Q E hr h => ?_)
  · obtain ⟨a, b, st, d, rfl, _⟩ := h.h
    rfl
  · obtain ⟨a, b, st, d, rfl, hq, hb, h7, d0, d1, k⟩ := h.h
    obtain ⟨b1, b2, b3, b4, b5⟩ := hb
    refine ⟨_, pss_cons (ps_if (PW.pt (pw_or (pt_cmpR op_ne (pe_ix ix_tup (pv 0) pe_int (fun _ _ => rfl)) (pv 2) (nomark _)) (pw_or1 (pt_cmpR op_ne (pe_ix ix_tup (pv 0) pe_int (fun _ _ => rfl)) (pe_ifExp (pt_cmpR op_eq (pe_ix ix_str (pv 1) (pv 2) (fun _ _ => rfl)) pe_str (nomark _)) pe_str pe_str) (nomark _))))) (pss_one (ps_ret pe_bl)) pss_nil)
      (pss_one (ps_ret (pe_cmpR op_ne (pe_ix ix_tup (pv 0) pe_int (fun _ _ => rfl)) (pe_ifExp (pt_cmpR op_eq (pe_ix ix_str (pv 1) (pe_ix ix_tup (pv 0) pe_int (fun _ _ => rfl)) (fun _ _ => rfl)) pe_str (nomark _)) pe_str pe_str) (nomark _)))), ?_⟩
    refine ⟨_, rfl, a, _, 0, .int b.d, rfl, rfl, hq, atI_nat (j := 0) rfl, _, rfl, rfl, _, rfl, ?_⟩
    have e0 : decide ((V.int b.d) = V.int d) = decide (b.d = d) := decide_eq_decide.mpr ⟨fun z => by injection z, fun z => by rw [z]⟩
    show if (!decide ((V.int b.d) = V.int d)) = true then _ else _
    rw [e0]
    unfold hind at k
    by_cases q : b.d = d
    · rw [decide_eq_true q] at k ⊢
      refine iteF ?_
      refine ⟨_, rfl, a, _, 1, .str (wd b.w), rfl, rfl, hq, atI_nat (j := 1) rfl, ?_⟩
      refine ⟨_, rfl, _, rfl, _, d, _, rfl, rfl, str_small h7, sstr_at d0 d1, rfl, _, rfl, ?_⟩
      show if decide ((V.str ⟨#[sg (sat st d)]⟩) = V.str "s") = true then _ else _
      rw [sgs_s]
      have second : ∀ H0 : Hp, H0 = H → (sat st d == b.w) = true → (tRet (tOp rNe (tOp (rIxT K) (tVar 0) (tC (.int 3))) (tIf (tTest (tOp rEq (tOp rIxS (tVar 1) (tOp (rIxT K) (tVar 0) (tC (.int 2)))) (tC (.str "o")))) (tC (.str "open")) (tC (.str "shut"))))
          { nx := fun _ H' => Q .non H', rt := Q } (L2.start ["_law_bar", "_law_standing", "_law_drawer"] [.ref a, .str (sstr st), .int d]) H0) := by
        intro H0 e0 e1
        subst e0
        rw [e1] at k
        refine ⟨_, rfl, a, _, 3, .str (wd b.t), rfl, rfl, hq, atI_nat (j := 3) rfl, ?_⟩
        refine ⟨_, rfl, _, rfl, a, _, 2, .int b.o, rfl, rfl, hq, atI_nat (j := 2) rfl, _, b.o, _, rfl, rfl, str_small h7, sstr_at b3 b4, rfl, _, rfl, ?_⟩
        show if decide ((V.str ⟨#[sg (sat st b.o)]⟩) = V.str "o") = true then _ else _
        rw [sgs_o]
        cases e : sat st b.o with
        | true =>
          rw [e] at k
          refine iteT ⟨rfl, ?_⟩
          show Q (.bl (!decide ((V.str (wd b.t)) = V.str (wd false)))) H0
          rw [wd_ne]
          revert k; cases b.t <;> exact id
        | false =>
          rw [e] at k
          refine iteF ⟨rfl, ?_⟩
          show Q (.bl (!decide ((V.str (wd b.t)) = V.str (wd true)))) H0
          rw [wd_ne]
          revert k; cases b.t <;> exact id
      cases e : sat st d with
      | false =>
        refine iteT ⟨rfl, _, rfl, ?_⟩
        show if (!decide ((V.str (wd b.w)) = V.str (wd false))) = true then _ else _
        rw [wd_ne]
        cases ew : b.w with
        | false => exact iteF (second H rfl (by rw [e, ew]; rfl))
        | true =>
          rw [e, ew] at k
          exact iteT k
      | true =>
        refine iteF ⟨rfl, _, rfl, ?_⟩
        show if (!decide ((V.str (wd b.w)) = V.str (wd true))) = true then _ else _
        rw [wd_ne]
        cases ew : b.w with
        | true => exact iteF (second H rfl (by rw [e, ew]; rfl))
        | false =>
          rw [e, ew] at k
          exact iteT k
    · rw [decide_eq_false q] at k ⊢
      exact iteT k
end
end DL

set_option Elab.async false
set_option maxRecDepth 100000
namespace DL
open PySem L2 HT TL
section
variable {P : Program} {w : World} {K : PySem.W.Frag} {mg : Str → Option Value} {base : Heap}
abbrev nLF : List Str := ["_law_d", "_law_standing", "_law_drawer", "_law_bar"]
theorem scLF : FnScope nLF ["_law_d", "_law_standing"] (defScope s__law_free) := ⟨rfl, rfl, rfl, by decide +kernel, rfl, by decide +kernel, by decide +kernel⟩
theorem ok_lawFree {f f1 : Addr} {fd fd1 : FuncData} (F : Fun K "_law_free" "_law_free" s__law_free f fd) (T : Bt mg) (G : FnOk P w K mg base CX0 1 f1 fd1 ["_law_bar", "_law_standing", "_law_drawer"] (spHold K)) (g1 : mg "_law_hold" = some (.ref f1)) (k1 : PySem.W.keepIn K (.ref f1) = true)
    (b1 : Binds K fd1 ["_law_bar", "_law_standing", "_law_drawer"] []) (zA : mg "any" = none) : FnOk P w K mg base CX0 2 f fd ["_law_d", "_law_standing"] spLawFree := by
  refine F.ok scLF (fun vs H Q E h => ?_) (fun cdv A outer s H vs Q E hr h => ?_)
  · obtain ⟨p, bs, st, rfl, _⟩ := h.h
    rfl
  · obtain ⟨p, bs, st, rfl, B, k⟩ := h.h
    obtain ⟨t, ks, zs, hp, hB, ebs, O, n1, n7, n100⟩ := id B.h
    refine ⟨_, pss_one (ps_ret
      (pe_lc (own := [("_law_drawer", 2)]) (g := gName 2) (by rfl) scLF.nd (pi_range1 (by rfl) T.range (pa_cons (pe_ix ix_list (pv 0) pe_int (fun _ _ => rfl)) pa_nil)) (blkOk_by (N := nLF) (sc := defScope s__law_free) (by decide +kernel)) (fun _ _ _ _ _ => pg_name (i := 2) scLF.nd rfl (by first | exact Or.inl rfl | exact Or.inr rfl))
        (fun _ _ _ _ _ => pts_one (pt_not (pt_val (pe_callB (cr_anyK (K := K) rfl rfl) (by rfl) zA boot_any_ (pa_cons
          (by exact (pe_lc (own := [("_law_bar", 3)]) (g := gName 3) (tt := tYes) (by rfl) scLF.nd (pi_tupK (K := K) rfl (pe_ix (ix_listK (K := K) rfl) (pv 0) pe_int (fun _ _ => rfl))) (blkOk_by (N := nLF) (by rfl)) (fun _ _ _ _ _ => pg_name (i := 3) scLF.nd rfl (Or.inl rfl)) (fun _ _ _ _ _ => pts_nil)
            (fun _ _ _ _ _ => pe_call G (hr.mono (by decide)) rfl g1 k1 b1 .nil pass0 (pa_cons (pv 3) (pa_cons (pv 1) (pa_cons (pv 2) pa_nil)))))) pa_nil))))) (fun _ _ _ _ _ => pv 2))), ?_⟩
    refine ⟨_, rfl, p, _, 0, .int _, rfl, rfl, SqL.of hp, atI_nat (j := 0) rfl, _, rfl, by omega, by omega, fun D hD => ?_⟩
    refine lc_range (lo := 0) (n := st.length) (fun i H' => Same H H' ∧ H' D = some (.lst ((((drs st.length).take i).filter fun d => goesB bs st d).map V.int))) ⟨same_upd hD, upd_same⟩ ?_ ?_
    · rintro i H' hi ⟨s1, hD1⟩
      refine ⟨rfl, ?_⟩
      have ei : (0 : Int) + (i : Nat) = (i : Int) := by omega
      refine ⟨_, rfl, p, _, 1, .ref t, rfl, rfl, SqL.of (s1 _ _ hp), atI_nat (j := 1) rfl, t, rfl, ⟨_, SqT.of' (s1 _ _ hB.tu)⟩, fun D2 hD2 => ?_⟩
      refine lc_tup (K := K) (a := t) (xs := ks.map fun k => V.ref k.1) (fun j H2 => Same H' H2 ∧ H2 D2 = some (.lst (((ks.take j).map fun k => hind k.2 st i).map V.bl))) ⟨same_upd hD2, upd_same⟩ (fun j H2 _ q => SqT.of' (q.1 _ _ (s1 _ _ hB.tu))) ?_ ?_
      · rintro j x H2 hj ⟨s2, hD3⟩
        rw [List.getElem?_map] at hj
        cases ek : ks[j]? with
        | none => rw [ek] at hj; cases hj
        | some kk =>
          rw [ek] at hj
          cases hj
          have hm : kk ∈ ks := List.mem_of_getElem? ek
          have hok : kk.2.ok st.length := O.ok _ (by rw [← ebs]; exact List.mem_map.mpr ⟨kk, hm, rfl⟩)
          refine ⟨rfl, tYes_of (iteT ?_)⟩
          refine ⟨_, rfl, _, rfl, _, rfl, ⟨⟨kk.1, kk.2, st, (0 : Int) + (i : Nat), rfl, SqT.of' (s2 _ _ (s1 _ _ (hB.el kk hm))), hok, by omega, by omega, by omega, ?_⟩⟩⟩
          refine ⟨_, hD3, ?_, fun b o e => ?_, ?_⟩
          · rw [List.length_map, List.length_map, List.length_take]
            have h2 : ks.length ≤ 100 := by rw [← ebs, List.length_map] at n100; exact n100
            exact small1000 (by omega)
          · rw [upd_ne (ne_of_none e hD2)]
            exact s2 b o e
          · rw [upd_same, ei]
            congr 2
            rw [List.map_map, List.map_map]
            exact take_succ_map (V.bl ∘ fun k => hind k.2 st i) ek
      · rintro H2 ⟨s2, hD3⟩
        refine ⟨D2, _, rfl, SqL.of hD3, _, rfl, ?_⟩
        rw [any_take ebs fun b => hind b st i]
        rw [take_succ_filter (fun d => goesB bs st d) (drs_get hi)]
        show if (goesB bs st i) = true then _ else _
        cases e : goesB bs st i with
        | true =>
          refine iteT ⟨_, rfl, _, s2 _ _ hD1, ?_, fun b o eb => ?_, ?_⟩
          · rw [List.length_map]
            have := List.length_filter_le (fun d => goesB bs st d) ((drs st.length).take i)
            rw [List.length_take, drs_len] at this
            exact small1000 (by omega)
          · rw [upd_ne (ne_of_none eb hD)]
            exact s2 _ _ (s1 _ _ eb)
          · rw [upd_same, if_pos rfl, List.map_append, ei]
            rfl
        | false =>
          refine iteF ⟨fun b o eb => s2 _ _ (s1 _ _ eb), ?_⟩
          rw [if_neg Bool.false_ne_true]
          exact s2 _ _ hD1
    · rintro H' ⟨s1, hD1⟩
      refine k D H' hD s1 ?_
      rw [List.take_of_length_le (by rw [drs_len]; exact Nat.le_refl _)] at hD1
      exact hD1
abbrev nLM : List Str := ["_law_standing", "_law_drawer", "_law_at"]
theorem scLM : FnScope nLM ["_law_standing", "_law_drawer"] (defScope s__law_moved) := ⟨rfl, rfl, rfl, by decide +kernel, rfl, by decide +kernel, by decide +kernel⟩
theorem ok_lawMoved {f : Addr} {fd : FuncData} (F : Fun K "_law_moved" "_law_moved" s__law_moved f fd) (T : Bt mg) : FnOk P w K mg base CX0 1 f fd ["_law_standing", "_law_drawer"] spMoved := by
  refine F.ok scLM (fun vs H Q E h => ?_) (fun cdv A outer s H vs Q E hr h => ?_)
  · obtain ⟨st, d, rfl, _⟩ := h.h
    rfl
  · obtain ⟨st, d, rfl, h7, d0, d1, k⟩ := h.h
    refine ⟨_, pss_one (ps_ret (pe_join pe_str
      (pe_lc (own := [("_law_at", 2)]) (g := gName 2) (tt := tYes) (by rfl) scLM.nd (pi_range1 (by rfl) T.range (pa_cons (pe_callB call_len_str (by rfl) T.len PySem.boot_len (pa_cons (pv 0) pa_nil)) pa_nil)) (blkOk_by (N := nLM) (sc := defScope s__law_moved) (by decide +kernel)) (fun _ _ _ _ _ => pg_name (i := 2) scLM.nd rfl (by first | exact Or.inl rfl | exact Or.inr rfl)) (fun _ _ _ _ _ => pts_nil)
        (fun _ _ _ _ _ => pe_ifExp (pt_cmpR op_ne (pv 2) (pv 1) (nomark _)) (pe_ix ix_str (pv 0) (pv 2) (fun _ _ => rfl)) (pe_ix ix_str pe_str (pe_bmK (K := K) rfl PySem.F.plainAttrs_str PySem.F.slot_str_index PySem.F.type_str_index mt_sindex pe_str (pa_cons (pe_ix ix_str (pv 0) (pv 2) (fun _ _ => rfl)) pa_nil)) (fun _ _ => rfl)))))), ?_⟩
    refine ⟨⟨_, rfl⟩, ?_⟩
    refine ⟨_, rfl, _, rfl, str_small h7, _, rfl, ?_⟩
    rw [sstr_len]
    refine ⟨by omega, by omega, fun D hD => ?_⟩
    refine lc_range (lo := 0) (n := st.length) (fun i H' => Same H H' ∧ H' D = some (.lst ((((flip st d).take i).map fun b => sgs b).map V.str))) ⟨same_upd hD, upd_same⟩ ?_ ?_
    · rintro i H' hi ⟨s1, hD1⟩
      refine ⟨rfl, tYes_of (iteT ?_)⟩
      have ei : (0 : Int) + (i : Nat) = (i : Int) := by omega
      have small : ((((flip st d).take i).map fun b => sgs b).map V.str).length < sizeLine := by
        rw [List.length_map, List.length_map, List.length_take, flip_len]
        exact small1000 (by omega)
      have fin : ∀ b : Bool, (flip st d)[i]? = some b → ∃ acc, H' D = some (.lst acc) ∧ acc.length < sizeLine ∧ Same H (upd H' D (.lst (acc ++ [.str ⟨#[sg b]⟩]))) ∧ (upd H' D (.lst (acc ++ [.str ⟨#[sg b]⟩]))) D = some (.lst ((((flip st d).take (i + 1)).map fun b => sgs b).map V.str)) := by
        intro b hb
        refine ⟨_, hD1, small, fun c o e => ?_, ?_⟩
        · rw [upd_ne (ne_of_none e hD)]
          exact s1 c o e
        · rw [upd_same, List.map_map, List.map_map, ← take_succ_map (V.str ∘ fun b => sgs b) hb]
          rfl
      refine ⟨_, rfl, _, rfl, rfl, _, rfl, ?_⟩
      have e0 : decide ((V.int ((0 : Int) + (i : Nat))) = V.int d) = decide ((i : Int) = d) := decide_eq_decide.mpr ⟨fun z => by injection z with z; omega, fun z => by rw [ei, z]⟩
      show if (!decide ((V.int ((0 : Int) + (i : Nat))) = V.int d)) = true then _ else _
      rw [e0]
      have fs := flip_sat (st := st) (d := d) hi d0
      by_cases q : (i : Int) = d
      · rw [decide_eq_true q]
        rw [if_pos q] at fs
        refine iteF ⟨rfl, ?_⟩
        refine ⟨_, rfl, _, rfl, _, (0 : Int) + (i : Nat), _, rfl, rfl, str_small h7, sstr_at (by omega) (by omega), ?_⟩
        refine ⟨_, _, _, [], rfl, rfl, occ_so _, _, _, _, rfl, rfl, (by decide +kernel), os_at _, ?_⟩
        rw [ei, q]
        exact fin _ fs
      · rw [decide_eq_false q]
        rw [if_neg q] at fs
        refine iteT ?_
        refine ⟨_, rfl, _, rfl, _, (0 : Int) + (i : Nat), _, rfl, rfl, str_small h7, sstr_at (by omega) (by omega), ?_⟩
        rw [ei]
        exact fin _ fs
    · rintro H' ⟨s1, hD1⟩
      rw [List.take_of_length_le (by rw [flip_len]; exact Nat.le_refl _)] at hD1
      have em : ((flip st d).map fun b => sgs b) = ((flip st d).map sg).map fun c => (⟨#[c]⟩ : Str) := by rw [List.map_map]; rfl
      rw [em] at hD1
      refine ⟨_, D, _, rfl, rfl, .inl (SqL.of hD1), ?_, ?_⟩
      · rw [sum_ones, List.length_map, List.length_map, flip_len]
        have z : ("" : Str).length = 0 := by decide +kernel
        rw [z]
        omega
      · rw [join_codes]
        exact k H' s1
end
end DL

set_option Elab.async false
set_option maxRecDepth 100000
namespace DL
open PySem L2 HT TL
/-! ### plain data: what == sees -/
/-- data of so many levels at most, whose texts are texts -/
def dok (k : Nat) (d : PyData) : Prop := d.canLay0 = true ∧ d.depth ≤ k
theorem dok_shaped {k : Nat} {d : PyData} (h : dok k d) (hk : k ≤ 64) : SeqAt.shaped d = true := by
  unfold SeqAt.shaped
  rw [h.1, decide_eq_true (Nat.le_trans h.2 hk)]
  rfl
theorem dok_all {k : Nat} : ∀ {ds : List PyData}, (∀ d ∈ ds, dok k d) → PyData.canLayAll0 ds = true ∧ PyData.depthAll ds ≤ k
  | [], _ => ⟨by simp [PyData.canLayAll0], by simp [PyData.depthAll]⟩
  | d :: ds, h => by
    obtain ⟨h1, h2⟩ := dok_all (ds := ds) fun e he => h e (List.mem_cons_of_mem _ he)
    obtain ⟨h3, h4⟩ := h d List.mem_cons_self
    refine ⟨by simp [PyData.canLayAll0, h1, h3], ?_⟩
    simp only [PyData.depthAll]
    omega
theorem dok_list {k : Nat} {ds : List PyData} (h : ∀ d ∈ ds, dok k d) : dok (k + 1) (.list ds) := by
  obtain ⟨h1, h2⟩ := dok_all h
  exact ⟨by simpa [PyData.canLay0] using h1, by simp only [PyData.depth]; omega⟩
theorem dok_tuple {k : Nat} {ds : List PyData} (h : ∀ d ∈ ds, dok k d) : dok (k + 1) (.tuple ds) := by
  obtain ⟨h1, h2⟩ := dok_all h
  exact ⟨by simpa [PyData.canLay0] using h1, by simp only [PyData.depth]; omega⟩
theorem dok_int (i : Int) : dok 1 (.int i) := ⟨by simp [PyData.canLay0], by simp [PyData.depth]⟩
theorem dpAll_ints {K : PySem.W.Frag} {H : Hp} : ∀ l : List Int, DpAll K H (l.map V.int) (l.map PyData.int)
  | [] => .nil
  | i :: l => .cons (.int i) (dpAll_ints l)
end DL
namespace DL
open PySem L2 HT TL
theorem dok_str {z : Str} (h : PyData.strOk z = true) : dok 1 (.str z) := ⟨by simpa [PyData.canLay0] using h, by simp [PyData.depth]⟩
theorem dok_ints (l : List Int) : ∀ d ∈ l.map PyData.int, dok 1 d := fun d hd => by
  obtain ⟨i, _, rfl⟩ := List.mem_map.mp hd
  exact dok_int i
theorem eqv_self {k : Nat} {d : PyData} (h : dok k d) : PyData.eqv d d = true := SeqAt.eqv_refl d h.1
end DL

set_option Elab.async false
set_option maxRecDepth 100000
namespace DL
open PySem L2 HT TL
/-! ### the checks -/
/-- isinstance of a cabinet -/
structure CabI (K : PySem.W.Frag) (mg : Str → Option Value) (C : Addr) : Prop where
  cl : Cls K C
  mgC : mg "Cabinet" = some (.ref C)
  ha : PySem.W.findIn K (.ref C) "__class__" = some (some (.builtin "object.__class__"))
  hn : PySem.W.specialIn K (.builtin "object.__class__") "__get__" = some (some (.builtin "getset_descriptor.__get__"))
  htk : PySem.W.takesIn K (.builtin "object.__class__") = some true
  hm : PySem.W.mroIn K C (.type "object") = some true
  kk : PySem.W.kitOne K (.ref C) (.ref C) = some true
structure spCkCab (C : Addr) (vs : List V) (H : Hp) (Q : VK) (_ : XK) : Prop where
  h : ∃ (c : Addr) (n : Int) (t : Addr), vs = [.ref c] ∧ CabAt C H c n t ∧ Q .non H
theorem CabOk.cab {C : Addr} {H : Hp} {c : Addr} {n : Int} {bs : List Bar} (B : CabOk C H c n bs) : ∃ t, CabAt C H c n t ∧ n ≤ 7 := by
  obtain ⟨t, ks, h1, h2, h3, h4, h5, h6, h7⟩ := B.h
  exact ⟨t, h1, h6⟩
section
variable {P : Program} {w : World} {K : PySem.W.Frag} {mg : Str → Option Value} {base : Heap}
theorem scCkCab : FnScope ["cabinet"] ["cabinet"] (defScope s_check_cabinet) := ⟨rfl, rfl, rfl, by decide +kernel, rfl, by decide +kernel, by decide +kernel⟩
theorem ok_ckCab {f C : Addr} {fd : FuncData} (F : Fun K "check_cabinet" "check_cabinet" s_check_cabinet f fd) (T : Bt mg) (I : CabI K mg C) : FnOk P w K mg base CX0 1 f fd ["cabinet"] (spCkCab C) := by
  refine F.ok scCkCab (fun vs H Q E h => ?_) (fun cdv A outer s H vs Q E hr h => ?_)
  · obtain ⟨c, n, t, rfl, _⟩ := h.h
    rfl
  · obtain ⟨c, n, t, rfl, ⟨dx, hc⟩, k⟩ := h.h
    refine ⟨_, pss_one (ps_if (pt_not (pt_val (pe_callB call_isi (by rfl) T.isinstance (by decide +kernel) (pa_cons (pv 0) (pa_cons (pe_glob (v := .ref C) rfl I.mgC rfl) pa_nil))))) (pss_one ps_never) pss_nil), ?_⟩
    exact ⟨_, rfl, _, _, _, _, true, rfl, .own C, .base (.ins hc I.cl I.ha I.hn I.htk I.hm), I.kk, _, rfl, iteF k⟩
end
end DL

set_option Elab.async false
set_option maxRecDepth 100000
namespace DL
open PySem PySem.Spec PyProof.Rows L2
/-! ### text * number -/
theorem op_mul_str {X : Cx} : OpR X (binaryOp .Mult) (fun x y H Q => ∃ (z : Str) (n : Int), x = .str z ∧ y = .int n ∧ MulOk z n ∧ Q (.str (Txt.mul z n)) H) := by
  intro pins s σ H x y v u Q I rx ry h
  obtain ⟨z, n, rfl, rfl, ok, q⟩ := h
  obtain ⟨t, rfl⟩ := rx
  obtain ⟨t', rfl⟩ := ry
  exact SB.mul ok fun t2 k => ⟨.str _, H, I.tok k, ⟨_, rfl⟩, q⟩
theorem mulOk_one {z : Str} {n : Int} (hz : z.length = 1) (h1 : 1 ≤ n) (h7 : n ≤ 7) : MulOk z n := by
  refine ⟨?_, fun _ _ => ?_, fun _ _ => ?_⟩
  · rw [decide_eq_false (by omega), decide_eq_false (by omega)]; rfl
  · rw [hz]
    have : n = 1 ∨ n = 2 ∨ n = 3 ∨ n = 4 ∨ n = 5 ∨ n = 6 ∨ n = 7 := by omega
    rcases this with rfl | rfl | rfl | rfl | rfl | rfl | rfl <;> decide
  · rw [hz]
    have : n = 1 ∨ n = 2 ∨ n = 3 ∨ n = 4 ∨ n = 5 ∨ n = 6 ∨ n = 7 := by omega
    rcases this with rfl | rfl | rfl | rfl | rfl | rfl | rfl <;> decide +kernel
/-! ### for a, b in zip(x, y), two texts -/
end DL

set_option Elab.async false
set_option maxRecDepth 100000
namespace DL
open PySem L2 HT TL
/-! ### patterns and rows -/
theorem pg_tupK {X : Cx} {K : PySem.W.Frag} {pos : Pos} {es : List Expr} {k : Nat} {t : TGs} {n : Nat} (hK : X.K = K) (hc : X.calm = true) (h : PGs X es t) (h1 : (assignEach es X.env).length = n := by rfl) (h2 : List.findIdx? (fun x => x.1) (assignEach es X.env) = none := by rfl) :
    PG X (.Tuple es k pos) (gTup K n t) := by subst hK; exact pg_tup hc h h1 h2
theorem SqT.same {K : PySem.W.Frag} {H H' : Hp} {a : Addr} {xs : List V} (s : Same H H') (h : SqT K H a xs) : SqT K H' a xs := by
  rcases h with (h | ⟨o, h⟩) | h
  · exact .inl (.inl (s _ _ h))
  · exact .inl (.inr ⟨o, s _ _ h⟩)
  · exact .inr h
def runB (bs : List Bar) (st : List Bool) : List Int → Option (List Bool)
  | [] => some st
  | d :: ds => if goesB bs st d = true then runB bs (flip st d) ds else none
theorem runB_cons (bs : List Bar) (st : List Bool) (d : Int) (ds : List Int) : runB bs st (d :: ds) = if goesB bs st d = true then runB bs (flip st d) ds else none := rfl
def shutS (n : Nat) : List Bool := List.replicate n false
def intOf : V → Int
  | .int i => i
  | _ => 0
structure spFirst (vs : List V) (H : Hp) (Q : VK) (_ : XK) : Prop where
  h : ∃ n : Nat, vs = [.int n] ∧ 1 ≤ n ∧ n ≤ 7 ∧ Q (.str (sstr (shutS n))) H
theorem mul_shut {n : Nat} (h1 : 1 ≤ n) (h7 : n ≤ 7) : Txt.mul "s" (n : Int) = sstr (shutS n) := by
  have : n = 1 ∨ n = 2 ∨ n = 3 ∨ n = 4 ∨ n = 5 ∨ n = 6 ∨ n = 7 := by omega
  rcases this with rfl | rfl | rfl | rfl | rfl | rfl | rfl <;> decide +kernel
section
variable {P : Program} {w : World} {K : PySem.W.Frag} {mg : Str → Option Value} {base : Heap}
theorem scFirst : FnScope ["drawers"] ["drawers"] (defScope s_first_standing) := ⟨rfl, rfl, rfl, by decide +kernel, rfl, by decide +kernel, by decide +kernel⟩
theorem ok_first {f aS : Addr} {fd : FuncData} (F : Fun K "first_standing" "first_standing" s_first_standing f fd) (T : SgT K w mg aS) : FnOk P w K mg base CX0 1 f fd ["drawers"] spFirst := by
  refine F.ok scFirst (fun vs H Q E h => ?_) (fun cdv A outer s H vs Q E hr h => ?_)
  · obtain ⟨n, rfl, _⟩ := h.h
    rfl
  · obtain ⟨n, rfl, h1, h7, k⟩ := h.h
    refine ⟨_, pss_one (ps_ret (pe_op op_mul_str (pe_ix ix_kdict (pe_glob (v := .ref aS) rfl T.g rfl) pe_str (fun _ _ => rfl)) (pv 0))), ?_⟩
    refine ⟨aS, _, _, rfl, rfl, T.s, _, rfl, "s", (n : Int), rfl, rfl, mulOk_one (by decide +kernel) (by omega) (by omega), ?_⟩
    rw [mul_shut h1 h7]
    exact k
end
end DL

set_option Elab.async false
set_option maxRecDepth 100000

set_option Elab.async false
set_option maxRecDepth 100000
namespace DL
open PySem L2 HT TL
/-! ### a drawn cabinet: its parts at p, itself at c; the row of draws at r -/
structure Lay (C r p c : Addr) (H : Hp) (n : Int) (bs : List Bar) : Prop where
  h : ∃ (t : Addr) (ks : List (Addr × Bar)) (zs : List V), H p = some (.lst (.int n :: .ref t :: zs)) ∧ CabAt C H c n t ∧ BarsAt H t ks ∧ ks.map (·.2) = bs ∧ OkBars n bs ∧ 1 ≤ n ∧ n ≤ 7 ∧ bs.length ≤ 100 ∧ p ≠ r
theorem Lay.dr {C r p c : Addr} {H : Hp} {n : Int} {bs : List Bar} (L : Lay C r p c H n bs) : DrOk H p n bs := by
  obtain ⟨t, ks, zs, h1, h2, h3, h4, h5, h6, h7, h8, _⟩ := L.h
  exact ⟨⟨t, ks, zs, h1, h3, h4, h5, h6, h7, h8⟩⟩
theorem Lay.cab {C r p c : Addr} {H : Hp} {n : Int} {bs : List Bar} (L : Lay C r p c H n bs) : CabOk C H c n bs := by
  obtain ⟨t, ks, zs, h1, h2, h3, h4, h5, h6, h7, h8, _⟩ := L.h
  exact ⟨⟨t, ks, h2, h3, h4, h5, h6, h7, h8⟩⟩
theorem Lay.but {C r sc p c : Addr} {H H' : Hp} {n : Int} {bs : List Bar} (L : Lay C r p c H n bs) (R : RowOk H r sc) (B : But r H H') : Lay C r p c H' n bs := by
  obtain ⟨t, ks, zs, h1, ⟨dx, h2⟩, h3, h4, h5, h6, h7, h8, h9⟩ := L.h
  obtain ⟨i, m, e, hR, _⟩ := R.h
  exact ⟨⟨t, ks, zs, B _ _ h9 h1, ⟨dx, B _ _ (ne_of h2 hR (by intro z; cases z)) h2⟩, ⟨B.tup hR h3.tu, fun k hk => B.tup hR (h3.el k hk)⟩, h4, h5, h6, h7, h8, h9⟩⟩
theorem Lay.same {C r p c : Addr} {H H' : Hp} {n : Int} {bs : List Bar} (L : Lay C r p c H n bs) (s : Same H H') : Lay C r p c H' n bs := by
  obtain ⟨t, ks, zs, h1, ⟨dx, h2⟩, h3, h4⟩ := L.h
  exact ⟨⟨t, ks, zs, s _ _ h1, ⟨dx, s _ _ h2⟩, h3.same s, h4⟩⟩
theorem Lay.n1 {C r p c : Addr} {H : Hp} {n : Int} {bs : List Bar} (L : Lay C r p c H n bs) : 1 ≤ n ∧ n ≤ 7 := by
  obtain ⟨t, ks, zs, h1, h2, h3, h4, h5, h6, h7, h8⟩ := L.h
  exact ⟨h6, h7⟩
/-- the first part, the number of drawers -/
theorem Lay.at0 {C r p c : Addr} {H : Hp} {n : Int} {bs : List Bar} (L : Lay C r p c H n bs) (K : PySem.W.Frag) : ∃ xs, SqL K H p xs ∧ atI xs 0 = some (.int n) := by
  obtain ⟨t, ks, zs, h1, _⟩ := L.h
  exact ⟨_, SqL.of h1, atI_nat (j := 0) rfl⟩
/-- as the parts were drawn, the cabinet made -/
theorem Lay.mk' {C r p c t sc : Addr} {H1 H2 H3 : Hp} {n : Int} {ks : List (Addr × Bar)} (R1 : RowOk H1 r sc) (hp0 : H1 p = none) (hp : H3 p = some (.lst [.int n, .ref t])) (hcab : CabAt C H3 c n t) (hB : BarsAt H2 t ks) (s : Same H2 H3) (O : OkBars n (ks.map (·.2))) (n1 : 1 ≤ n) (n7 : n ≤ 7) (h13 : ks.length ≤ 13) :
    Lay C r p c H3 n (ks.map (·.2)) := by
  obtain ⟨i1, m1, e1, q1, _⟩ := id R1.h
  exact ⟨⟨t, ks, [], hp, hcab, hB.same s, rfl, O, n1, n7, by rw [List.length_map]; omega, (ne_of_none q1 hp0).symm⟩⟩
theorem free_in {bs : List Bar} {st : List Bool} {d : Int} (h : d ∈ freeL bs st) : 0 ≤ d ∧ d < st.length := by
  have hm := (List.mem_filter.mp h).1
  unfold drs at hm
  obtain ⟨i, hi, rfl⟩ := List.mem_map.mp hm
  have := List.mem_range.mp hi
  omega
theorem free_len (bs : List Bar) (st : List Bool) : (freeL bs st).length ≤ st.length := by
  have := List.length_filter_le (fun d => goesB bs st d) (drs st.length)
  rw [drs_len] at this
  exact this

end DL

set_option Elab.async false
set_option maxRecDepth 100000
set_option maxHeartbeats 1000000

set_option Elab.async false
set_option maxRecDepth 100000
set_option maxHeartbeats 1000000

set_option Elab.async false
set_option maxRecDepth 100000
set_option maxHeartbeats 1000000
namespace DL
open PySem L2
/-! ### the checks with what they raise -/
/-- what is_bar says False of -/
def NoBar (K : PySem.W.Frag) (H : Hp) (n : Int) (v : V) : Prop := (∃ t : Value, TyX K H v t ∧ PySem.W.kitOne K t (.type "tuple") = some false) ∨
  (∃ (a : Addr) (xs : List V), v = .ref a ∧ SqT K H a xs ∧ xs.length ≠ 4) ∨
  ∃ (a : Addr) (x0 x1 x2 x3 : V), v = .ref a ∧ SqT K H a [x0, x1, x2, x3] ∧ scV x0 = true ∧ scV x1 = true ∧ scV x2 = true ∧ scV x3 = true ∧ barB n x0 x1 x2 x3 = false
theorem NoBar.sp {K : PySem.W.Frag} {H : Hp} {n : Int} {v : V} {Q : VK} {E : XK} (h : NoBar K H n v) (k : Q (.bl false) H) : spIsBar K [.int n, v] H Q E := by
  rcases h with ⟨t, h1, h2⟩ | ⟨a, xs, rfl, h1, h2⟩ | ⟨a, x0, x1, x2, x3, rfl, h1, c0, c1, c2, c3, h2⟩
  · exact ⟨⟨n, .inl ⟨v, t, rfl, h1, h2, k⟩⟩⟩
  · exact ⟨⟨n, .inr (.inl ⟨a, xs, rfl, h1, h2, k⟩)⟩⟩
  · exact ⟨⟨n, .inr (.inr ⟨a, x0, x1, x2, x3, rfl, h1, c0, c1, c2, c3, by rw [h2]; exact k⟩)⟩⟩
end DL

set_option Elab.async false
set_option maxRecDepth 100000
namespace DL
open PySem L2 HT TL RZ
/-! ### sets of drawers -/
def ascB (ns : List Int) : Bool := (ns.zip (ns.drop 1)).all fun p => decide (p.1 < p.2)
def setB (n : Int) (xs : List V) : Bool := xs.all (isD n) && ascB (xs.map intOf)
/-- a set: its drawers stand at a -/
structure SetAt (K : PySem.W.Frag) (H : Hp) (n : Int) (a : Addr) (ns : List Int) : Prop where
  at' : SqT K H a (ns.map V.int)
  low : ∀ d ∈ ns, 0 ≤ d ∧ d < n
  asc : ns.Pairwise (· < ·)
theorem SetAt.same {K : PySem.W.Frag} {H H' : Hp} {n : Int} {a : Addr} {ns : List Int} (S : SetAt K H n a ns) (s : Same H H') : SetAt K H' n a ns := ⟨SqT.same s S.at', S.low, S.asc⟩
end DL

set_option Elab.async false
set_option maxRecDepth 100000
namespace DL
open PySem PySem.Spec PyProof.Rows L2
/-! ### a walk over a list or a tuple, whichever it is -/
def iSeq (K : PySem.W.Frag) (tl : TE) : TI := fun σ H R => tl σ H fun x H1 => ∃ a : Addr, x = .ref a ∧ (((∃ xs : List V, SqL K H1 a xs) ∧ R (Itl K a) H1) ∨ ((∃ xs : List V, SqT K H1 a xs) ∧ R (Itt K a) H1))
theorem pi_seq {X : Cx} {K : PySem.W.Frag} {tg : Expr} {l : Expr} {tl : TE} (hK : X.K = K) (hl : PE X l tl) : PI X tg l (iSeq K tl) := by
  subst hK
  refine ⟨fun pins s0 σ H R I0 rd => ?_⟩
  refine thn (hl.run pins s0 σ H _ I0 rd) fun v s1 ⟨x, H1, I1, rx, a, ea, q⟩ => ?_
  subst ea
  cases rx
  have new : ∀ b, b ∈ [s1.heap.objs.size] → FpOk X pins H1 b := fun b hb => by
    rw [List.mem_singleton.mp hb]
    exact I1.fpOk (Nat.le_refl _) (I1.hok.fresh (Nat.le_refl _))
  rcases q with ⟨⟨xs, hq⟩, q⟩ | ⟨⟨xs, hq⟩, q⟩
  · obtain ⟨_, _, pl, _⟩ := I1.list hq
    exact wpAny_pyIter_list pl.isList ⟨s1.heap.objs.size, [s1.heap.objs.size], _, _, H1, rfl,
      I1.kept (t' := s1.toks) (fun b o e => Heap.get?_push_of_some _ e), turn_list a _, ⟨_, Heap.get?_push_size _ rfl, rfl, rfl⟩, new, q⟩
  · obtain ⟨its, _, pl, _⟩ := I1.tuple hq
    exact wpAny_pyIter_tuple (show s1.heap.IsTuple a its.toArray from pl) ⟨s1.heap.objs.size, [s1.heap.objs.size], _, _, H1, rfl,
      I1.kept (t' := s1.toks) (fun b o e => Heap.get?_push_of_some _ e), turn_tuple a _, ⟨_, Heap.get?_push_size _ rfl, rfl, rfl⟩, new, q⟩
/-- at a: a list or a tuple -/
def SqA (K : PySem.W.Frag) (H : Hp) (a : Addr) (xs : List V) : Prop := SqL K H a xs ∨ SqT K H a xs
/-! ### two for in one comprehension -/
def lcIn (g1 : TG) (tt1 : TT) (te : TE) (vs1 : List Nat) (σ2 : L2.St) (D : Addr) (Nx : Hp → Prop) (J1 : It) (H4 : Hp) : Prop := ∃ W1 : Nat → Nat → Hp → Prop, (∃ m, W1 0 m H4) ∧ ∀ j k H, W1 j k H →
  (J1.stop j H ∧ Nx H) ∨ (J1.go j H ∧ ∃ Nx1 : Hp → Prop, (∀ H', Nx1 H' → ∃ k', k' < k ∧ W1 (j + 1) k' H') ∧ ∀ x H', J1.yld j H x H' → g1 x (wipe σ2 vs1) H' fun σ3 H5 => wipe σ3 vs1 = wipe σ2 vs1 ∧ tt1 σ3 H5 fun b H6 =>
    if b = true then te σ3 H6 fun y H7 => ∃ acc, H7 D = some (.lst acc) ∧ acc.length < sizeLine ∧ Nx1 (upd H7 D (.lst (acc ++ [y]))) else Nx1 H6)
theorem lc_in {J1 : It} {n1 : Nat} {G1 : Hp → Prop} {Y1 : Nat → Hp → V → Hp → Prop} (w1 : Walk J1 n1 G1 Y1) {g1 : TG} {tt1 : TT} {te : TE} {vs1 : List Nat} {σ2 : L2.St} {D : Addr} {Nx : Hp → Prop} {H4 : Hp} (Pw : Nat → Hp → Prop) (h0 : Pw 0 H4) (hG : ∀ j H, j ≤ n1 → Pw j H → G1 H)
    (hs : ∀ j x H H', j < n1 → Pw j H → Y1 j H x H' → g1 x (wipe σ2 vs1) H' fun σ3 H5 => wipe σ3 vs1 = wipe σ2 vs1 ∧ tt1 σ3 H5 fun b H6 =>
      if b = true then te σ3 H6 fun y H7 => ∃ acc, H7 D = some (.lst acc) ∧ acc.length < sizeLine ∧ Pw (j + 1) (upd H7 D (.lst (acc ++ [y]))) else Pw (j + 1) H6)
    (hd : ∀ H, Pw n1 H → Nx H) : lcIn g1 tt1 te vs1 σ2 D Nx J1 H4 := by
  refine ⟨fun j k H => k = n1 - j ∧ j ≤ n1 ∧ Pw j H, ⟨n1, rfl, Nat.zero_le _, h0⟩, fun j k H ⟨ek, hj, p⟩ => ?_⟩
  have q := hG j H hj p
  rcases Nat.lt_or_ge j n1 with hlt | hge
  · exact .inr ⟨w1.goes j H hlt q, Pw (j + 1), fun H' p' => ⟨n1 - (j + 1), by omega, rfl, hlt, p'⟩, fun x H' y => hs j x H H' hlt p (w1.yields j H x H' hlt q y)⟩
  · obtain rfl : j = n1 := by omega
    exact .inl ⟨w1.stops H q, hd H p⟩
theorem lc2_by {J : It} {n : Nat} {G : Hp → Prop} {Y : Nat → Hp → V → Hp → Prop} (wk : Walk J n G Y) {g : TG} {tt : TT} {wi1 : TI} {g1 : TG} {tt1 : TT} {te : TE} {vs vs1 : List Nat} {σ : L2.St} {H1 : Hp} {D : Addr} {Qd : Hp → Prop} (Pv : Nat → Hp → Prop) (h0 : Pv 0 (upd H1 D (.lst []))) (hG : ∀ i H, i ≤ n → Pv i H → G H)
    (hs : ∀ i x H H', i < n → Pv i H → Y i H x H' → g x (wipe σ vs) H' fun σ2 H2 => wipe σ2 vs = wipe σ vs ∧ tt σ2 H2 fun b H3 => if b = true then wi1 σ2 H3 (fun J1 H4 => lcIn g1 tt1 te vs1 σ2 D (Pv (i + 1)) J1 H4) else Pv (i + 1) H3)
    (hd : ∀ H, Pv n H → Qd H) :
    ∃ W : Nat → Nat → Hp → Prop, (∃ m, W 0 m (upd H1 D (.lst []))) ∧ ∀ i m H, W i m H →
      (J.stop i H ∧ Qd H) ∨ (J.go i H ∧ ∃ Nx : Hp → Prop, (∀ H', Nx H' → ∃ m', m' < m ∧ W (i + 1) m' H') ∧ ∀ x H', J.yld i H x H' → g x (wipe σ vs) H' fun σ2 H2 => wipe σ2 vs = wipe σ vs ∧ tt σ2 H2 fun b H3 =>
        if b = true then wi1 σ2 H3 (fun J1 H4 => lcIn g1 tt1 te vs1 σ2 D Nx J1 H4) else Nx H3) := by
  refine ⟨fun i m H => m = n - i ∧ i ≤ n ∧ Pv i H, ⟨n, rfl, Nat.zero_le _, h0⟩, fun i m H ⟨em, hi, p⟩ => ?_⟩
  have q := hG i H hi p
  rcases Nat.lt_or_ge i n with hlt | hge
  · exact .inr ⟨wk.goes i H hlt q, Pv (i + 1), fun H' p' => ⟨n - (i + 1), by omega, rfl, hlt, p'⟩, fun x H' y => hs i x H H' hlt p (wk.yields i H x H' hlt q y)⟩
  · obtain rfl : i = n := by omega
    exact .inl ⟨wk.stops H q, hd H p⟩
end DL

set_option Elab.async false
set_option maxRecDepth 100000
namespace DL
open PySem L2 HT TL
/-! ### rows in their order: by their number of pulls, then by their pulls; as numbers -/
def rcode (r : List Int) : Int := r.foldl (fun a d => a * 8 + (d + 1)) 0
theorem rcode_snoc (r : List Int) (d : Int) : rcode (r ++ [d]) = rcode r * 8 + (d + 1) := by
  unfold rcode
  rw [List.foldl_append]
  rfl
theorem rcode_nil : rcode [] = 0 := rfl
def Low7 (r : List Int) : Prop := ∀ d ∈ r, 0 ≤ d ∧ d ≤ 6
theorem snoc_ind {α : Type} {p : List α → Prop} (h0 : p []) (hs : ∀ l a, p l → p (l ++ [a])) (l : List α) : p l := by
  have : ∀ m : List α, p m.reverse := fun m => by
    induction m with
    | nil => exact h0
    | cons a m ih =>
      rw [List.reverse_cons]
      exact hs _ _ ih
  have h := this l.reverse
  rw [List.reverse_reverse] at h
  exact h
theorem Low7.init {r : List Int} {d : Int} (h : Low7 (r ++ [d])) : Low7 r ∧ 0 ≤ d ∧ d ≤ 6 := ⟨fun x hx => h x (List.mem_append_left _ hx), h d (List.mem_append_right _ (List.mem_singleton.mpr rfl))⟩
theorem rcode_nn : ∀ {r : List Int}, Low7 r → 0 ≤ rcode r := by
  intro r
  refine snoc_ind (p := fun r => Low7 r → 0 ≤ rcode r) (fun _ => Int.le_refl _) (fun l a ih h => ?_) r
  obtain ⟨h1, h2, h3⟩ := h.init
  have := ih h1
  rw [rcode_snoc]
  omega
theorem rcode_inj' : ∀ a b : List Int, Low7 a → Low7 b → rcode a = rcode b → a = b := by
  intro a
  refine snoc_ind (p := fun a => ∀ b, Low7 a → Low7 b → rcode a = rcode b → a = b) (fun b _ hb e => ?_) (fun l x ih b ha hb e => ?_) a
  · revert hb e
    refine snoc_ind (p := fun b => Low7 b → rcode [] = rcode b → [] = b) (fun _ _ => rfl) (fun l y _ hb e => ?_) b
    obtain ⟨h1, h2, h3⟩ := hb.init
    have := rcode_nn h1
    rw [rcode_snoc, rcode_nil] at e
    omega
  · obtain ⟨h1, h2, h3⟩ := ha.init
    have p1 := rcode_nn h1
    revert hb e
    refine snoc_ind (p := fun b => Low7 b → rcode (l ++ [x]) = rcode b → l ++ [x] = b) (fun _ e => ?_) (fun m y _ hb e => ?_) b
    · rw [rcode_snoc, rcode_nil] at e
      omega
    · obtain ⟨g1, g2, g3⟩ := hb.init
      have p2 := rcode_nn g1
      rw [rcode_snoc, rcode_snoc] at e
      rw [ih m h1 g1 (by omega), show x = y by omega]
theorem rcode_inj {a b : List Int} (ha : Low7 a) (hb : Low7 b) (h : rcode a = rcode b) : a = b := rcode_inj' a b ha hb h
/-- a row is before another -/
def Bef (a b : List Int) : Prop := rcode a < rcode b ∧ a.length ≤ b.length
/-- rows in order, each behind the first one but one pull longer than one of those ahead of the i-th -/
structure Asc (rs : List (List Int)) (i : Nat) : Prop where
  pw : rs.Pairwise Bef
  low : ∀ x ∈ rs, Low7 x
  par : ∀ x ∈ rs, x = [] ∨ ∃ (j : Nat) (q : List Int) (d : Int), j < i ∧ rs[j]? = some q ∧ x = q ++ [d]
structure AscD (rs : List (List Int)) (i : Nat) (p : List Int) (D : Int) : Prop where
  pw : rs.Pairwise Bef
  low : ∀ x ∈ rs, Low7 x
  at' : rs[i]? = some p
  par : ∀ x ∈ rs, x = [] ∨ (∃ (j : Nat) (q : List Int) (d : Int), j < i ∧ rs[j]? = some q ∧ x = q ++ [d]) ∨ ∃ d : Int, d < D ∧ x = p ++ [d]
theorem Asc.during {rs : List (List Int)} {i : Nat} {p : List Int} (A : Asc rs i) (h : rs[i]? = some p) : AscD rs i p 0 := by
  refine ⟨A.pw, A.low, h, fun x hx => ?_⟩
  rcases A.par x hx with q | q
  · exact .inl q
  · exact .inr (.inl q)
theorem AscD.done {rs : List (List Int)} {i : Nat} {p : List Int} {D : Int} (A : AscD rs i p D) : Asc rs (i + 1) := by
  refine ⟨A.pw, A.low, fun x hx => ?_⟩
  rcases A.par x hx with q | ⟨j, q, d, h1, h2, h3⟩ | ⟨d, h1, h2⟩
  · exact .inl q
  · exact .inr ⟨j, q, d, by omega, h2, h3⟩
  · exact .inr ⟨i, p, d, by omega, A.at', h2⟩
theorem AscD.up {rs : List (List Int)} {i : Nat} {p : List Int} {D D' : Int} (A : AscD rs i p D) (h : D ≤ D') : AscD rs i p D' := by
  refine ⟨A.pw, A.low, A.at', fun x hx => ?_⟩
  rcases A.par x hx with q | q | ⟨d, h1, h2⟩
  · exact .inl q
  · exact .inr (.inl q)
  · exact .inr (.inr ⟨d, by omega, h2⟩)
theorem AscD.below {rs : List (List Int)} {i : Nat} {p : List Int} {D d : Int} (A : AscD rs i p D) (hD : D ≤ d) (h0 : 0 ≤ d) : ∀ x ∈ rs, Bef x (p ++ [d]) := by
  intro x hx
  have hp : Low7 p := A.low p (List.mem_of_getElem? A.at')
  have pn := rcode_nn hp
  have lx := A.low x hx
  rcases A.par x hx with rfl | ⟨j, q, e, h1, h2, rfl⟩ | ⟨e, h1, rfl⟩
  · refine ⟨?_, by simp⟩
    rw [rcode_snoc, rcode_nil]
    omega
  · obtain ⟨g1, g2, g3⟩ := lx.init
    obtain ⟨l1, e1⟩ := List.getElem?_eq_some_iff.mp h2
    obtain ⟨l2, e2⟩ := List.getElem?_eq_some_iff.mp A.at'
    have := List.pairwise_iff_getElem.mp A.pw j i l1 l2 h1
    rw [e1, e2] at this
    obtain ⟨b1, b2⟩ := this
    refine ⟨?_, by rw [List.length_append, List.length_append]; exact Nat.add_le_add_right b2 _⟩
    rw [rcode_snoc, rcode_snoc]
    omega
  · refine ⟨?_, by rw [List.length_append, List.length_append]; exact Nat.le_refl _⟩
    rw [rcode_snoc, rcode_snoc]
    omega
theorem AscD.add {rs : List (List Int)} {i : Nat} {p : List Int} {D d : Int} (A : AscD rs i p D) (hD : D ≤ d) (h0 : 0 ≤ d) (h6 : d ≤ 6) : AscD (rs ++ [p ++ [d]]) i p (d + 1) := by
  have hp : Low7 p := A.low p (List.mem_of_getElem? A.at')
  have keep : ∀ (j : Nat) (q : List Int), rs[j]? = some q → (rs ++ [p ++ [d]])[j]? = some q := fun j q h => by
    rw [List.getElem?_append_left (List.getElem?_eq_some_iff.mp h).1]
    exact h
  refine ⟨?_, fun x hx => ?_, keep i p A.at', fun x hx => ?_⟩
  · rw [List.pairwise_append]
    refine ⟨A.pw, List.pairwise_singleton _ _, fun x hx y hy => ?_⟩
    rw [List.mem_singleton.mp hy]
    exact A.below hD h0 x hx
  · rcases List.mem_append.mp hx with hx | hx
    · exact A.low x hx
    · rw [List.mem_singleton.mp hx]
      intro e he
      rcases List.mem_append.mp he with he | he
      · exact hp e he
      · rw [List.mem_singleton.mp he]; exact ⟨h0, h6⟩
  · rcases List.mem_append.mp hx with hx | hx
    · rcases A.par x hx with q | ⟨j, q, e, h1, h2, h3⟩ | ⟨e, h1, h2⟩
      · exact .inl q
      · exact .inr (.inl ⟨j, q, e, h1, keep j q h2, h3⟩)
      · exact .inr (.inr ⟨e, by omega, h2⟩)
    · exact .inr (.inr ⟨d, by omega, List.mem_singleton.mp hx⟩)
/-! ### the pulls that go, one after another -/
theorem drs_pw (n : Nat) : (drs n).Pairwise (· < ·) := by
  unfold drs
  rw [List.pairwise_map]
  exact List.pairwise_lt_range.imp fun h => by omega
theorem free_pw (bs : List Bar) (st : List Bool) : (freeL bs st).Pairwise (· < ·) := (drs_pw st.length).filter _
theorem free_mem {bs : List Bar} {st : List Bool} {d : Int} : d ∈ freeL bs st ↔ (0 ≤ d ∧ d < st.length) ∧ goesB bs st d = true := by
  refine ⟨fun h => ⟨free_in h, (List.mem_filter.mp h).2⟩, fun h => ?_⟩
  refine List.mem_filter.mpr ⟨?_, h.2⟩
  unfold drs
  exact List.mem_map.mpr ⟨d.toNat, List.mem_range.mpr (by omega), by omega⟩
theorem pw_drop {l : List Int} (h : l.Pairwise (· < ·)) {t : Nat} {d : Int} (hd : l[t]? = some d) : (∀ x ∈ l.drop (t + 1), d + 1 ≤ x) ∧ l.drop t = d :: l.drop (t + 1) := by
  obtain ⟨h1, h2⟩ := List.getElem?_eq_some_iff.mp hd
  have e : l.drop t = d :: l.drop (t + 1) := by rw [List.drop_eq_getElem_cons h1, h2]
  refine ⟨fun x hx => ?_, e⟩
  have hp : (l.drop t).Pairwise (· < ·) := List.Pairwise.sublist (List.drop_sublist t l) h
  rw [e, List.pairwise_cons] at hp
  have := hp.1 x hx
  omega
theorem mem_take_succ {α : Type} {l : List α} {t : Nat} {d x : α} (hd : l[t]? = some d) (h : x ∈ l.take (t + 1)) : x ∈ l.take t ∨ x = d := by
  obtain ⟨h1, h2⟩ := List.getElem?_eq_some_iff.mp hd
  rw [List.take_succ_eq_append_getElem h1, h2] at h
  rcases List.mem_append.mp h with h | h
  · exact .inl h
  · exact .inr (List.mem_singleton.mp h)
/-! ### the queue: an entry is a standing and its row -/
abbrev Ent := List Bool × List Int
def Led (bs : List Bar) (s0 : List Bool) (e : Ent) : Prop := runB bs s0 e.2 = some e.1 ∧ (Low7 e.2 ∧ ∀ d ∈ e.2, 0 ≤ d ∧ d < s0.length) ∧ e.1.length = s0.length
theorem runB_snoc {bs : List Bar} : ∀ {r : List Int} {st : List Bool} {d : Int}, runB bs st (r ++ [d]) = (runB bs st r).bind fun s => if goesB bs s d = true then some (flip s d) else none
  | [], st, d => by
    show runB bs st [d] = _
    rw [runB_cons]
    rfl
  | x :: r, st, d => by
    show runB bs st (x :: (r ++ [d])) = _
    rw [runB_cons, runB_cons]
    by_cases q : goesB bs st x = true
    · rw [if_pos q, if_pos q]
      exact runB_snoc
    · rw [if_neg q, if_neg q]
      rfl
theorem Led.step {bs : List Bar} {s0 : List Bool} {p : Ent} {d : Int} (L : Led bs s0 p) (hd : d ∈ freeL bs p.1) (h7 : s0.length ≤ 7) : Led bs s0 (flip p.1 d, p.2 ++ [d]) := by
  obtain ⟨⟨d0, d1⟩, hg⟩ := free_mem.mp hd
  refine ⟨?_, ⟨fun x hx => ?_, fun x hx => ?_⟩, by rw [flip_len]; exact L.2.2⟩
  · show runB bs s0 (p.2 ++ [d]) = _
    rw [runB_snoc, L.1, Option.bind_some, if_pos hg]
  · rcases List.mem_append.mp hx with hx | hx
    · exact L.2.1.1 x hx
    · rw [List.mem_singleton.mp hx]
      have := L.2.2
      omega
  · rcases List.mem_append.mp hx with hx | hx
    · exact L.2.1.2 x hx
    · rw [List.mem_singleton.mp hx]
      have := L.2.2
      omega
structure BI (bs : List Bar) (s0 : List Bool) (i : Nat) (es : List Ent) : Prop where
  nd : (es.map (·.1)).Nodup
  asc : Asc (es.map (·.2)) i
  led : ∀ e ∈ es, Led bs s0 e
  ex : ∀ (j : Nat) (p : Ent), j < i → es[j]? = some p → ∀ d ∈ freeL bs p.1, ∃ e ∈ es, e.1 = flip p.1 d ∧ rcode e.2 ≤ rcode (p.2 ++ [d]) ∧ e.2.length ≤ p.2.length + 1
  root : (s0, []) ∈ es
structure BD (bs : List Bar) (s0 : List Bool) (i : Nat) (p : Ent) (t : Nat) (D : Int) (es : List Ent) : Prop where
  nd : (es.map (·.1)).Nodup
  asc : AscD (es.map (·.2)) i p.2 D
  led : ∀ e ∈ es, Led bs s0 e
  at' : es[i]? = some p
  ex : ∀ (j : Nat) (p : Ent), j < i → es[j]? = some p → ∀ d ∈ freeL bs p.1, ∃ e ∈ es, e.1 = flip p.1 d ∧ rcode e.2 ≤ rcode (p.2 ++ [d]) ∧ e.2.length ≤ p.2.length + 1
  exd : ∀ d ∈ (freeL bs p.1).take t, ∃ e ∈ es, e.1 = flip p.1 d ∧ rcode e.2 ≤ rcode (p.2 ++ [d]) ∧ e.2.length ≤ p.2.length + 1
  dle : ∀ d ∈ (freeL bs p.1).drop t, D ≤ d
  root : (s0, []) ∈ es
theorem BI.begin {bs : List Bar} {s0 : List Bool} : BI bs s0 0 [(s0, [])] := by
  refine ⟨by simp, ⟨List.pairwise_singleton _ _, fun x hx => ?_, fun x hx => .inl (List.mem_singleton.mp hx)⟩, fun e he => ?_, fun j p hj => by omega, List.mem_singleton.mpr rfl⟩
  · rw [List.mem_singleton.mp hx]
    intro d hd
    cases hd
  · rw [List.mem_singleton.mp he]
    exact ⟨rfl, ⟨fun d hd => (by cases hd), fun d hd => (by cases hd)⟩, rfl⟩
theorem BI.during {bs : List Bar} {s0 : List Bool} {i : Nat} {es : List Ent} {p : Ent} (B : BI bs s0 i es) (h : es[i]? = some p) : BD bs s0 i p 0 0 es :=
  ⟨B.nd, B.asc.during (by rw [List.getElem?_map, h]; rfl), B.led, h, B.ex, fun d hd => (by cases hd), fun d hd => (free_in (List.mem_of_mem_drop hd)).1, B.root⟩
theorem BD.done {bs : List Bar} {s0 : List Bool} {i : Nat} {p : Ent} {D : Int} {es : List Ent} (B : BD bs s0 i p (freeL bs p.1).length D es) : BI bs s0 (i + 1) es := by
  refine ⟨B.nd, B.asc.done, B.led, fun j q hj hq => ?_, B.root⟩
  by_cases e : j = i
  · subst e
    rw [B.at'] at hq
    cases hq
    have := B.exd
    rw [List.take_length] at this
    exact this
  · exact B.ex j q (by omega) hq
theorem BD.free {bs : List Bar} {s0 : List Bool} {i : Nat} {p : Ent} {t : Nat} {D : Int} {es : List Ent} (B : BD bs s0 i p t D es) {d : Int} (hd : (freeL bs p.1)[t]? = some d) (h7 : s0.length ≤ 7) :
    d ∈ freeL bs p.1 ∧ D ≤ d ∧ 0 ≤ d ∧ d ≤ 6 := by
  have hm := List.mem_of_getElem? hd
  obtain ⟨d0, d1⟩ := free_in hm
  have := (B.led p (List.mem_of_getElem? B.at')).2.2
  obtain ⟨_, e⟩ := pw_drop (free_pw bs p.1) hd
  exact ⟨hm, B.dle d (by rw [e]; exact List.mem_cons_self), d0, by omega⟩
theorem BD.old {bs : List Bar} {s0 : List Bool} {i : Nat} {p : Ent} {t : Nat} {D : Int} {es : List Ent} (B : BD bs s0 i p t D es) {d : Int} (hd : (freeL bs p.1)[t]? = some d) (h7 : s0.length ≤ 7) (h : flip p.1 d ∈ es.map (·.1)) : BD bs s0 i p (t + 1) (d + 1) es := by
  obtain ⟨hm, hD, d0, d6⟩ := B.free hd h7
  refine ⟨B.nd, B.asc.up (by omega), B.led, B.at', B.ex, fun x hx => ?_, (pw_drop (free_pw bs p.1) hd).1, B.root⟩
  rcases mem_take_succ hd hx with hx | rfl
  · exact B.exd x hx
  · obtain ⟨e, he, h1⟩ := List.mem_map.mp h
    obtain ⟨b1, b2⟩ := B.asc.below hD d0 e.2 (List.mem_map.mpr ⟨e, he, rfl⟩)
    rw [List.length_append] at b2
    exact ⟨e, he, h1, Int.le_of_lt b1, b2⟩
theorem BD.new {bs : List Bar} {s0 : List Bool} {i : Nat} {p : Ent} {t : Nat} {D : Int} {es : List Ent} (B : BD bs s0 i p t D es) {d : Int} (hd : (freeL bs p.1)[t]? = some d) (h7 : s0.length ≤ 7) (h : ¬ flip p.1 d ∈ es.map (·.1)) : BD bs s0 i p (t + 1) (d + 1) (es ++ [(flip p.1 d, p.2 ++ [d])]) := by
  obtain ⟨hm, hD, d0, d6⟩ := B.free hd h7
  have mono : ∀ {e : Ent}, e ∈ es → e ∈ es ++ [(flip p.1 d, p.2 ++ [d])] := fun he => List.mem_append_left _ he
  refine ⟨?_, ?_, fun e he => ?_, ?_, fun j q hj hq x hx => ?_, fun x hx => ?_, (pw_drop (free_pw bs p.1) hd).1, mono B.root⟩
  · rw [List.map_append, List.nodup_append]
    refine ⟨B.nd, by simp, fun x hx y hy => ?_⟩
    rw [List.mem_singleton.mp hy]
    intro z
    have z' : x = flip p.1 d := z
    rw [z'] at hx
    exact h hx
  · rw [List.map_append]
    exact B.asc.add hD d0 d6
  · rcases List.mem_append.mp he with he | he
    · exact B.led e he
    · rw [List.mem_singleton.mp he]
      exact (B.led p (List.mem_of_getElem? B.at')).step hm h7
  · rw [List.getElem?_append_left (List.getElem?_eq_some_iff.mp B.at').1]
    exact B.at'
  · have hq' : es[j]? = some q := by
      have := (List.getElem?_eq_some_iff.mp B.at').1
      rw [List.getElem?_append_left (by omega)] at hq
      exact hq
    obtain ⟨e, he, h1⟩ := B.ex j q hj hq' x hx
    exact ⟨e, mono he, h1⟩
  · rcases mem_take_succ hd hx with hx | rfl
    · obtain ⟨e, he, h1⟩ := B.exd x hx
      exact ⟨e, mono he, h1⟩
    · exact ⟨_, List.mem_append_right _ (List.mem_singleton.mpr rfl), rfl, Int.le_refl _, by rw [List.length_append]; exact Nat.le_refl _⟩
/-- every row that goes ends where an entry stands whose row is not behind it -/
theorem BI.opt {bs : List Bar} {s0 : List Bool} {es : List Ent} (B : BI bs s0 es.length es) (h7 : s0.length ≤ 7) : ∀ (r : List Int), (∀ d ∈ r, 0 ≤ d ∧ d < s0.length) → ∀ st, runB bs s0 r = some st → ∃ e ∈ es, e.1 = st ∧ rcode e.2 ≤ rcode r ∧ e.2.length ≤ r.length := by
  intro r
  refine snoc_ind (p := fun (r : List Int) => (∀ d ∈ r, 0 ≤ d ∧ d < s0.length) → ∀ st, runB bs s0 r = some st → ∃ e ∈ es, e.1 = st ∧ rcode e.2 ≤ rcode r ∧ e.2.length ≤ r.length) (fun _ st h => ?_) (fun l d ih hl st h => ?_) r
  · cases h
    exact ⟨_, B.root, rfl, Int.le_refl _, Nat.le_refl _⟩
  · rw [runB_snoc] at h
    cases hr : runB bs s0 l with
    | none => rw [hr] at h; cases h
    | some s1 =>
      rw [hr, Option.bind_some] at h
      by_cases hg : goesB bs s1 d = true
      · rw [if_pos hg] at h
        cases h
        obtain ⟨e, he, h1, h2, h3⟩ := ih (fun x hx => hl x (List.mem_append_left _ hx)) s1 hr
        obtain ⟨j, hj⟩ := List.getElem?_of_mem he
        have el := (B.led e he).2.2
        have hdm : d ∈ freeL bs e.1 := free_mem.mpr ⟨by have := hl d (List.mem_append_right _ (List.mem_singleton.mpr rfl)); omega, by rw [h1]; exact hg⟩
        obtain ⟨f, hf, g1, g2, g3⟩ := B.ex j e (List.getElem?_eq_some_iff.mp hj).1 hj d hdm
        refine ⟨f, hf, by rw [g1, h1], ?_, ?_⟩
        · rw [rcode_snoc] at g2 ⊢
          omega
        · rw [List.length_append]
          show f.2.length ≤ l.length + 1
          omega
      · rw [if_neg hg] at h
        cases h
/-! ### there are not many standings -/
theorem few : ∀ (n : Nat) (l : List (List Bool)), l.Nodup → (∀ x ∈ l, x.length = n) → l.length ≤ 2 ^ n
  | 0, l, hn, h => by
    cases l with
    | nil => exact Nat.zero_le _
    | cons a l =>
      cases l with
      | nil => exact Nat.le_refl _
      | cons b l =>
        have h1 := List.length_eq_zero_iff.mp (h a (by simp))
        have h2 := List.length_eq_zero_iff.mp (h b (by simp))
        rw [h1, h2] at hn
        simp at hn
  | n + 1, l, hn, h => by
    have part : ∀ b : Bool, (l.filter fun x => x.head? == some b).length ≤ 2 ^ n := fun b => by
      have e : ((l.filter fun x => x.head? == some b).map List.tail).length = (l.filter fun x => x.head? == some b).length := List.length_map ..
      rw [← e]
      have hd : ∀ x ∈ l.filter fun x => x.head? == some b, x = b :: x.tail := fun x hx => by
        have := (List.mem_filter.mp hx).2
        cases x with
        | nil => cases this
        | cons c x =>
          have : some c = some b := eq_of_beq this
          cases this
          rfl
      refine few n _ ?_ fun x hx => ?_
      · have h1 : (l.filter fun x => x.head? == some b).Nodup := hn.filter _
        unfold List.Nodup at h1 ⊢
        rw [List.pairwise_map]
        refine List.Pairwise.imp_of_mem (fun {x y} hx hy q z => q ?_) h1
        rw [hd x hx, hd y hy, z]
      · obtain ⟨y, hy, rfl⟩ := List.mem_map.mp hx
        rw [List.length_tail, h y (List.mem_filter.mp hy).1]
        rfl
    have split : l.length = (l.filter fun x => x.head? == some true).length + (l.filter fun x => x.head? == some false).length := by
      clear part hn
      induction l with
      | nil => rfl
      | cons a l ih =>
        have := ih fun x hx => h x (List.mem_cons_of_mem _ hx)
        have ha := h a List.mem_cons_self
        cases a with
        | nil => cases ha
        | cons c a =>
          cases c
          · rw [List.filter_cons_of_neg (by simp), List.filter_cons_of_pos (by simp), List.length_cons, List.length_cons]
            omega
          · rw [List.filter_cons_of_pos (by simp), List.filter_cons_of_neg (by simp), List.length_cons, List.length_cons]
            omega
    have p1 := part true
    have p2 := part false
    rw [Nat.pow_succ]
    omega
theorem led_few {bs : List Bar} {s0 : List Bool} {es : List Ent} (nd : (es.map (·.1)).Nodup) (led : ∀ e ∈ es, Led bs s0 e) (h7 : s0.length ≤ 7) : es.length ≤ 128 := by
  have := few s0.length (es.map (·.1)) nd fun x hx => by
    obtain ⟨e, he, rfl⟩ := List.mem_map.mp hx
    exact (led e he).2.2
  rw [List.length_map] at this
  have h2 : 2 ^ s0.length ≤ 2 ^ 7 := Nat.pow_le_pow_right (by decide) h7
  have h3 : (2 : Nat) ^ 7 = 128 := rfl
  omega
end DL

set_option Elab.async false
set_option maxRecDepth 100000
namespace DL
open PySem L2 HT TL
/-! ### a dict that is made within a for's head is read only from then on -/
def tFrz (te : TE) : TE := fun σ H Q => te σ H fun x H1 => ∃ d u, x = V.ref d ∧ H1 d = some u ∧ Mut (some u) ∧ ∀ od, Q x (upd H1 d (.frz od u))
theorem pe_frz {X : Cx} {e : Expr} {te : TE} (he : PE X e te) : PE X e (tFrz te) := by
  refine ⟨fun pins s σ H Q I h => thn (he.run pins s σ H _ I h) fun v s1 ⟨x, H1, I1, r, d, u, ex, hd, mu, q⟩ => ?_⟩
  obtain ⟨od, I2⟩ := I1.lock hd mu
  exact ⟨x, _, I2, r, q od⟩
/-! ### rows in a dict -/
abbrev KEnt := Addr × Ent
def kvsOf (ks : List KEnt) : List (Key × V) := ks.map fun k => (.inr (sstr k.2.1), .ref k.1)
structure RowsEl (H : Hp) (ks : List KEnt) : Prop where
  el : ∀ k ∈ ks, H k.1 = some (.tup (k.2.2.map V.int))
theorem RowsEl.same {H H' : Hp} {ks : List KEnt} (R : RowsEl H ks) (s : Same H H') : RowsEl H' ks := ⟨fun k hk => s _ _ (R.el k hk)⟩
theorem val_some {ks : List KEnt} {k : KEnt} (nd : ((ks.map (·.2)).map (·.1)).Nodup) (hk : k ∈ ks) : valV (kvsOf ks) (.inr (sstr k.2.1)) = some (.ref k.1) := by
  induction ks with
  | nil => cases hk
  | cons a ks ih =>
    rw [List.map_cons, List.map_cons, List.nodup_cons] at nd
    unfold valV kvsOf
    rw [List.map_cons, List.find?_cons]
    by_cases q : (.inr (sstr a.2.1) : Key) = .inr (sstr k.2.1)
    · rw [decide_eq_true q]
      rcases List.mem_cons.mp hk with rfl | hk
      · rfl
      · injection q with q
        refine absurd (List.mem_map.mpr ⟨k.2, List.mem_map.mpr ⟨k, hk, rfl⟩, (sstr_inj q).symm⟩) nd.1
    · rw [decide_eq_false q]
      rcases List.mem_cons.mp hk with rfl | hk
      · exact absurd rfl q
      · exact ih nd.2 hk
theorem val_none {ks : List KEnt} {st : List Bool} (h : ¬ st ∈ (ks.map (·.2)).map (·.1)) : valV (kvsOf ks) (.inr (sstr st)) = none := by
  unfold valV kvsOf
  have : (ks.map fun k => ((.inr (sstr k.2.1) : Key), V.ref k.1)).find? (fun kv => decide (kv.1 = .inr (sstr st))) = none := by
    rw [List.find?_eq_none]
    intro kv hkv
    obtain ⟨k, hk, rfl⟩ := List.mem_map.mp hkv
    intro z
    have z' : (.inr (sstr k.2.1) : Key) = .inr (sstr st) := of_decide_eq_true z
    injection z' with z'
    exact h (List.mem_map.mpr ⟨k.2, List.mem_map.mpr ⟨k, hk, rfl⟩, sstr_inj z'⟩)
  rw [this]
  rfl
theorem kvs_len (ks : List KEnt) : (kvsOf ks).length = ks.length := List.length_map ..
theorem ascD_len {rs : List (List Int)} {i : Nat} {p : List Int} {D : Int} (A : AscD rs i p D) : ∀ (m : Nat) (x : List Int), rs[m]? = some x → x.length ≤ m := by
  intro m
  induction m using Nat.strongRecOn with
  | _ m ih =>
    intro x hx
    have key : ∀ (j : Nat) (q : List Int) (d : Int), rs[j]? = some q → x = q ++ [d] → x.length ≤ m := fun j q d hj e => by
      have el : x.length = q.length + 1 := by rw [e, List.length_append]; rfl
      obtain ⟨l1, e1⟩ := List.getElem?_eq_some_iff.mp hx
      obtain ⟨l2, e2⟩ := List.getElem?_eq_some_iff.mp hj
      rcases Nat.lt_trichotomy j m with h | h | h
      · have := ih j h q hj
        omega
      · subst h
        rw [hx] at hj
        cases hj
        omega
      · have := List.pairwise_iff_getElem.mp A.pw m j l1 l2 h
        rw [e1, e2] at this
        have := this.2
        omega
    rcases A.par x (List.mem_of_getElem? hx) with rfl | ⟨j, q, d, _, hj, e⟩ | ⟨d, _, e⟩
    · exact Nat.zero_le _
    · exact key j q d hj e
    · exact key i p d A.at' e
structure spRows (C : Addr) (vs : List V) (H : Hp) (Q : VK) (_ : XK) : Prop where
  h : ∃ (c : Addr) (bs : List Bar) (st : List Bool), vs = [.ref c, .str (sstr st)] ∧ CabOk C H c st.length bs ∧
    ∀ (a : Addr) (ks : List KEnt) (H' : Hp), H a = none → Same H H' → H' a = some (.dK (kvsOf ks)) → RowsEl H' ks → BI bs st ks.length (ks.map (·.2)) → Q (.ref a) H'
section
variable {P : Program} {w : World} {K : PySem.W.Frag} {mg : Str → Option Value} {base : Heap}
abbrev nRf : List Str := ["cabinet", "standing", "rows", "queue", "done", "place", "drawer", "beyond"]
theorem scRf : FnScope nRf ["cabinet", "standing"] (defScope s_rows_from) := ⟨rfl, rfl, rfl, by decide +kernel, rfl, by decide +kernel, by decide +kernel⟩
theorem ok_rowsFrom {f f1 f2 C : Addr} {fd fd1 fd2 : FuncData} (F : Fun K "rows_from" "rows_from" s_rows_from f fd) (T : Bt mg)
    (G1 : FnOk P w K mg base CX0 8 f1 fd1 ["cabinet", "standing"] (spFreeDrawers C)) (g1 : mg "free_drawers" = some (.ref f1)) (k1 : PySem.W.keepIn K (.ref f1) = true) (b1 : Binds K fd1 ["cabinet", "standing"] [])
    (G2 : FnOk P w K mg base CX0 1 f2 fd2 ["standing", "drawer"] spMoved) (g2 : mg "moved" = some (.ref f2)) (k2 : PySem.W.keepIn K (.ref f2) = true) (b2 : Binds K fd2 ["standing", "drawer"] []) : FnOk P w K mg base CX0 10 f fd ["cabinet", "standing"] (spRows C) := by
  refine F.ok scRf (fun vs H Q E h => ?_) (fun cdv A outer s H vs Q E hr h => ?_)
  · obtain ⟨c, bs, st, rfl, _⟩ := h.h
    rfl
  · obtain ⟨c, bs, st, rfl, B, k⟩ := h.h
    have hu := hu_of hr
    obtain ⟨_, _, n7⟩ := B.cab
    have h7 : st.length ≤ 7 := by omega
    refine ⟨_, pss_cons (ps_set (i := 2) scRf.nd rfl (Or.inl rfl) (pe_disp (pps_cons (pv 1) (pe_tup pa_nil) pps_nil) (by rfl) (by rfl) (fun z => by cases z) (by decide)))
      (pss_cons (ps_set (i := 3) scRf.nd rfl (Or.inl rfl) (pe_lst (pa_cons (pv 1) pa_nil)))
      (pss_cons (ps_set (i := 4) scRf.nd rfl (Or.inl rfl) pe_int)
      (pss_cons (ps_while PassesOwn.never (pt_cmpR op_lt (pv 4) (pe_callB call_len_seq (by rfl) T.len PySem.boot_len (pa_cons (pv 3) pa_nil)) (nomark _))
        (pss_cons (ps_set (i := 5) scRf.nd rfl (Or.inl rfl) (pe_ix ix_list (pv 3) (pv 4) (fun _ _ => rfl)))
        (pss_cons (ps_aug (i := 4) scRf.nd rfl (Or.inl rfl) pe_int in_add)
        (pss_one (ps_for PassesOwn.never rfl (pi_list (pe_call G1 (hr.mono (by decide)) rfl g1 k1 b1 .nil pass0 (pa_cons (pv 0) (pa_cons (pv 5) pa_nil)))) (pg_name (i := 6) scRf.nd rfl (Or.inl rfl))
          (pss_cons (ps_set (i := 7) scRf.nd rfl (Or.inl rfl) (pe_call G2 (hr.mono (by decide)) rfl g2 k2 b2 .nil pass0 (pa_cons (pv 5) (pa_cons (pv 6) pa_nil))))
          (pss_one (ps_if (pt_cmp (pc_dnotin hu (pv 7) (pv 2)))
            (pss_cons (ps_dput hu (pv 2) (pv 7) (pe_tup (StX.pa_star (pe_dget hu (pv 2) (pv 5) (fun _ _ => rfl)) (pa_cons (pv 6) pa_nil))) rfl)
            (pss_one (ps_expr (pe_bm PySem.F.plainAttrs_list PySem.F.slot_list_append PySem.F.type_list_append mt_append (pv 3) (pa_cons (pv 7) pa_nil))))) pss_nil))))))))
      (pss_one (ps_ret (pv 2)))))), ?_⟩
    intro a ha
    refine ⟨_, rfl, (by show 0 ≤ sizeLine; decide), fun e0 he0 => ?_⟩
    have hae : a ≠ e0 := ne_of_none upd_same he0
    refine ⟨by rw [upd_ne hae]; exact upd_same, [(.inr (sstr st), .ref e0)], rfl, by show 1 ≤ 15; decide, ?_⟩
    refine ⟨_, rfl, (by show 1 ≤ sizeLine; decide), fun q hq => ?_⟩
    have hqa : q ≠ a := fun z => by rw [z, upd_same] at hq; cases hq
    have he0' : H e0 = none := by rw [upd_ne hae.symm] at he0; exact he0
    have hq0 : q ≠ e0 := fun z => by rw [z, upd_ne hae.symm, upd_same] at hq; cases hq
    have hqH : H q = none := by rw [upd_ne hqa, upd_ne hq0, upd_ne hqa] at hq; exact hq
    have S0 : Same H (upd (upd (upd (upd H a (.dK [])) e0 (.tup [])) a (.dK (mergeK [] [(.inr (sstr st), .ref e0)]))) q (.lst [.str (sstr st)])) := fun b o eb => by
      rw [upd_ne (ne_of_none eb hqH), upd_ne (ne_of_none eb ha), upd_ne (ne_of_none eb he0'), upd_ne (ne_of_none eb ha)]
      exact eb
    refine while_by (fun σ H' => ∃ (i : Nat) (ks : List KEnt) (u5 u6 u7 : Option V), σ = [some (.ref c), some (.str (sstr st)), some (.ref a), some (.ref q), some (.int i), u5, u6, u7] ∧ i ≤ ks.length ∧ BI bs st i (ks.map (·.2)) ∧ H' a = some (.dK (kvsOf ks)) ∧ RowsEl H' ks ∧
        H' q = some (.lst (ks.map fun k => .str (sstr k.2.1))) ∧ Same H H')
      (fun (σ : L2.St) (_ : Hp) => 128 - (match σ[4]? with | some (some (V.int i)) => i.toNat | _ => 0)) ?_ ?_ ?_
    · refine ⟨0, [(e0, (st, []))], _, _, _, rfl, Nat.zero_le _, BI.begin, ?_, ⟨fun k hk => ?_⟩, upd_same, S0⟩
      · rw [upd_ne hqa.symm, upd_same]
        rfl
      · rw [List.mem_singleton.mp hk]
        show (upd (upd (upd (upd H a (.dK [])) e0 (.tup [])) a (.dK (mergeK [] [(.inr (sstr st), .ref e0)]))) q (.lst [.str (sstr st)])) e0 = some (.tup [])
        rw [upd_ne hq0.symm, upd_ne hae.symm, upd_same]
    · rintro σ H1 ⟨i, ks, u5, u6, u7, rfl, hi, I, hA, hE, hQ, s1⟩
      have hfew : ks.length ≤ 128 := by
        have := led_few I.nd I.led h7
        rw [List.length_map] at this
        exact this
      refine ⟨_, rfl, _, rfl, q, _, rfl, .inl (SqL.of hQ), _, _, rfl, rfl, _, rfl, ?_⟩
      rw [List.length_map]
      refine ite2 (fun z => ?_) (fun z => ?_)
      · have hlt : i < ks.length := by have := of_decide_eq_true z; omega
        obtain ⟨kp, hkp⟩ : ∃ kp, ks[i]? = some kp := ⟨_, List.getElem?_eq_getElem hlt⟩
        have hpe : (ks.map (·.2))[i]? = some kp.2 := by rw [List.getElem?_map, hkp]; rfl
        have hpl : kp.2.1.length = st.length := (I.led kp.2 (List.mem_of_getElem? hpe)).2.2
        refine ⟨_, rfl, _, rfl, q, _, _, .str (sstr kp.2.1), rfl, rfl, SqL.of hQ, atI_nat (by rw [List.getElem?_map, hkp]; rfl), ?_⟩
        refine ⟨_, rfl, _, _, rfl, rfl, ?_⟩
        refine ⟨_, rfl, _, rfl, ⟨⟨c, bs, kp.2.1, rfl, by rw [hpl]; exact B.same s1, fun fq H2 hfq s2 h2 => ?_⟩⟩⟩
        have hfa : fq ≠ a := fun z => by rw [z, hA] at hfq; cases hfq
        have hfqq : fq ≠ q := fun z => by rw [z, hQ] at hfq; cases hfq
        refine ⟨fq, rfl, ⟨_, SqL.of h2⟩, ?_⟩
        refine for_list (K := K) (a := fq) (xs := (freeL bs kp.2.1).map V.int) (fun t σ H' => ∃ (D : Int) (ks' : List KEnt) (u6 u7 : Option V), σ = [some (.ref c), some (.str (sstr st)), some (.ref a), some (.ref q), some (.int ((i : Int) + 1)), some (.str (sstr kp.2.1)), u6, u7] ∧ BD bs st i kp.2 t D (ks'.map (·.2)) ∧
            (∃ more, ks' = ks ++ more) ∧ H' a = some (.dK (kvsOf ks')) ∧ RowsEl H' ks' ∧ H' q = some (.lst (ks'.map fun k => .str (sstr k.2.1))) ∧ Same H H' ∧ H' fq = some (.lst ((freeL bs kp.2.1).map V.int)))
          ⟨0, ks, _, _, rfl, I.during hpe, ⟨[], by rw [List.append_nil]⟩, s2 _ _ hA, hE.same s2, s2 _ _ hQ, s1.trans s2, h2⟩ ?_ ?_ ?_
        · rintro t σ H' _ ⟨D, ks', u6, u7, _, _, _, _, _, _, _, h⟩
          exact SqL.of h
        · rintro t x σ H3 hx ⟨D, ks', u6, u7, rfl, I', ⟨more, hmore⟩, hA', hE', hQ', s3, hF⟩
          rw [List.getElem?_map] at hx
          cases hd : (freeL bs kp.2.1)[t]? with
          | none => rw [hd] at hx; cases hx
          | some d =>
            rw [hd] at hx
            cases hx
            obtain ⟨dm, dD, d0, d6⟩ := I'.free hd h7
            have d1 := (free_in dm).2
            have hfew' : ks'.length ≤ 128 := by
              have := led_few I'.nd I'.led h7
              rw [List.length_map] at this
              exact this
            refine ⟨_, rfl, _, rfl, ⟨⟨kp.2.1, d, rfl, by omega, d0, d1, fun H4 s4 => ?_⟩⟩⟩
            have hA4 := s4 _ _ hA'
            have hQ4 := s4 _ _ hQ'
            have hE4 := hE'.same s4
            have hF4 := s4 _ _ hF
            have s34 := s3.trans s4
            refine ⟨_, rfl, _, rfl, a, _, rfl, DGet.k (k := Sum.inr (sstr (flip kp.2.1 d))) hA4, _, rfl, ?_⟩
            by_cases hin : flip kp.2.1 d ∈ (ks'.map (·.2)).map (·.1)
            · obtain ⟨e, he, h1⟩ := List.mem_map.mp hin
              obtain ⟨k', hk', rfl⟩ := List.mem_map.mp he
              have hv := val_some I'.nd hk'
              rw [h1] at hv
              rw [hv]
              exact iteF ⟨_, ks', _, _, rfl, I'.old hd h7 hin, ⟨more, hmore⟩, hA4, hE4, hQ4, s34, hF4⟩
            · have hv := val_none hin
              rw [hv]
              refine iteT ?_
              have hkpm : kp ∈ ks' := by rw [hmore]; exact List.mem_append_left _ (List.mem_of_getElem? hkp)
              refine ⟨_, rfl, _, rfl, a, .ref kp.1, rfl, by rw [← val_some I'.nd hkpm]; exact DGet.k (k := Sum.inr (sstr kp.2.1)) hA4, ?_⟩
              refine ⟨kp.1, _, rfl, .inl (SqT.of' (hE4.el kp hkpm)), _, rfl, ?_, fun tn htn => ?_⟩
              · have hl := ascD_len I'.asc i kp.2.2 (by rw [List.getElem?_map, I'.at']; rfl)
                show (kp.2.2.map V.int ++ [V.int d]).length ≤ sizeLine
                rw [List.length_append, List.length_map]
                exact Nat.le_of_lt (small1000 (by show kp.2.2.length + 1 ≤ 1000; omega))
              · have hta : tn ≠ a := fun z => by rw [z, hA4] at htn; cases htn
                have htq : tn ≠ q := fun z => by rw [z, hQ4] at htn; cases htn
                have htf : tn ≠ fq := fun z => by rw [z, hF4] at htn; cases htn
                have hsm : (kvsOf ks').length < sizeLine := by rw [kvs_len]; exact small1000 (by omega)
                refine ⟨_, rfl, _, rfl, a, _, rfl, DPut.k (k := Sum.inr (sstr (flip kp.2.1 d))) (by rw [upd_ne hta.symm]; exact hA4) hsm, ?_⟩
                refine ⟨_, rfl, .inl ⟨rfl, _, SqL.of (by rw [upd_ne hqa, upd_ne htq.symm]; exact hQ4)⟩, _, rfl, q, _, _, rfl, rfl, by rw [upd_ne hqa, upd_ne htq.symm]; exact hQ4, by rw [List.length_map]; exact small1000 (by omega), ?_⟩
                have hat : tn ≠ a := hta
                refine ⟨d + 1, ks' ++ [(tn, (flip kp.2.1 d, kp.2.2 ++ [d]))], _, _, rfl, ?_, ⟨more ++ [(tn, (flip kp.2.1 d, kp.2.2 ++ [d]))], by rw [hmore, List.append_assoc]⟩, ?_, ⟨fun k' hk' => ?_⟩, ?_, fun b o eb => ?_, ?_⟩
                · rw [List.map_append]
                  exact I'.new hd h7 hin
                · rw [upd_ne hqa.symm, upd_same, putK_new _ hv]
                  unfold kvsOf
                  rw [List.map_append]
                  rfl
                · have hk1 : k'.1 ≠ a ∧ k'.1 ≠ q ∧ (upd H4 tn (.tup (kp.2.2.map V.int ++ [V.int d]))) k'.1 = some (.tup (k'.2.2.map V.int)) := by
                    rcases List.mem_append.mp hk' with hk' | hk'
                    · have := hE4.el k' hk'
                      exact ⟨ne_of this hA4 (by intro z; cases z), ne_of this hQ4 (by intro z; cases z), by rw [upd_ne (ne_of_none this htn)]; exact this⟩
                    · rw [List.mem_singleton.mp hk']
                      refine ⟨hta, htq, ?_⟩
                      show (upd H4 tn (.tup (kp.2.2.map V.int ++ [V.int d]))) tn = some (.tup ((kp.2.2 ++ [d]).map V.int))
                      rw [upd_same, List.map_append]
                      rfl
                  rw [upd_ne hk1.2.1, upd_ne hk1.1]
                  exact hk1.2.2
                · rw [upd_same, List.map_append]
                  rfl
                · rw [upd_ne (ne_of_none eb hqH), upd_ne (ne_of_none eb ha), upd_ne (ne_of_none (s34 _ _ eb) htn)]
                  exact s34 _ _ eb
                · rw [upd_ne hfqq, upd_ne hfa, upd_ne htf.symm]
                  exact hF4
        · rintro σ H3 ⟨D, ks', u6, u7, rfl, I', ⟨more, hmore⟩, hA', hE', hQ', s3, hF⟩
          rw [List.length_map] at I'
          have I2 := I'.done
          refine ⟨⟨i + 1, ks', _, _, _, rfl, by rw [hmore, List.length_append]; omega, I2, hA', hE', hQ', s3⟩, ?_⟩
          show 128 - ((i : Int) + 1).toNat < 128 - (i : Int).toNat
          omega
      · have hge : ¬ i < ks.length := fun z' => z (decide_eq_true (by omega))
        obtain rfl : i = ks.length := by omega
        exact ⟨_, rfl, k a ks H1 ha s1 hA hE I⟩
    · rintro σ H1 Q1 Q2 m ⟨x, e1, y, e2, p, ys, e3, hs, j, l, e4, e5, c', e6, hq⟩
      exact ⟨x, e1, y, e2, p, ys, e3, hs, j, l, e4, e5, c', e6, m _ _ hq⟩
structure spFirstRows (C : Addr) (vs : List V) (H : Hp) (Q : VK) (_ : XK) : Prop where
  h : ∃ (c : Addr) (bs : List Bar) (n : Nat), vs = [.ref c] ∧ CabOk C H c n bs ∧ ∀ (a : Addr) (ks : List KEnt) (H' : Hp), H a = none → Same H H' → H' a = some (.dK (kvsOf ks)) → RowsEl H' ks → BI bs (shutS n) ks.length (ks.map (·.2)) → Q (.ref a) H'
theorem scFirstRows : FnScope ["cabinet"] ["cabinet"] (defScope s_first_rows) := ⟨rfl, rfl, rfl, by decide +kernel, rfl, by decide +kernel, by decide +kernel⟩
theorem ok_firstRows {f f2 f3 C : Addr} {fd fd2 fd3 : FuncData} (F : Fun K "first_rows" "first_rows" s_first_rows f fd) (CP : CabP P w K mg base C)
    (G2 : FnOk P w K mg base CX0 10 f2 fd2 ["cabinet", "standing"] (spRows C)) (g2 : mg "rows_from" = some (.ref f2)) (k2 : PySem.W.keepIn K (.ref f2) = true) (b2 : Binds K fd2 ["cabinet", "standing"] [])
    (G3 : FnOk P w K mg base CX0 1 f3 fd3 ["drawers"] spFirst) (g3 : mg "first_standing" = some (.ref f3)) (k3 : PySem.W.keepIn K (.ref f3) = true) (b3 : Binds K fd3 ["drawers"] []) : FnOk P w K mg base CX0 12 f fd ["cabinet"] (spFirstRows C) := by
  refine F.ok scFirstRows (fun vs H Q E h => ?_) (fun cdv A outer s H vs Q E hr h => ?_)
  · obtain ⟨c, bs, n, rfl, _⟩ := h.h
    rfl
  · obtain ⟨c, bs, n, rfl, B, k⟩ := h.h
    obtain ⟨t, hc, n7⟩ := B.cab
    have n1 : 1 ≤ n := by
      obtain ⟨_, _, _, _, _, _, q, _⟩ := B.h
      omega
    obtain ⟨pD, gD, fdD, hpD, GD, bD⟩ := CP.d
    refine ⟨_, pss_one (ps_ret (pe_call G2 (hr.mono (by decide)) rfl g2 k2 b2 .nil pass0 (pa_cons (pv 0) (pa_cons (pe_call G3 (hr.mono (by decide)) rfl g3 k3 b3 .nil pass0 (pa_cons (pe_prop (pv 0) CP.cl hpD GD (hr.mono (by decide)) bD .nil pass0 rfl) pa_nil)) pa_nil)))), ?_⟩
    obtain ⟨dx, hc0⟩ := hc
    have hshut : (shutS n).length = n := List.length_replicate
    refine ⟨_, rfl, _, rfl, c, dx, _, rfl, hc0, ⟨⟨c, dx, _, t, rfl, hc0, ⟨⟨n, rfl, n1, by omega, ?_⟩⟩⟩⟩⟩
    exact ⟨⟨c, bs, shutS n, rfl, by rw [hshut]; exact B, fun a ks H1 ha s1 hA hE I => k a ks H1 ha s1 hA hE I⟩⟩
end
end DL

set_option Elab.async false
set_option maxRecDepth 100000
namespace DL
open PySem L2 HT TL
/-! ### all rows, one pull longer at each turn; the first one that leads to a standing -/
theorem nd_eq {es : List Ent} (nd : (es.map (·.1)).Nodup) : ∀ {a b : Ent}, a ∈ es → b ∈ es → a.1 = b.1 → a = b := by
  induction es with
  | nil => intro a b ha; cases ha
  | cons x es ih =>
    intro a b ha hb e
    rw [List.map_cons, List.nodup_cons] at nd
    rcases List.mem_cons.mp ha with qa | ha'
    · rcases List.mem_cons.mp hb with qb | hb'
      · rw [qa, qb]
      · have hm : x.1 ∈ es.map (·.1) := List.mem_map.mpr ⟨b, hb', by rw [← e, qa]⟩
        exact absurd hm nd.1
    · rcases List.mem_cons.mp hb with qb | hb'
      · have hm : x.1 ∈ es.map (·.1) := List.mem_map.mpr ⟨a, ha', by rw [e, qb]⟩
        exact absurd hm nd.1
      · exact ih nd.2 ha' hb' e
structure LI (bs : List Bar) (s0 : List Bool) (i : Nat) (cat fst : List Ent) : Prop where
  asc : Asc (cat.map (·.2)) i
  led : ∀ e ∈ cat, Led bs s0 e
  ex : ∀ (j : Nat) (p : Ent), j < i → cat[j]? = some p → ∀ d ∈ freeL bs p.1, (flip p.1 d, p.2 ++ [d]) ∈ cat
  root : (s0, []) ∈ cat
  fnd : (fst.map (·.1)).Nodup
  fin : ∀ e ∈ fst, e ∈ cat
  fco : ∀ x ∈ cat, ∃ e ∈ fst, e.1 = x.1 ∧ rcode e.2 ≤ rcode x.2
structure LD (bs : List Bar) (s0 : List Bool) (i : Nat) (p : Ent) (t : Nat) (D : Int) (cat fst : List Ent) : Prop where
  asc : AscD (cat.map (·.2)) i p.2 D
  led : ∀ e ∈ cat, Led bs s0 e
  at' : cat[i]? = some p
  ex : ∀ (j : Nat) (p : Ent), j < i → cat[j]? = some p → ∀ d ∈ freeL bs p.1, (flip p.1 d, p.2 ++ [d]) ∈ cat
  exd : ∀ d ∈ (freeL bs p.1).take t, (flip p.1 d, p.2 ++ [d]) ∈ cat
  dle : ∀ d ∈ (freeL bs p.1).drop t, D ≤ d
  root : (s0, []) ∈ cat
  fnd : (fst.map (·.1)).Nodup
  fin : ∀ e ∈ fst, e ∈ cat
  fco : ∀ x ∈ cat, ∃ e ∈ fst, e.1 = x.1 ∧ rcode e.2 ≤ rcode x.2
theorem LI.begin {bs : List Bar} {s0 : List Bool} : LI bs s0 0 [(s0, [])] [(s0, [])] := by
  have B := BI.begin (bs := bs) (s0 := s0)
  exact ⟨B.asc, B.led, fun j p hj => by omega, List.mem_singleton.mpr rfl, B.nd, fun e he => he, fun x hx => ⟨x, hx, rfl, Int.le_refl _⟩⟩
theorem LI.during {bs : List Bar} {s0 : List Bool} {i : Nat} {cat fst : List Ent} {p : Ent} (B : LI bs s0 i cat fst) (h : cat[i]? = some p) : LD bs s0 i p 0 0 cat fst :=
  ⟨B.asc.during (by rw [List.getElem?_map, h]; rfl), B.led, h, B.ex, fun d hd => (by cases hd), fun d hd => (free_in (List.mem_of_mem_drop hd)).1, B.root, B.fnd, B.fin, B.fco⟩
theorem LD.done {bs : List Bar} {s0 : List Bool} {i : Nat} {p : Ent} {D : Int} {cat fst : List Ent} (B : LD bs s0 i p (freeL bs p.1).length D cat fst) : LI bs s0 (i + 1) cat fst := by
  refine ⟨B.asc.done, B.led, fun j q hj hq => ?_, B.root, B.fnd, B.fin, B.fco⟩
  by_cases e : j = i
  · subst e
    rw [B.at'] at hq
    cases hq
    have := B.exd
    rw [List.take_length] at this
    exact this
  · exact B.ex j q (by omega) hq
theorem LD.free {bs : List Bar} {s0 : List Bool} {i : Nat} {p : Ent} {t : Nat} {D : Int} {cat fst : List Ent} (B : LD bs s0 i p t D cat fst) {d : Int} (hd : (freeL bs p.1)[t]? = some d) (h7 : s0.length ≤ 7) :
    d ∈ freeL bs p.1 ∧ D ≤ d ∧ 0 ≤ d ∧ d ≤ 6 := by
  have hm := List.mem_of_getElem? hd
  obtain ⟨d0, d1⟩ := free_in hm
  have := (B.led p (List.mem_of_getElem? B.at')).2.2
  obtain ⟨_, e⟩ := pw_drop (free_pw bs p.1) hd
  exact ⟨hm, B.dle d (by rw [e]; exact List.mem_cons_self), d0, by omega⟩
def addF (fst : List Ent) (e : Ent) : List Ent := if e.1 ∈ fst.map (·.1) then fst else fst ++ [e]
theorem LD.add {bs : List Bar} {s0 : List Bool} {i : Nat} {p : Ent} {t : Nat} {D : Int} {cat fst : List Ent} (B : LD bs s0 i p t D cat fst) {d : Int} (hd : (freeL bs p.1)[t]? = some d) (h7 : s0.length ≤ 7) :
    LD bs s0 i p (t + 1) (d + 1) (cat ++ [(flip p.1 d, p.2 ++ [d])]) (addF fst (flip p.1 d, p.2 ++ [d])) := by
  obtain ⟨hm, hD, d0, d6⟩ := B.free hd h7
  have mono : ∀ {e : Ent}, e ∈ cat → e ∈ cat ++ [(flip p.1 d, p.2 ++ [d])] := fun he => List.mem_append_left _ he
  have last : (flip p.1 d, p.2 ++ [d]) ∈ cat ++ [(flip p.1 d, p.2 ++ [d])] := List.mem_append_right _ (List.mem_singleton.mpr rfl)
  have fsub : ∀ {e : Ent}, e ∈ fst → e ∈ addF fst (flip p.1 d, p.2 ++ [d]) := fun he => by
    unfold addF
    by_cases z : (flip p.1 d, p.2 ++ [d]).1 ∈ fst.map (·.1)
    · rw [if_pos z]; exact he
    · rw [if_neg z]; exact List.mem_append_left _ he
  refine ⟨?_, fun e he => ?_, ?_, fun j q hj hq x hx => ?_, fun x hx => ?_, (pw_drop (free_pw bs p.1) hd).1, mono B.root, ?_, fun e he => ?_, fun x hx => ?_⟩
  · rw [List.map_append]
    exact B.asc.add hD d0 d6
  · rcases List.mem_append.mp he with he | he
    · exact B.led e he
    · rw [List.mem_singleton.mp he]
      exact (B.led p (List.mem_of_getElem? B.at')).step hm h7
  · rw [List.getElem?_append_left (List.getElem?_eq_some_iff.mp B.at').1]
    exact B.at'
  · have hq' : cat[j]? = some q := by
      have := (List.getElem?_eq_some_iff.mp B.at').1
      rw [List.getElem?_append_left (by omega)] at hq
      exact hq
    exact mono (B.ex j q hj hq' x hx)
  · rcases mem_take_succ hd hx with hx | rfl
    · exact mono (B.exd x hx)
    · exact last
  · unfold addF
    by_cases z : (flip p.1 d, p.2 ++ [d]).1 ∈ fst.map (·.1)
    · rw [if_pos z]; exact B.fnd
    · rw [if_neg z, List.map_append, List.nodup_append]
      refine ⟨B.fnd, by simp, fun x hx y hy q => ?_⟩
      have e1 : y = (flip p.1 d, p.2 ++ [d]).1 := List.mem_singleton.mp hy
      rw [← e1, ← q] at z
      exact z hx
  · unfold addF at he
    by_cases z : (flip p.1 d, p.2 ++ [d]).1 ∈ fst.map (·.1)
    · rw [if_pos z] at he; exact mono (B.fin e he)
    · rw [if_neg z] at he
      rcases List.mem_append.mp he with he | he
      · exact mono (B.fin e he)
      · rw [List.mem_singleton.mp he]; exact last
  · rcases List.mem_append.mp hx with hx | hx
    · obtain ⟨e, he, h1⟩ := B.fco x hx
      exact ⟨e, fsub he, h1⟩
    · rw [List.mem_singleton.mp hx]
      by_cases z : (flip p.1 d, p.2 ++ [d]).1 ∈ fst.map (·.1)
      · obtain ⟨e, he, h1⟩ := List.mem_map.mp z
        have := (B.asc.below hD d0 e.2 (List.mem_map.mpr ⟨e, B.fin e he, rfl⟩)).1
        exact ⟨e, fsub he, h1, Int.le_of_lt this⟩
      · refine ⟨_, ?_, rfl, Int.le_refl _⟩
        unfold addF
        rw [if_neg z]
        exact List.mem_append_right _ (List.mem_singleton.mpr rfl)
/-- those from the i-th on have k pulls, none has more -/
structure LV (k i : Nat) (cat : List Ent) : Prop where
  le : ∀ x ∈ cat, x.2.length ≤ k
  eq : ∀ x ∈ cat.drop i, x.2.length = k
theorem LI.all {bs : List Bar} {s0 : List Bool} {i k : Nat} {cat fst : List Ent} (B : LI bs s0 i cat fst) (V : LV k i cat) : ∀ (r : List Int), (∀ d ∈ r, 0 ≤ d ∧ d < s0.length) → r.length ≤ k → ∀ st, runB bs s0 r = some st → (st, r) ∈ cat := by
  intro r
  refine snoc_ind (p := fun (r : List Int) => (∀ d ∈ r, 0 ≤ d ∧ d < s0.length) → r.length ≤ k → ∀ st, runB bs s0 r = some st → (st, r) ∈ cat) (fun _ _ st h => ?_) (fun l d ih hl hk st h => ?_) r
  · cases h
    exact B.root
  · rw [List.length_append] at hk
    have hk : l.length + 1 ≤ k := hk
    rw [runB_snoc] at h
    cases hr : runB bs s0 l with
    | none => rw [hr] at h; cases h
    | some s1 =>
      rw [hr, Option.bind_some] at h
      by_cases hg : goesB bs s1 d = true
      · rw [if_pos hg] at h
        cases h
        have hm := ih (fun x hx => hl x (List.mem_append_left _ hx)) (by omega) s1 hr
        obtain ⟨j, hj⟩ := List.getElem?_of_mem hm
        have el := (B.led _ hm).2.2
        have el : s1.length = s0.length := el
        have hji : j < i := by
          rcases Nat.lt_or_ge j i with h | h
          · exact h
          · have : (s1, l) ∈ cat.drop i := by
              have e : (cat.drop i)[j - i]? = some (s1, l) := by
                rw [List.getElem?_drop, show i + (j - i) = j by omega]
                exact hj
              exact List.mem_of_getElem? e
            have := V.eq _ this
            have : l.length = k := this
            omega
        exact B.ex j _ hji hj d (free_mem.mpr ⟨by have := hl d (List.mem_append_right _ (List.mem_singleton.mpr rfl)); show 0 ≤ d ∧ d < s1.length; omega, hg⟩)
      · rw [if_neg hg] at h
        cases h
/-! ### a standing as a pattern -/
end DL

set_option Elab.async false
set_option maxRecDepth 100000
namespace DL
open PySem PySem.Spec PyProof.Rows L2
section
variable {X : Cx}
/-! ### sorted of texts, any number; sorted of a dict with texts as keys -/
def rSortSA (K : PySem.W.Frag) : List V → Hp → VK → Prop := fun vs H Q => ∃ (a : Addr) (xs : List Str), vs = [V.ref a] ∧ SqL K H a (xs.map V.str) ∧
  ∀ (ys : List Str) (p : Addr), ys.Perm xs → sortedS ys = true → H p = none → Q (.ref p) (upd H p (.lst (ys.map V.str)))
theorem cr_sortSA : CallR X (.builtin "sorted") (rSortSA X.K) := by
  intro pins s σ H vs us Q I r h
  obtain ⟨a, xs, rfl, hs, q⟩ := h
  obtain ⟨its, rv, hl, hz⟩ := I.list hs
  rw [Vals.ref1 r]
  have hlen0 := rv.length
  refine PyProof.Rows.sorted_strsAny hl.isList rv.strs (by rw [← hlen0]; exact hz) fun out ys h1 h2 h3 => ?_
  obtain ⟨ep, he'⟩ := PyProof.Rows.sortedAll_at s.heap its out
  have hlen : (ys.map V.str).length ≤ sizeLine := by rw [List.length_map, h2.length_eq]; rw [List.length_map] at hz; exact hz
  exact ⟨.ref _, upd H (s.heap.objs.size + 1) (.lst (ys.map V.str)), I.laid (t' := s.toks) (fun _ _ => PyProof.Rows.sortedAll_old) (Nat.le_succ _) ⟨hlen, out.toList, ep, vals_of_strs h1, he'⟩, rfl, q ys _ h2 h3 (I.hok.fresh (Nat.le_succ _))⟩
/-! ### min of texts -/
theorem dpAll_strs {K : PySem.W.Frag} {H : Hp} : ∀ l : List Str, DpAll K H (l.map V.str) (l.map PyData.str)
  | [] => .nil
  | x :: l => .cons (.str x) (dpAll_strs l)
/-! ### < of data -/
end
end DL

set_option Elab.async false
set_option maxRecDepth 100000
namespace DL
open PySem L2 HT TL
/-! ### two queues that came to their end hold the same -/
theorem sub_asc {es es' : List Ent} (h1 : (es.map (·.2)).Pairwise Bef) (h2 : (es'.map (·.2)).Pairwise Bef) (hs : ∀ e, e ∈ es ↔ e ∈ es') : es = es' := by
  induction es generalizing es' with
  | nil =>
    cases es' with
    | nil => rfl
    | cons b es' => exact absurd ((hs b).mpr List.mem_cons_self) (by simp)
  | cons a es ih =>
    cases es' with
    | nil => exact absurd ((hs a).mp List.mem_cons_self) (by simp)
    | cons b es' =>
      rw [List.map_cons, List.pairwise_cons] at h1 h2
      have hab : a = b := by
        rcases List.mem_cons.mp ((hs a).mp List.mem_cons_self) with q | q
        · exact q
        · rcases List.mem_cons.mp ((hs b).mpr List.mem_cons_self) with q' | q'
          · exact q'.symm
          · have z1 := (h1.1 b.2 (List.mem_map.mpr ⟨b, q', rfl⟩)).1
            have z2 := (h2.1 a.2 (List.mem_map.mpr ⟨a, q, rfl⟩)).1
            omega
      subst hab
      congr 1
      refine ih h1.2 h2.2 fun e => ⟨fun he => ?_, fun he => ?_⟩
      · rcases List.mem_cons.mp ((hs e).mp (List.mem_cons_of_mem _ he)) with q | q
        · have z1 := (h1.1 e.2 (List.mem_map.mpr ⟨e, he, rfl⟩)).1
          rw [q] at z1
          omega
        · exact q
      · rcases List.mem_cons.mp ((hs e).mpr (List.mem_cons_of_mem _ he)) with q | q
        · have z1 := (h2.1 e.2 (List.mem_map.mpr ⟨e, he, rfl⟩)).1
          rw [q] at z1
          omega
        · exact q
theorem BI.sub {bs : List Bar} {s0 : List Bool} {es es' : List Ent} (I : BI bs s0 es.length es) (I' : BI bs s0 es'.length es') (h7 : s0.length ≤ 7) {e : Ent} (he : e ∈ es) : e ∈ es' := by
  obtain ⟨m1, ⟨m2, m3⟩, m4⟩ := I.led e he
  obtain ⟨f, hf, g1, g2, _⟩ := I'.opt h7 e.2 m3 e.1 m1
  obtain ⟨n1, ⟨n2, n3⟩, n4⟩ := I'.led f hf
  obtain ⟨e', he', k1, k2, _⟩ := I.opt h7 f.2 n3 f.1 n1
  have : e' = e := nd_eq I.nd he' he (by rw [k1, g1])
  subst this
  have : f = e' := Prod.ext g1 (rcode_inj n2 m2 (by omega))
  rw [← this]
  exact hf
theorem BI.same {bs : List Bar} {s0 : List Bool} {es es' : List Ent} (I : BI bs s0 es.length es) (I' : BI bs s0 es'.length es') (h7 : s0.length ≤ 7) : es = es' :=
  sub_asc I.asc.pw I'.asc.pw fun _ => ⟨I.sub I' h7, I'.sub I h7⟩
/-! ### sorted texts -/
theorem rising_pw : ∀ (p : Str) (l : List Str), PyProof.Rows.risingS p l = true → (p :: l).Pairwise fun a b => ¬ b.cps.toList < a.cps.toList
  | p, [], _ => List.pairwise_singleton _ _
  | p, x :: r, h => by
    have h' : (!PySem.Spec.ltCps x.cps.toList p.cps.toList && PyProof.Rows.risingS x r) = true := h
    rw [Bool.and_eq_true, Bool.not_eq_true', PyProof.Rows.ltCps_eq] at h'
    have hx := of_decide_eq_false h'.1
    have ih := rising_pw x r h'.2
    rw [List.pairwise_cons]
    refine ⟨fun y hy => ?_, ih⟩
    rcases List.mem_cons.mp hy with rfl | hy
    · exact hx
    · intro z
      exact hx (List.lt_of_le_of_lt (List.not_lt.mp ((List.pairwise_cons.mp ih).1 y hy)) z)
theorem sorted_same {a b : List Str} (ha : PyProof.Rows.sortedS a = true) (hb : PyProof.Rows.sortedS b = true) (h : a.Perm b) : a = b := by
  have pw : ∀ l : List Str, PyProof.Rows.sortedS l = true → l.Pairwise fun a b => ¬ b.cps.toList < a.cps.toList := fun l hl => by
    cases l with
    | nil => exact List.Pairwise.nil
    | cons x l => exact rising_pw x l hl
  refine List.Perm.eq_of_pairwise (fun x y _ _ h1 h2 => ?_) (pw a ha) (pw b hb) h
  exact PyProof.Rows.ext_toList (List.le_antisymm (List.not_lt.mp h1) (List.not_lt.mp h2))
theorem sstr_ok (st : List Bool) : PyData.strOk (sstr st) = true := by
  unfold PyData.strOk
  rw [← Array.all_toList, sstr_tl, List.all_eq_true]
  intro c hc
  obtain ⟨b, _, rfl⟩ := List.mem_map.mp hc
  have z : ∀ b : Bool, decide (sg b < 0x110000) = true := by decide
  exact z b
/-! ### (len(a), a) < (len(b), b) -/
end DL

set_option Elab.async false
set_option maxRecDepth 100000

set_option Elab.async false
set_option maxRecDepth 100000

set_option Elab.async false
set_option maxRecDepth 100000
namespace DL
open PySem L2 HT TL RZ
/-! ### patterns of sets -/
theorem SqA.same {K : PySem.W.Frag} {H H' : Hp} {a : Addr} {xs : List V} (s : Same H H') (h : SqA K H a xs) : SqA K H' a xs := by
  rcases h with h | h
  · exact .inl (s.seq h)
  · exact .inr (SqT.same s h)
end DL

set_option Elab.async false
set_option maxRecDepth 100000
namespace DL
open PySem L2 HT TL
/-! ### walks over a dict of rows -/
theorem kvs_at {ks : List KEnt} {i : Nat} {k : Key} {v : V} (h : (kvsOf ks)[i]? = some (k, v)) : ∃ kk, ks[i]? = some kk ∧ k = .inr (sstr kk.2.1) ∧ v = .ref kk.1 := by
  unfold kvsOf at h
  rw [List.getElem?_map] at h
  cases e : ks[i]? with
  | none => rw [e] at h; cases h
  | some kk =>
    rw [e] at h
    have h : some ((.inr (sstr kk.2.1) : Key), V.ref kk.1) = some (k, v) := h
    injection h with h
    injection h with h1 h2
    exact ⟨kk, rfl, h1.symm, h2.symm⟩
theorem walk_keysE {d : Addr} {o : Obj} {ks : List KEnt} : Walk (Itk d o (kvsOf ks)) ks.length (fun H => H d = some (.frz o (.dK (kvsOf ks)))) (fun i H x H' => H' = H ∧ ∃ k, ks[i]? = some k ∧ x = .str (sstr k.2.1)) := by
  rw [← kvs_len ks]
  refine (walk_keys (d := d) (o := o) (kvs := kvsOf ks)).mono (fun H h => h) fun i H x H' _ _ y => ?_
  obtain ⟨e, k, v, h, rfl⟩ := y
  obtain ⟨kk, e1, rfl, _⟩ := kvs_at h
  exact ⟨e, kk, e1, rfl⟩
/-- a dict of rows, locked from its making on -/
structure RowsFrz (H : Hp) (a : Addr) (od : Obj) (ks : List KEnt) : Prop where
  at' : H a = some (.frz od (.dK (kvsOf ks)))
  el : RowsEl H ks
theorem RowsFrz.same {H H' : Hp} {a : Addr} {od : Obj} {ks : List KEnt} (R : RowsFrz H a od ks) (s : Same H H') : RowsFrz H' a od ks := ⟨s _ _ R.at', R.el.same s⟩
theorem RowsFrz.but {r sc : Addr} {H H' : Hp} {a : Addr} {od : Obj} {ks : List KEnt} (R : RowsFrz H a od ks) (hR : RowOk H r sc) (B : But r H H') : RowsFrz H' a od ks := by
  obtain ⟨_, _, _, h, _⟩ := hR.h
  exact ⟨B _ _ (ne_of R.at' h (by intro z; cases z)) R.at', ⟨fun k hk => B.tup h (R.el.el k hk)⟩⟩
theorem rows_lock {H H1 : Hp} {a : Addr} {ks : List KEnt} (od : Obj) (ha : H a = none) (s1 : Same H H1) (hA : H1 a = some (.dK (kvsOf ks))) (hE : RowsEl H1 ks) :
    Same H (upd H1 a (.frz od (.dK (kvsOf ks)))) ∧ RowsFrz (upd H1 a (.frz od (.dK (kvsOf ks)))) a od ks := by
  refine ⟨fun b o eb => ?_, upd_same, ⟨fun k hk => ?_⟩⟩
  · rw [upd_ne (ne_of_none eb ha)]
    exact s1 _ _ eb
  · have := hE.el k hk
    rw [upd_ne (ne_of this hA (by intro z; cases z))]
    exact this
theorem dget_frz {H : Hp} {a : Addr} {o : Obj} {kvs : List (Key × V)} (k : Key) (h : H a = some (.frz o (.dK kvs))) : DGet H a (kV k) (valV kvs k) := .inl ⟨kvs, k, .inr ⟨o, h⟩, rfl, rfl⟩
theorem dok_strs {l : List Str} (h : ∀ z ∈ l, PyData.strOk z = true) : dok 2 (.list (l.map PyData.str)) := dok_list fun d hd => by
  obtain ⟨z, hz, rfl⟩ := List.mem_map.mp hd
  exact dok_str (h z hz)
end DL

set_option Elab.async false
set_option maxRecDepth 100000
namespace DL
open PySem L2 HT TL RZ
structure PairsAt (H : Hp) (qs : List (Addr × Int × Int)) : Prop where
  el : ∀ q ∈ qs, H q.1 = some (.tup [.int q.2.1, .int q.2.2])
theorem PairsAt.same {H H' : Hp} {qs : List (Addr × Int × Int)} (A : PairsAt H qs) (s : Same H H') : PairsAt H' qs := ⟨fun q hq => s _ _ (A.el q hq)⟩
def never (es : List Ent) (p : Int × Int) : Bool := !(es.any fun e => sat e.1 p.1 && sat e.1 p.2)
theorem any_perm {ys : List Str} {es : List Ent} (h : ys.Perm (es.map fun e => sstr e.1)) : ∃ sts : List (List Bool), ys = sts.map sstr ∧ sts.Perm (es.map (·.1)) := by
  have key : ∀ (l : List (List Bool)) (ys : List Str), ys.Perm (l.map sstr) → ∃ sts : List (List Bool), ys = sts.map sstr ∧ sts.Perm l := by
    intro l ys h
    have hs : ∀ y ∈ ys, ∃ st, y = sstr st := fun y hy => by
      obtain ⟨st, _, rfl⟩ := List.mem_map.mp (h.mem_iff.mp hy)
      exact ⟨st, rfl⟩
    have ex : ∃ sts : List (List Bool), ys = sts.map sstr := by
      clear h
      induction ys with
      | nil => exact ⟨[], rfl⟩
      | cons y ys ih =>
        obtain ⟨sts, e⟩ := ih fun z hz => hs z (List.mem_cons_of_mem _ hz)
        obtain ⟨st, e2⟩ := hs y List.mem_cons_self
        exact ⟨st :: sts, by rw [List.map_cons, e2, e]⟩
    obtain ⟨sts, e⟩ := ex
    refine ⟨sts, e, ?_⟩
    rw [e] at h
    refine List.perm_iff_count.mpr fun st => ?_
    have := List.perm_iff_count.mp h (sstr st)
    have cm : ∀ l : List (List Bool), (l.map sstr).count (sstr st) = l.count st := fun l => by
      induction l with
      | nil => rfl
      | cons a l ih =>
        rw [List.map_cons, List.count_cons, List.count_cons, ih]
        by_cases q : a = st
        · subst q
          simp
        · have q' : ¬ sstr a = sstr st := fun z => q (sstr_inj z)
          simp [q, q']
    rw [cm, cm] at this
    exact this
  have e : (es.map fun e => sstr e.1) = (es.map (·.1)).map sstr := by rw [List.map_map]; rfl
  rw [e] at h
  exact key _ _ h
end DL

set_option Elab.async false
set_option maxRecDepth 100000
set_option maxHeartbeats 1000000

set_option Elab.async false
set_option maxRecDepth 100000

set_option Elab.async false
set_option maxRecDepth 100000
set_option maxHeartbeats 1000000
namespace DL
open PySem PySem.Spec PyProof.Rows L2
/-! ### own errors with a field, each by its own __init__ -/
def exIni (CB : Addr) (fld : Str) (x : V) (H : Hp) (E : XK) : Prop := ∀ (d : Addr) (H' : Hp), H d = none → Same H H' → H' d = some (.xd [(fld, x)]) → E (.ref CB) (some d) H'
end DL

set_option Elab.async false
set_option maxRecDepth 100000
set_option maxHeartbeats 1000000
namespace DL
open PySem L2 HT TL
/-! ### forms of single values: standings, tries, whatever they are -/
def sgnB (n : Int) (z : Str) : V → Bool
  | .str y => decide ((y.length : Int) = n) && y.cps.toList.all fun c => decide (c ∈ z.cps.toList)
  | _ => false
end DL

set_option Elab.async false
set_option maxRecDepth 100000

set_option Elab.async false
set_option maxRecDepth 100000
set_option maxHeartbeats 1000000

set_option Elab.async false
set_option maxRecDepth 100000
set_option maxHeartbeats 1000000

set_option Elab.async false
set_option maxRecDepth 100000
set_option maxHeartbeats 1000000
namespace DL
open PySem L2 HT TL
/-! ### standings, patterns, drawers, lengths that are refused, whatever they are -/
def NoStr (K : PySem.W.Frag) (H : Hp) (v : V) : Prop := ∃ t, (∀ H', Same H H' → TyX K H' v t) ∧ PySem.W.kitOne K t (.type "str") = some false
def BadSgn (K : PySem.W.Frag) (z : Str) (H : Hp) (n : Int) (v : V) : Prop := NoStr K H v ∨ ∃ y, v = .str y ∧ y.length ≤ 1000 ∧ sgnB n z (.str y) = false
theorem BadSgn.same {K : PySem.W.Frag} {z : Str} {H H' : Hp} {n : Int} {v : V} (h : BadSgn K z H n v) (s : Same H H') : BadSgn K z H' n v := by
  rcases h with ⟨t, h1, h2⟩ | h
  · exact .inl ⟨t, fun H2 s2 => h1 H2 (s.trans s2), h2⟩
  · exact .inr h
end DL

set_option Elab.async false
set_option maxRecDepth 100000
set_option maxHeartbeats 1000000
namespace DL
open PySem L2 HT TL RZ
/-! ### a dict comprehension by a walk -/
theorem dc_it {J : It} {n : Nat} {G : Hp → Prop} {Y : Nat → Hp → V → Hp → Prop} (w : Walk J n G Y) {g : TG} {tt : TT} {tk tv : TE} {vs : List Nat} {σ : L2.St} {H1 : Hp} {D : Addr} {Qd : Hp → Prop} (Pv : Nat → Hp → Prop) (h0 : Pv 0 (upd H1 D (.dK []))) (hG : ∀ i H, i ≤ n → Pv i H → G H)
    (hs : ∀ i x H H', i < n → Pv i H → Y i H x H' → g x (wipe σ vs) H' fun σ2 H2 => wipe σ2 vs = wipe σ vs ∧ tt σ2 H2 fun b H3 =>
      if b = true then tk σ2 H3 fun y H4 => tv σ2 H4 fun z H5 => ∃ kvs k, y = kV k ∧ H5 D = some (.dK kvs) ∧ kvs.length < sizeLine ∧ Pv (i + 1) (upd H5 D (.dK (putK kvs k z))) else Pv (i + 1) H3) (hd : ∀ H, Pv n H → Qd H) :
    ∃ W : Nat → Nat → Hp → Prop, (∃ m, W 0 m (upd H1 D (.dK []))) ∧ ∀ i m H, W i m H →
      (J.stop i H ∧ Qd H) ∨ (J.go i H ∧ ∃ Nx : Hp → Prop, (∀ H', Nx H' → ∃ m', m' < m ∧ W (i + 1) m' H') ∧ ∀ x H', J.yld i H x H' → g x (wipe σ vs) H' fun σ2 H2 => wipe σ2 vs = wipe σ vs ∧ tt σ2 H2 fun b H3 =>
        if b = true then tk σ2 H3 fun y H4 => tv σ2 H4 fun z H5 => ∃ kvs k, y = kV k ∧ H5 D = some (.dK kvs) ∧ kvs.length < sizeLine ∧ Nx (upd H5 D (.dK (putK kvs k z))) else Nx H3) := by
  refine ⟨fun i m H => m = n - i ∧ i ≤ n ∧ Pv i H, ⟨n, rfl, Nat.zero_le _, h0⟩, ?_⟩
  rintro i m H ⟨em, hi, p⟩
  have q := hG i H hi p
  rcases Nat.lt_or_ge i n with hlt | hge
  · exact .inr ⟨w.goes i H hlt q, Pv (i + 1), fun H' p' => ⟨n - (i + 1), by omega, rfl, hlt, p'⟩, fun x H' y => hs i x H H' hlt p (w.yields i H x H' hlt q y)⟩
  · obtain rfl : i = n := Nat.le_antisymm hi hge
    exact .inl ⟨w.stops H q, hd H p⟩
/-! ### y = {..}, a dict comprehension by itself in a row -/
section
variable {X : Cx}
theorem ps_setDc {j : Nat} {nm : Str} {pn : Pos} {kx vx tg iter : Expr} {ifs : List Expr} {scope : Scope} {own : List (Str × Nat)} {dpos rpos : Pos} {wi : TI} {g : TG} {tt : TT} {tk tv : TE} (calm : X.calm = true) (nd : X.N.Nodup) (at_ : X.N[j]? = some nm) (loc : X.env.scope.names.lookup nm = some .local)
    (sw : swapsWith (.DictComp kx vx [⟨tg, iter, ifs, 0⟩] scope dpos) (some (.Name nm pn)) rpos.line X.env = pure true) (pi : PI X tg iter wi) (bk : BlkOk X.N X.env.scope scope own)
    (gs : ∀ (z : Shared) (Hz : Hp) (Cz : Addr) (cz : List (Str × Addr)) (fz : List Addr), PG (X.blk z Hz scope (compEnvC scope cz Cz X.env) fz) tg g)
    (ts : ∀ (z : Shared) (Hz : Hp) (Cz : Addr) (cz : List (Str × Addr)) (fz : List Addr), PTs (X.blk z Hz scope (compEnvC scope cz Cz X.env) fz) ifs tt)
    (ks : ∀ (z : Shared) (Hz : Hp) (Cz : Addr) (cz : List (Str × Addr)) (fz : List Addr), PE (X.blk z Hz scope (compEnvC scope cz Cz X.env) fz) kx tk)
    (es : ∀ (z : Shared) (Hz : Hp) (Cz : Addr) (cz : List (Str × Addr)) (fz : List Addr), PE (X.blk z Hz scope (compEnvC scope cz Cz X.env) fz) vx tv)
    (fo : ∀ x, foldedSetIterable iter X.env x = pure x := by intro _; rfl) :
    PS X (.Assign [.Name nm pn] (.DictComp kx vx [⟨tg, iter, ifs, 0⟩] scope dpos) rpos) (tAsg (tDc wi g tt tk tv (own.map (·.2))) (gName j)) := by
  constructor
  intro pins s σ H D inv asked
  rw [exec_Assign_Name_used _ _ _ _ sw]
  refine wpAny_bind (wpAny_standAt (wpAny_bind ?_))
  have asked' : tDc wi g tt tk tv (own.map (·.2)) σ H fun v Hv => gName j v σ Hv D.nx := asked
  have body := dc_core (use := some (assign (.Name nm pn) X.env)) (pos := dpos) (pos' := firstIterPos [⟨tg, iter, ifs, 0⟩] dpos) (Qf := fun _ z => SP X pins D .next z) calm nd inv pi bk gs ts ks es fo asked' ?_
  · exact wpAny_bind (thn body fun _ _ hz => wpAny_pure (wpAny_pure hz))
  intro a C s1 m H1 inv1 hq ns fp
  show wpAny _ _ (assign (.Name nm pn) X.env (.ref a)) _ _ _
  refine wpAny_assign_Name (store_ok2 (v := .ref a) inv1 nd at_ (.inl loc) rfl ?_ (.inr loc))
  rintro s2 inv2 ⟨b, keeps, hb⟩
  obtain ⟨p0, p1, p2, p3, p4, p5⟩ := fp
  have nb : C ≠ b := hb.elim (fun z => z ▸ p1) fun z e => p4 nm b z e.symm
  exact ⟨m, ns.sameBut keeps nb, fun h3 k3 => ⟨_, H1, inv2.turned (t' := s2.toks) (fun x o hx e => (k3.2 x hx).trans e) p0 p1 p3 p4 p5, hq⟩⟩
end
/-! ### told standings as keys -/
end DL

set_option Elab.async false
set_option maxRecDepth 100000
set_option maxHeartbeats 1000000
namespace DL
open PySem PySem.Spec PyProof.Rows L2 HT TL
/-! ### list(d.values()) of a dict that is locked -/
section
variable {X : Cx} {e : Expr} {te : TE} {a1 a2 : Pos}
def tVw (te : TE) : TE := fun σ H Q => te σ H fun x H1 => ∃ (d : Addr) (o : Obj) (kvs : List (Key × V)), x = .ref d ∧ H1 d = some (.frz o (.dK kvs)) ∧ ∀ b, H1 b = none → Q (.ref b) (upd H1 b (viewO "dict_values" b d))
theorem pe_vw (he : PE X e te) (hb : attributeBase e "values" X.env (eval e X.env) = eval e X.env := by rfl) (hl : (a1.endLine == a2.line) = true := by rfl) : PE X (.Call (.Attribute e "values" a1) [] [] a2) (tVw te) := by
  constructor
  intro pins s σ H Q I h
  have e0 := he.run pins s σ H _ I h
  refine wpAny_Call_method (id := "dict.values") (T := "dict") hb rfl hl F.plainAttrs_dict F.slot_dict_values F.type_dict_values (thn e0 ?_)
  rintro u t ⟨x, H1, J, rx, d, o, kvs, rfl, hd, q⟩
  have eu : u = Value.ref d := rx
  subst eu
  obtain ⟨hs, _, _, _, _, vs, _, _, _, hm⟩ := J.frzK hd
  have hD := hm.dictOf
  refine ⟨hD.typeIs, hD.mapOf.noDict, ?_⟩
  have J2 := J.laid (t' := t.toks) (fun b o z => (Heap.get?_push_of_some _ z : (t.heap.push (DSub.viewOb "dict_values" d)).get? b = some o)) (Nat.le_refl _) (viewO_ok (P := X.prog) (w := X.w) (T := "dict_values") (d := d) (h := t.heap.push (DSub.viewOb "dict_values" d)) (Heap.get?_push_size _ rfl))
  have z : EP X pins σ Q (.ref t.heap.objs.size) { t with heap := t.heap.push (DSub.viewOb "dict_values" d) } := ⟨.ref t.heap.objs.size, _, J2, rfl, q _ (J.hok.fresh (Nat.le_refl _))⟩
  show wpAny _ _ (callWith a2 (.builtin "dict.values") [.ref d] [] []) _ X.xe t
  exact method_meetsIn F.slot_dict_values F.entry_dict_values rfl (PySem.evalArgs_none ⟨rfl, hD.typeIs, F.args_dict_values_1 _, _, meets_dict_values (mixKind X.prog X.w) d hs, ⟨vs, hD⟩, z⟩)
theorem cr_listVw (calm : X.calm = true) : CallR X (.type "list") (fun xs H Q => ∃ (b d : Addr) (o : Obj) (kvs : List (Key × V)), xs = [.ref b] ∧ H b = some (viewO "dict_values" b d) ∧ H d = some (.frz o (.dK kvs)) ∧ kvs.length ≤ sizeLine ∧
    ∀ l, H l = none → Q (.ref l) (upd H l (.lst (kvs.map Prod.snd)))) := by
  intro pins t σ H xs us Q I r h
  obtain ⟨b, d, o, kvs, rfl, hb, hd, hz, q⟩ := h
  obtain ⟨u, rfl, ru⟩ := vals1 r
  have eu : u = Value.ref b := ru
  subst eu
  obtain ⟨_, _, _, _, ep, vs, _, _, kv, hm⟩ := I.frzK hd
  have hv : t.heap.get? b = some (DSub.viewOb "dict_values" d) := (show ObjOk X.prog X.w H t.heap b (viewO "dict_values" b d) from I.hok b _ hb).1
  have len : kvs.length = vs.length := Paired.length kv
  have src := PySem.W.kdl_values (prog := X.prog) (w := X.w) (r := b) (knd := mixKind X.prog X.w) (kvs := vs) (ep := ep) (d := d)
  refine PySem.W.kdl_call src (I.ok.hd calm) ⟨⟨_, hv, rfl, rfl⟩, hm⟩ (by omega) ?_
  intro h1 k1 xs1 c1 keeps new items
  have n1 : xs1.toList.length = vs.length := by
    rw [Array.length_toList]
    exact items.1
  have rel : Vals (kvs.map Prod.snd) xs1.toList := by
    refine vals_of_at (by rw [List.length_map, n1]; exact len) fun j y u e1 e2 => ?_
    rw [Array.getElem?_toList] at e2
    obtain ⟨k, ek⟩ := items.2 j u e2
    obtain ⟨x, ex, rxu⟩ := KV.at' kv ek
    rw [List.getElem?_map, ex] at e1
    cases e1
    exact rxu
  have J := I.laid (t' := k1) (o := .lst (kvs.map Prod.snd)) keeps (Nat.le_refl _) ⟨by rw [List.length_map]; exact hz, xs1.toList, c1, rel, by rw [Array.toArray_toList]; exact new⟩
  exact ⟨.ref t.heap.objs.size, _, J, rfl, q _ (I.hok.fresh (Nat.le_refl _))⟩
end
end DL

set_option Elab.async false
set_option maxRecDepth 100000
set_option maxHeartbeats 1000000
namespace DL
open PySem L2 HT TL RZ
/-! ### a dict with standings as keys -/
def tabV (rs : List (List Bool)) (f : List Bool → V) : List (Key × V) := rs.map fun st => (.inr (sstr st), f st)
theorem tab_len (rs : List (List Bool)) (f : List Bool → V) : (tabV rs f).length = rs.length := List.length_map ..
theorem tab_snd (rs : List (List Bool)) (f : List Bool → V) : (tabV rs f).map Prod.snd = rs.map f := by unfold tabV; rw [List.map_map]; rfl
theorem tab_get {rs : List (List Bool)} {f : List Bool → V} {i : Nat} {k : Key} {v : V} (h : (tabV rs f)[i]? = some (k, v)) : ∃ st, rs[i]? = some st ∧ k = .inr (sstr st) ∧ v = f st := by
  unfold tabV at h
  rw [List.getElem?_map] at h
  cases e : rs[i]? with
  | none => rw [e] at h; cases h
  | some st =>
    rw [e] at h
    have h : some ((.inr (sstr st) : Key), f st) = some (k, v) := h
    injection h with h
    injection h with h1 h2
    exact ⟨st, rfl, h1.symm, h2.symm⟩
theorem key_ne {a b : List Bool} (h : a ≠ b) : ¬ ((.inr (sstr a) : Key) = .inr (sstr b)) := fun z => h (sstr_inj (by injection z))
theorem tab_val (rs : List (List Bool)) (f : List Bool → V) (st : List Bool) : valV (tabV rs f) (.inr (sstr st)) = if st ∈ rs then some (f st) else none := by
  induction rs with
  | nil => rfl
  | cons a rs ih =>
    by_cases e : a = st
    · subst e
      rw [if_pos List.mem_cons_self]
      exact valV_pos rfl
    · have e2 : valV (tabV (a :: rs) f) (.inr (sstr st)) = valV (tabV rs f) (.inr (sstr st)) := valV_neg (key_ne e)
      rw [e2, ih]
      have : (st ∈ a :: rs) ↔ st ∈ rs := ⟨fun h => (List.mem_cons.mp h).resolve_left fun z => e z.symm, List.mem_cons_of_mem _⟩
      simp only [this]
theorem tab_put {rs : List (List Bool)} {f : List Bool → V} {st : List Bool} {v : V} (h : st ∈ rs) : putK (tabV rs f) (.inr (sstr st)) v = tabV rs fun z => if z = st then v else f z := by
  unfold putK
  rw [if_pos]
  · unfold tabV
    rw [List.map_map]
    refine List.map_congr_left fun z _ => ?_
    show (if (.inr (sstr z) : Key) = .inr (sstr st) then _ else _) = _
    by_cases e : z = st
    · subst e
      show (if (.inr (sstr z) : Key) = .inr (sstr z) then _ else _) = ((.inr (sstr z) : Key), if z = z then v else f z)
      rw [if_pos rfl, if_pos rfl]
    · rw [if_neg (key_ne e)]
      show _ = ((.inr (sstr z) : Key), if z = st then v else f z)
      rw [if_neg e]
  · rw [valV_any, tab_val, if_pos h]
    rfl
theorem tab_snoc {rs : List (List Bool)} {f : List Bool → V} {st : List Bool} {v : V} (h : st ∉ rs) : putK (tabV rs f) (.inr (sstr st)) v = tabV (rs ++ [st]) fun z => if z = st then v else f z := by
  rw [putK_new v (by rw [tab_val, if_neg h])]
  unfold tabV
  rw [List.map_append]
  refine congr (congrArg _ (List.map_congr_left fun z hz => ?_)) ?_
  · have e : z ≠ st := fun e => h (e ▸ hz)
    show _ = ((.inr (sstr z) : Key), if z = st then v else f z)
    rw [if_neg e]
  · show _ = [((.inr (sstr st) : Key), if st = st then v else f st)]
    rw [if_pos rfl]
/-! ### levels of standings, and how often one stands in a level -/
def nSum (l : List Nat) : Nat := l.foldr (· + ·) 0
theorem nSum_add {α : Type} (l : List α) (f g : α → Nat) : nSum (l.map fun x => f x + g x) = nSum (l.map f) + nSum (l.map g) := by
  induction l with
  | nil => rfl
  | cons a l ih =>
    show f a + g a + nSum (l.map fun x => f x + g x) = (f a + nSum (l.map f)) + (g a + nSum (l.map g))
    omega
theorem nSum_zero {α : Type} (l : List α) (f : α → Nat) (h : ∀ x ∈ l, f x = 0) : nSum (l.map f) = 0 := by
  induction l with
  | nil => rfl
  | cons a l ih =>
    have h1 := h a List.mem_cons_self
    have h2 := ih fun x hx => h x (List.mem_cons_of_mem _ hx)
    show f a + nSum (l.map f) = 0
    omega
theorem nSum_one (rs : List (List Bool)) (nd : rs.Nodup) (x : List Bool) (hx : x ∈ rs) (c : List Bool → Nat) : nSum (rs.map fun st => (if st = x then 1 else 0) * c st) = c x := by
  induction rs with
  | nil => cases hx
  | cons a rs ih =>
    show (if a = x then 1 else 0) * c a + nSum (rs.map fun st => (if st = x then 1 else 0) * c st) = c x
    rw [List.nodup_cons] at nd
    by_cases e : a = x
    · subst e
      rw [if_pos rfl, nSum_zero _ _ fun z hz => by
        have : z ≠ a := fun e => nd.1 (e ▸ hz)
        rw [if_neg this, Nat.zero_mul]]
      omega
    · rw [if_neg e, Nat.zero_mul, ih nd.2 ((List.mem_cons.mp hx).resolve_left fun z => e z.symm)]
      omega
theorem nSum_count (rs : List (List Bool)) (nd : rs.Nodup) (c : List Bool → Nat) (L : List (List Bool)) (hL : ∀ x ∈ L, x ∈ rs) : nSum (rs.map fun st => L.count st * c st) = nSum (L.map c) := by
  induction L with
  | nil => exact nSum_zero _ _ fun x _ => by rw [List.count_nil, Nat.zero_mul]
  | cons a L ih =>
    have e : (rs.map fun st => (a :: L).count st * c st) = rs.map fun st => L.count st * c st + (if st = a then 1 else 0) * c st := List.map_congr_left fun z _ => by
      rw [List.count_cons, Nat.add_mul]
      congr 2
      by_cases q : z = a
      · subst q
        simp
      · rw [if_neg q]
        simp [Ne.symm q]
    rw [e, nSum_add, ih fun x hx => hL x (List.mem_cons_of_mem _ hx), nSum_one rs nd a (hL a List.mem_cons_self)]
    show nSum (L.map c) + c a = c a + nSum (L.map c)
    omega
theorem count_flat (L : List (List Bool)) (h : List Bool → List (List Bool)) (b : List Bool) : (L.flatMap h).count b = nSum (L.map fun st => (h st).count b) := by
  induction L with
  | nil => rfl
  | cons a L ih =>
    rw [List.flatMap_cons, List.count_append, ih]
    rfl
theorem len_sum (L : List (List Bool)) : nSum (L.map fun _ => 1) = L.length := by
  induction L with
  | nil => rfl
  | cons a L ih =>
    show 1 + nSum (L.map fun _ => 1) = L.length + 1
    omega
theorem int_sum (l : List Nat) : (l.map fun x : Nat => (x : Int)).sum = (nSum l : Nat) := by
  induction l with
  | nil => rfl
  | cons a l ih =>
    rw [List.map_cons, List.sum_cons, ih]
    show (a : Int) + (nSum l : Nat) = ((a + nSum l : Nat) : Int)
    omega
theorem nSum_snoc (l : List Nat) (x : Nat) : nSum (l ++ [x]) = nSum l + x := by
  induction l with
  | nil => exact Nat.add_comm x 0
  | cons a l ih =>
    show a + nSum (l ++ [x]) = a + nSum l + x
    omega
end DL

set_option Elab.async false
set_option maxRecDepth 100000
set_option maxHeartbeats 2000000
namespace DL
open PySem L2 HT TL RZ
/-! ### o[i] += x of a dict -/
def gDct : V → V → Hp → VK → Prop := fun o i H Q => ∃ a v, o = .ref a ∧ DGet H a i (some v) ∧ Q v H
theorem pget_dct {X : Cx} (hu : X.A.units + 1 < cLine) : PGet X gDct := by
  intro pins s σ H o i ov iv Q I ro ri ⟨a, v, eo, g, q⟩
  subst eo
  have e : ov = Value.ref a := ro
  subst e
  exact d_getItem hu I g ri fun z s2 I2 rz => ⟨v, H, I2, rz, q⟩
theorem none_back {H H' : Hp} {a : Addr} (s : Same H H') (h : H' a = none) : H a = none := by
  cases e : H a with
  | none => rfl
  | some o =>
    rw [s _ _ e] at h
    cases h
/-! ### the pulls of each reached standing -/
structure PulEl (H : Hp) (bs : List Bar) (l : Addr) (st : List Bool) : Prop where
  h : ∃ ts : List (Addr × Int), H l = some (.lst (ts.map fun t => V.ref t.1)) ∧ ts.map (·.2) = freeL bs st ∧ ∀ t ∈ ts, H t.1 = some (.tup [.int t.2, .str (sstr (flip st t.2))])
theorem PulEl.mono {H H' : Hp} {bs : List Bar} {l : Addr} {st : List Bool} (p : PulEl H bs l st) (h1 : ∀ b xs, H b = some (.lst xs) → H' b = some (.lst xs)) (h2 : ∀ b xs, H b = some (.tup xs) → H' b = some (.tup xs)) : PulEl H' bs l st := by
  obtain ⟨ts, a, b, c⟩ := p.h
  exact ⟨⟨ts, h1 _ _ a, b, fun t ht => h2 _ _ (c t ht)⟩⟩
theorem PulEl.same {H H' : Hp} {bs : List Bar} {l : Addr} {st : List Bool} (p : PulEl H bs l st) (s : Same H H') : PulEl H' bs l st := p.mono (fun _ _ => s _ _) fun _ _ => s _ _
theorem PulEl.upd {H : Hp} {bs : List Bar} {l D : Addr} {st : List Bool} {o : HO} {kvs : List (Key × V)} (p : PulEl H bs l st) (hD : H D = some (.dK kvs)) : PulEl (upd H D o) bs l st := by
  refine p.mono (fun b xs h => ?_) fun b xs h => ?_
  · rw [upd_ne (ne_of h hD (by intro z; cases z))]
    exact h
  · rw [upd_ne (ne_of h hD (by intro z; cases z))]
    exact h
structure Reach (bs : List Bar) (n : Nat) (rs : List (List Bool)) : Prop where
  nd : rs.Nodup
  root : shutS n ∈ rs
  len : ∀ st ∈ rs, st.length = n
  ex : ∀ st ∈ rs, ∀ d ∈ freeL bs st, flip st d ∈ rs
  few : rs.length ≤ 128
  hd : rs[0]? = some (shutS n)
def PulsAt (H : Hp) (bs : List Bar) (rs : List (List Bool)) (f : List Bool → V) : Prop := ∀ st ∈ rs, ∃ l, f st = .ref l ∧ PulEl H bs l st
theorem PulsAt.same {H H' : Hp} {bs : List Bar} {rs : List (List Bool)} {f : List Bool → V} (p : PulsAt H bs rs f) (s : Same H H') : PulsAt H' bs rs f := fun st h => by
  obtain ⟨l, e, q⟩ := p st h
  exact ⟨l, e, q.same s⟩
theorem PulsAt.upd {H : Hp} {bs : List Bar} {rs : List (List Bool)} {f : List Bool → V} {D : Addr} {o : HO} {kvs : List (Key × V)} (p : PulsAt H bs rs f) (hD : H D = some (.dK kvs)) : PulsAt (upd H D o) bs rs f := fun st h => by
  obtain ⟨l, e, q⟩ := p st h
  exact ⟨l, e, q.upd hD⟩
/-- what the ledger of the first rows reaches -/
theorem reach_of {bs : List Bar} {n : Nat} {es : List Ent} (I : BI bs (shutS n) es.length es) (n7 : n ≤ 7) : Reach bs n (es.map (·.1)) := by
  have hshut : (shutS n).length = n := List.length_replicate
  have hf := led_few I.nd I.led (by rw [hshut]; exact n7)
  refine ⟨I.nd, List.mem_map_of_mem (f := (·.1)) I.root, fun st h => ?_, fun st h d hd => ?_, by rw [List.length_map]; exact hf, ?_⟩
  · obtain ⟨e, he, rfl⟩ := List.mem_map.mp h
    rw [(I.led e he).2.2, hshut]
  · obtain ⟨e, he, rfl⟩ := List.mem_map.mp h
    obtain ⟨j, hj⟩ := List.getElem?_of_mem he
    obtain ⟨e', he', q, _⟩ := I.ex j e (List.getElem?_eq_some_iff.mp hj).1 hj d hd
    rw [← q]
    exact List.mem_map_of_mem (f := (·.1)) he'
  · have hr := I.root
    have hp := I.asc.pw
    have hl := I.asc.low
    cases es with
    | nil => cases hr
    | cons e es =>
      rcases List.mem_cons.mp hr with h | h
      · rw [← h]
        rfl
      · exfalso
        rw [List.map_cons, List.pairwise_cons] at hp
        have h1 := (hp.1 [] (List.mem_map.mpr ⟨_, h, rfl⟩)).1
        have h2 := rcode_nn (hl e.2 (by simp))
        rw [rcode_nil] at h1
        omega
structure spPulls (C : Addr) (vs : List V) (H : Hp) (Q : VK) (_ : XK) : Prop where
  h : ∃ (c : Addr) (bs : List Bar) (n : Nat), vs = [.ref c] ∧ CabOk C H c n bs ∧
    ∀ (a : Addr) (rs : List (List Bool)) (f : List Bool → V) (H' : Hp), H a = none → Same H H' → H' a = some (.dK (tabV rs f)) → Reach bs n rs → PulsAt H' bs rs f → Q (.ref a) H'
section
variable {P : Program} {w : World} {K : PySem.W.Frag} {mg : Str → Option Value} {base : Heap}
abbrev nRP : List Str := ["cabinet", "standing", "drawer"]
theorem scRP : FnScope nRP ["cabinet"] (defScope s_reached_pulls) := ⟨rfl, rfl, rfl, by decide +kernel, rfl, by decide +kernel, by decide +kernel⟩
theorem ok_reachedPulls {f f1 f2 f3 C : Addr} {fd fd1 fd2 fd3 : FuncData} (F : Fun K "reached_pulls" "reached_pulls" s_reached_pulls f fd)
    (G1 : FnOk P w K mg base CX0 12 f1 fd1 ["cabinet"] (spFirstRows C)) (g1 : mg "first_rows" = some (.ref f1)) (k1 : PySem.W.keepIn K (.ref f1) = true) (b1 : Binds K fd1 ["cabinet"] [])
    (G2 : FnOk P w K mg base CX0 8 f2 fd2 ["cabinet", "standing"] (spFreeDrawers C)) (g2 : mg "free_drawers" = some (.ref f2)) (k2 : PySem.W.keepIn K (.ref f2) = true) (b2 : Binds K fd2 ["cabinet", "standing"] [])
    (G3 : FnOk P w K mg base CX0 1 f3 fd3 ["standing", "drawer"] spMoved) (g3 : mg "moved" = some (.ref f3)) (k3 : PySem.W.keepIn K (.ref f3) = true) (b3 : Binds K fd3 ["standing", "drawer"] []) :
    FnOk P w K mg base CX0 14 f fd ["cabinet"] (spPulls C) := by
  refine F.ok scRP (fun vs H Q E h => ?_) (fun cdv A outer s H vs Q E hr h => ?_)
  · obtain ⟨c, bs, n, rfl, _⟩ := h.h
    rfl
  · obtain ⟨c, bs, n, rfl, B, k⟩ := h.h
    obtain ⟨t, hc, n7⟩ := B.cab
    refine ⟨_, pss_one (ps_ret (pe_dc (own := [("standing", 1)]) (g := gName 1) (tt := tYes) (by rfl) scRP.nd (pi_keys (pe_frz (pe_call G1 (hr.mono (by decide)) rfl g1 k1 b1 .nil pass0 (pa_cons (pv 0) pa_nil)))) (blkOk_by (N := nRP) (sc := defScope s_reached_pulls) (by decide +kernel))
      (fun _ _ _ _ _ => pg_name (i := 1) scRP.nd rfl (Or.inr rfl)) (fun _ _ _ _ _ => pts_nil) (fun _ _ _ _ _ => pv 1)
      (fun _ _ _ _ _ => by exact (pe_lc (own := [("drawer", 2)]) (g := gName 2) (tt := tYes) (by rfl) scRP.nd (pi_listK (K := K) rfl (pe_call G2 (hr.mono (by decide)) rfl g2 k2 b2 .nil pass0 (pa_cons (pv 0) (pa_cons (pv 1) pa_nil)))) (blkOk_by (N := nRP) (by rfl)) (fun _ _ _ _ _ => pg_name (i := 2) scRP.nd rfl (Or.inl rfl)) (fun _ _ _ _ _ => pts_nil)
        (fun _ _ _ _ _ => pe_tup (pa_cons (pv 2) (pa_cons (pe_call G3 (hr.mono (by decide)) rfl g3 k3 b3 .nil pass0 (pa_cons (pv 1) (pa_cons (pv 2) pa_nil))) pa_nil))))))), ?_⟩
    refine ⟨_, rfl, ⟨⟨c, bs, n, rfl, B, fun a ks H1 ha s1 hA hE I => ?_⟩⟩⟩
    have I' : BI bs (shutS n) (ks.map (·.2)).length (ks.map (·.2)) := by rw [List.length_map]; exact I
    have RR := reach_of I' (by omega)
    rw [List.map_map] at RR
    refine ⟨a, _, rfl, hA, trivial, fun od => ?_⟩
    obtain ⟨s2, R2⟩ := rows_lock od ha s1 hA hE
    generalize (upd H1 a (.frz od (.dK (kvsOf ks)))) = H2 at s2 R2 ⊢
    refine ⟨a, od, rfl, .inl ⟨_, R2.at', fun D hD => ?_⟩⟩
    have B2 := B.same s2
    refine dc_it walk_keysE (fun i H' => Same H2 H' ∧ ∃ f : List Bool → V, H' D = some (.dK (tabV ((ks.take i).map fun k => k.2.1) f)) ∧ PulsAt H' bs ((ks.take i).map fun k => k.2.1) f) ⟨same_upd hD, fun _ => .non, upd_same, fun st h => by cases h⟩ (fun i H' _ q => q.1 _ _ R2.at') ?_ ?_
    · rintro i x H3 H3' hi ⟨s3, f, hD3, hf⟩ ⟨rfl, kk, ek, rfl⟩
      obtain ⟨hil, ei⟩ := List.getElem?_eq_some_iff.mp ek
      have hm : kk ∈ ks := List.mem_of_getElem? ek
      have hmr : kk.2.1 ∈ ks.map ((fun e : Ent => e.1) ∘ fun k : KEnt => k.2) := List.mem_map.mpr ⟨kk, hm, rfl⟩
      have hst : kk.2.1.length = n := RR.len _ hmr
      have htk : ((ks.take (i + 1)).map fun k => k.2.1) = ((ks.take i).map fun k => k.2.1) ++ [kk.2.1] := by
        rw [List.take_succ_eq_append_getElem hil, List.map_append, ei]
        rfl
      have hni : kk.2.1 ∉ (ks.take i).map fun k => k.2.1 := by
        have nd := RR.nd
        have : ((ks.take (i + 1)).map fun k => k.2.1).Nodup := nd.sublist ((List.take_sublist _ _).map _)
        rw [htk, List.nodup_append] at this
        intro h
        exact this.2.2 _ h _ (List.mem_singleton.mpr rfl) rfl
      refine ⟨rfl, tYes_of (iteT ?_)⟩
      refine ⟨_, rfl, ?_⟩
      refine ⟨_, rfl, _, rfl, ⟨⟨c, bs, kk.2.1, rfl, by rw [hst]; exact B2.same s3, fun q H5 hq s5 h5 => ?_⟩⟩⟩
      refine ⟨q, rfl, ⟨_, SqL.of h5⟩, fun D2 hD2 => ?_⟩
      refine lc_list (K := K) (a := q) (xs := (freeL bs kk.2.1).map V.int) (fun m H' => Same H5 H' ∧ ∃ ts : List (Addr × Int), H' D2 = some (.lst (ts.map fun t => V.ref t.1)) ∧ ts.map (·.2) = (freeL bs kk.2.1).take m ∧ ∀ t ∈ ts, H' t.1 = some (.tup [.int t.2, .str (sstr (flip kk.2.1 t.2))]))
        ⟨same_upd hD2, [], upd_same, rfl, fun t ht => by cases ht⟩ (fun m H' _ q => SqL.of (q.1 _ _ h5)) ?_ ?_
      · rintro m x H6 hx ⟨s6, ts, hD6, et, ht⟩
        rw [List.getElem?_map] at hx
        cases ed : (freeL bs kk.2.1)[m]? with
        | none => rw [ed] at hx; cases hx
        | some d =>
          rw [ed] at hx
          cases hx
          have hdm := List.mem_of_getElem? ed
          obtain ⟨⟨d0, d1⟩, _⟩ := free_mem.mp hdm
          obtain ⟨hml, em⟩ := List.getElem?_eq_some_iff.mp ed
          have hfl := free_len bs kk.2.1
          have tsl : ts.length = m := by
            have := congrArg List.length et
            rw [List.length_map, List.length_take] at this
            omega
          refine ⟨rfl, tYes_of (iteT ?_)⟩
          refine ⟨_, rfl, _, rfl, _, rfl, ⟨⟨kk.2.1, d, rfl, by omega, d0, d1, fun H7 s7 => ?_⟩⟩⟩
          refine ⟨(by show 2 ≤ sizeLine; decide), fun t7 nt7 => ?_⟩
          obtain ⟨s8, f8⟩ := new_at (o := .tup [V.int d, .str (sstr (flip kk.2.1 d))]) nt7
          generalize upd H7 t7 (.tup [V.int d, .str (sstr (flip kk.2.1 d))]) = H8 at s8 f8 ⊢
          have s68 := s7.trans s8
          have hD8 := s68 _ _ hD6
          refine ⟨_, hD8, by rw [List.length_map]; exact small1000 (by omega), fun b o e => ?_, ts ++ [(t7, d)], ?_, ?_, fun t ht' => ?_⟩
          · rw [upd_ne (ne_of_none e hD2)]
            exact s68 _ _ (s6 b o e)
          · rw [upd_same, List.map_append]
            rfl
          · rw [List.map_append, et, List.take_succ_eq_append_getElem hml, em]
            rfl
          · rcases List.mem_append.mp ht' with h | h
            · have e := s68 _ _ (ht t h)
              rw [upd_ne (ne_of e hD8 (by intro z; cases z))]
              exact e
            · rw [List.mem_singleton.mp h]
              rw [upd_ne (ne_of f8 hD8 (by intro z; cases z))]
              exact f8
      · rintro H6 ⟨s6, ts, hD6, et, ht⟩
        rw [List.length_map, List.take_length] at et
        have s36 := s5.trans s6
        have hD36 := s36 _ _ hD3
        have hfew := RR.few
        rw [List.length_map] at hfew
        have el : PulEl H6 bs D2 kk.2.1 := ⟨⟨ts, hD6, et, ht⟩⟩
        refine ⟨_, .inr (sstr kk.2.1), rfl, hD36, by rw [tab_len, List.length_map, List.length_take]; exact small1000 (by omega), fun b o e => ?_, fun z => if z = kk.2.1 then .ref D2 else f z, ?_, ?_⟩
        · rw [upd_ne (ne_of_none e hD)]
          exact s36 _ _ (s3 b o e)
        · rw [upd_same, htk, tab_snoc hni]
        · rw [htk]
          intro st hst'
          rcases List.mem_append.mp hst' with h | h
          · have e : st ≠ kk.2.1 := fun e => hni (e ▸ h)
            obtain ⟨l, e1, e2⟩ := hf.same s36 st h
            exact ⟨l, by show (if st = kk.2.1 then V.ref D2 else f st) = _; rw [if_neg e]; exact e1, e2.upd hD36⟩
          · rw [List.mem_singleton.mp h]
            exact ⟨D2, if_pos rfl, el.upd hD36⟩
    · rintro H3 ⟨s3, f, hD3, hf⟩
      rw [List.take_length] at hD3 hf
      exact k D _ f H3 (none_back s2 hD) (s2.trans s3) hD3 RR hf
end
end DL

set_option Elab.async false
set_option maxRecDepth 100000
set_option maxHeartbeats 2000000
namespace DL
open PySem L2 HT TL RZ
theorem nSum_take {α : Type} (l : List α) (f : α → Nat) {i : Nat} {x : α} (h : l[i]? = some x) : nSum ((l.take (i + 1)).map f) = nSum ((l.take i).map f) + f x := by
  obtain ⟨hi, e⟩ := List.getElem?_eq_some_iff.mp h
  rw [List.take_succ_eq_append_getElem hi, List.map_append, e]
  exact nSum_snoc _ _
theorem count_take {l : List (List Bool)} {i : Nat} {x : List Bool} (b : List Bool) (h : l[i]? = some x) : (l.take (i + 1)).count b = (l.take i).count b + (if x = b then 1 else 0) := by
  obtain ⟨hi, e⟩ := List.getElem?_eq_some_iff.mp h
  rw [List.take_succ_eq_append_getElem hi, List.count_append, e, List.count_cons, List.count_nil]
  by_cases q : x = b
  · subst q
    simp
  · simp [q]
theorem walk_itemsT {d : Addr} {o : Obj} {rs : List (List Bool)} {f : List Bool → V} : Walk (Iti d o (tabV rs f)) rs.length (fun H => H d = some (.frz o (.dK (tabV rs f)))) (fun i H x H' => ∃ (T : Addr) (st : List Bool), x = .ref T ∧ H T = none ∧ H' = upd H T (.tup [.str (sstr st), f st]) ∧ rs[i]? = some st) := by
  rw [← tab_len rs f]
  refine (walk_items (d := d) (o := o) (kvs := tabV rs f)).mono (fun H h => h) fun i H x H' _ _ y => ?_
  obtain ⟨T, u, v, ex, hT, eH, h1, h2⟩ := y
  have h1 : (tabV rs f)[i]?.map (fun kv => kV kv.1) = some u := h1
  have h2 : (tabV rs f)[i]?.map Prod.snd = some v := h2
  cases e : (tabV rs f)[i]? with
  | none => rw [e] at h1; cases h1
  | some p =>
    obtain ⟨a, b⟩ := p
    rw [e] at h1 h2
    obtain ⟨st, e1, rfl, rfl⟩ := tab_get e
    cases h1
    cases h2
    exact ⟨T, st, ex, hT, eH, e1⟩
def cnV (g : List Bool → Nat) : List Bool → V := fun st => .int (g st : Nat)
end DL

set_option Elab.async false
set_option maxRecDepth 100000
set_option maxHeartbeats 2000000
namespace DL
open PySem L2 HT TL RZ
section
variable {P : Program} {w : World} {K : PySem.W.Frag} {mg : Str → Option Value} {base : Heap}
theorem sum_boot : bootBuiltins ("sum" : Str) = some (.builtin "sum") := by decide +kernel
end
end DL

set_option Elab.async false
set_option maxRecDepth 100000
set_option maxHeartbeats 1000000
namespace DL
open PySem L2 HT TL RZ
/-! ### a dict that counts -/
structure Acc (ks : List (List Bool)) (F : List Bool → Nat) : Prop where
  nd : ks.Nodup
  iff : ∀ b, b ∈ ks ↔ 0 < F b
theorem Acc.val {ks : List (List Bool)} {F : List Bool → Nat} (A : Acc ks F) (x : List Bool) : (valV (tabV ks (cnV F)) (.inr (sstr x))).getD (.int 0) = .int (F x : Nat) := by
  rw [tab_val]
  by_cases m : x ∈ ks
  · rw [if_pos m]
    rfl
  · rw [if_neg m]
    have e : F x = 0 := by
      have : ¬ 0 < F x := fun h => m ((A.iff x).mpr h)
      omega
    rw [e]
    rfl
theorem Acc.put {ks : List (List Bool)} {F : List Bool → Nat} (A : Acc ks F) (x : List Bool) {m : Nat} (hm : 0 < m) :
    ∃ ks', putK (tabV ks (cnV F)) (.inr (sstr x)) (.int ((F x : Nat) + (m : Nat))) = tabV ks' (cnV fun z => if z = x then F z + m else F z) ∧ Acc ks' (fun z => if z = x then F z + m else F z) := by
  have ev : ∀ l : List (List Bool), (tabV l fun z => if z = x then V.int ((F x : Nat) + (m : Nat)) else cnV F z) = tabV l (cnV fun z => if z = x then F z + m else F z) := fun l => by
    unfold tabV
    refine List.map_congr_left fun z _ => congrArg (Prod.mk _) ?_
    simp only [cnV]
    by_cases e : z = x
    · subst e
      rw [if_pos rfl, if_pos rfl]
      exact congrArg V.int (by omega)
    · rw [if_neg e, if_neg e]
  by_cases hx : x ∈ ks
  · refine ⟨ks, by rw [tab_put hx, ev], A.nd, fun b => ?_⟩
    by_cases e : b = x
    · subst e
      simp only [if_pos]
      exact ⟨fun _ => by omega, fun _ => hx⟩
    · simp only [if_neg e]
      exact A.iff b
  · refine ⟨ks ++ [x], by rw [tab_snoc hx, ev], ?_, fun b => ?_⟩
    · rw [List.nodup_append]
      refine ⟨A.nd, by simp, fun a ha b hb e => ?_⟩
      rw [List.mem_singleton.mp hb] at e
      exact hx (e ▸ ha)
    · rw [List.mem_append, List.mem_singleton]
      by_cases e : b = x
      · subst e
        simp only [if_pos]
        exact ⟨fun _ => by omega, fun _ => .inr trivial⟩
      · simp only [if_neg e]
        rw [← A.iff b]
        exact ⟨fun h => h.resolve_right e, .inl⟩
theorem Acc.small {ks : List (List Bool)} {n : Nat} {F : List Bool → Nat} (A : Acc ks F) (hl : ∀ b, 0 < F b → b.length = n) (n7 : n ≤ 7) : ks.length ≤ 128 := by
  have := few n ks A.nd fun x hx => hl x ((A.iff x).mp hx)
  have h2 : 2 ^ n ≤ 2 ^ 7 := Nat.pow_le_pow_right (by decide) n7
  have h3 : (2 : Nat) ^ 7 = 128 := rfl
  omega
/-! ### counts that are refused -/
end DL

set_option Elab.async false
set_option maxRecDepth 100000
set_option maxHeartbeats 2000000
namespace DL
open PySem PySem.Spec PyProof.Rows L2
/-! ### sets of ints and texts that can be walked -/
/-- what stands in a row of the table for a key -/
structure RowFor (P : Program) (w : World) (k : Key) (e : Int × Value) : Prop where
  val : RelV (kV k) e.2
  hash : e.1 = (mixKind P w).hash k
theorem RowFor.elem {P : Program} {w : World} : ∀ {L : List Key} {l : List (Int × Value)}, Paired (RowFor P w) L l → ElemsOf (mixKind P w) l
  | _, _, .nil => fun e he => by cases he
  | k :: _, _, .cons r t => fun e he => by
    rcases List.mem_cons.mp he with rfl | he
    · exact ⟨⟨k, kV_is r.val, r.hash⟩, key_scan r.val⟩
    · exact RowFor.elem t e he
theorem pair_mem {α β : Type} {R : α → β → Prop} : ∀ {xs : List α} {ys : List β}, Paired R xs ys → ∀ x ∈ xs, ∃ y ∈ ys, R x y
  | _, _, .nil => fun x hx => by cases hx
  | _, _, .cons r t => fun x hx => by
    rcases List.mem_cons.mp hx with rfl | hx
    · exact ⟨_, List.mem_cons_self, r⟩
    · obtain ⟨y, hy, q⟩ := pair_mem t x hx
      exact ⟨y, List.mem_cons_of_mem _ hy, q⟩
theorem pair_mem' {α β : Type} {R : α → β → Prop} : ∀ {xs : List α} {ys : List β}, Paired R xs ys → ∀ y ∈ ys, ∃ x ∈ xs, R x y
  | _, _, .nil => fun x hx => by cases hx
  | _, _, .cons r t => fun x hx => by
    rcases List.mem_cons.mp hx with rfl | hx
    · exact ⟨_, List.mem_cons_self, r⟩
    · obtain ⟨y, hy, q⟩ := pair_mem' t x hx
      exact ⟨y, List.mem_cons_of_mem _ hy, q⟩
theorem pair_perm {α β : Type} {R : α → β → Prop} {ys zs : List β} (p : ys.Perm zs) : ∀ {xs : List α}, Paired R xs ys → ∃ ws, ws.Perm xs ∧ Paired R ws zs := by
  induction p with
  | nil => exact fun h => ⟨_, List.Perm.refl _, h⟩
  | cons y _ ih =>
    intro xs h
    cases h with
    | cons r t =>
      obtain ⟨ws, q, u⟩ := ih t
      exact ⟨_, q.cons _, .cons r u⟩
  | swap y z l =>
    intro xs h
    cases h with
    | cons r t =>
      cases t with
      | cons r2 t2 => exact ⟨_, List.Perm.swap _ _ _, .cons r2 (.cons r t2)⟩
  | trans _ _ ih1 ih2 =>
    intro xs h
    obtain ⟨ws, q, u⟩ := ih1 h
    obtain ⟨vs, q2, u2⟩ := ih2 u
    exact ⟨vs, q2.trans q, u2⟩
theorem pair_len {α β : Type} {R : α → β → Prop} : ∀ {xs : List α} {ys : List β}, Paired R xs ys → xs.length = ys.length
  | _, _, .nil => rfl
  | _, _, .cons _ t => by rw [List.length_cons, List.length_cons, pair_len t]
theorem rows_vals {P : Program} {w : World} : ∀ {L : List Key} {l : List (Int × Value)}, Paired (RowFor P w) L l → Vals (L.map kV) (l.map (·.2))
  | _, _, .nil => .nil
  | _, _, .cons r t => .cons r.val (rows_vals t)
/-- L2 holds k besides -/
structure Adds (k : Key) (L L2 : List Key) : Prop where
  old : k ∈ L → L2 = L
  new : k ∉ L → L2.Perm (k :: L)
/-- at a: a set of the keys L, in some order, each once -/
structure SetW (P : Program) (w : World) (h : Heap) (a : Addr) (L : List Key) : Prop where
  h : ∃ (o : Obj) (es : Array (Int × Value)) (ep : Nat) (t : SetTable), h.get? a = some o ∧ o.ExactSet ∧ o.data = .set es ep t ∧ Paired (RowFor P w) L es.toList ∧ L.Nodup ∧ L.length < scanBound ∧
    t.fits es.size = true ∧ Ris t.place.toList ∧ (w.params.followText "set-order" = true ∨ t.led = true)
section
variable {P : Program} {w : World} {A : Around} {E : Value → Shared → Prop} {s : Shared} {a : Addr} {L : List Key}
theorem SetW.of {h : Heap} {o : Obj} {es : Array (Int × Value)} {ep : Nat} {t : SetTable} (g : h.get? a = some o) (x : o.ExactSet) (d : o.data = .set es ep t) (p : Paired (RowFor P w) L es.toList) (nd : L.Nodup) (few : L.length < scanBound)
    (f : t.fits es.size = true) (r : Ris t.place.toList) (l : w.params.followText "set-order" = true ∨ t.led = true) : SetW P w h a L := ⟨⟨o, es, ep, t, g, x, d, p, nd, few, f, r, l⟩⟩
theorem SetW.keep {h h' : Heap} (R : SetW P w h a L) (k : ∀ o, h.get? a = some o → h'.get? a = some o) : SetW P w h' a L := by
  obtain ⟨o, es, ep, t, g, rest⟩ := R.h
  exact ⟨⟨o, es, ep, t, k o g, rest⟩⟩
theorem size_of {es : Array (Int × Value)} (p : Paired (RowFor P w) L es.toList) : es.size = L.length := by
  rw [← Array.length_toList]
  exact (pair_len p).symm
/-- the store behind a new member -/
theorem lay_w {say : Bool → Sem Unit} (hsay : ∀ (b : Bool) (s1 : Shared) (R1 : Unit → Shared → Prop), R1 () s1 → wpAny (model P w) A (say b) R1 E s1)
    {o : Obj} {es rows : Array (Int × Value)} {ep : Nat} {t tab : SetTable} {L1 : List Key} {deaf : Bool} {R : Option Bool → Shared → Prop} (ho : s.heap.get? a = some o) (hx : o.ExactSet) (hd : o.data = .set es ep t)
    (hp : Paired (RowFor P w) L1 rows.toList) (nd : L1.Nodup) (few : L1.length < scanBound) (hf : tab.fits rows.size = true) (hr : Ris tab.place.toList) (hl : w.params.followText "set-order" = true ∨ tab.led = true)
    (hR : ∀ h' L2, Heap.SameBut a s.heap h' → L2.Perm L1 → SetW P w h' a L2 → R (some true) { s with heap := h' }) :
    wpAny (model P w) A (do
        storeSet a rows tab
        if (!deaf && tab.tooFull) = true then do
            say (relayAll tab rows (SetTable.grown rows.size)).2.2
            storeSet a (relayAll tab rows (SetTable.grown rows.size)).1 (relayAll tab rows (SetTable.grown rows.size)).2.1
            pure (some true)
          else pure (some true)) R E s := by
  have few1 : rows.size < scanBound := by rw [size_of hp]; exact few
  refine wpAny_bind (wpAny_storeSet_of ho hd ?_ (fits_of_scanBound few1))
  have at1 := PpSet.storeB_at (es' := rows) (t' := tab) ho hd
  have but1 : Heap.SameBut a s.heap (s.heap.update a (Obj.putSet rows tab)) := Heap.SameBut.update s.heap a (Obj.putSet rows tab)
  by_cases q : (!deaf && tab.tooFull) = true
  · rw [if_pos q]
    have e1 := relayAll_perm tab rows (SetTable.grown rows.size)
    have e2 := relayAll_fits tab rows (SetTable.grown rows.size)
    have e3 := relayAll_ris tab rows (SetTable.grown rows.size)
    have e4 := relayAll_led tab rows (SetTable.grown rows.size)
    generalize relayAll tab rows (SetTable.grown rows.size) = all at e1 e2 e3 e4 ⊢
    obtain ⟨rows2, tab2, told⟩ := all
    obtain ⟨L2, p2, hp2⟩ := pair_perm e1.symm hp
    have few2 : rows2.size < scanBound := by rw [size_of hp2, p2.length_eq]; exact few
    refine wpAny_bind (hsay _ _ _ (wpAny_bind (wpAny_storeSet_of at1 rfl ?_ (fits_of_scanBound few2))))
    have at2 := PpSet.storeB_at (es' := rows2) (t' := tab2) at1 rfl
    exact wpAny_pure (hR _ L2 (but1.trans (Heap.SameBut.update _ a _)) p2 (.of at2 hx rfl hp2 (p2.nodup_iff.mpr nd) (by rw [p2.length_eq]; exact few) e2 e3 (hl.imp id fun z => e4.trans z)))
  · rw [if_neg q]
    exact wpAny_pure (hR _ L1 but1 (List.Perm.refl _) (.of at1 hx rfl hp nd few hf hr hl))
/-- one key more, its hash known -/
theorem put_w {k : Key} {u : Value} {R : Bool → Shared → Prop} (S : SetW P w s.heap a L) (hu : RelV (kV k) u) (room : L.length + 1 < scanBound)
    (hR : ∀ (b : Bool) h' L2, Heap.SameBut a s.heap h' → Adds k L L2 → SetW P w h' a L2 → R b { s with heap := h' }) :
    wpAny (model P w) A (setAddHashed a u ((mixKind P w).hash k)) R E s := by
  obtain ⟨o, es, ep, t, ho, hx, hd, hp, nd, few, hf, hr, hl⟩ := S.h
  have is := kV_is (P := P) (w := w) hu
  have sc := key_scan hu
  have el := RowFor.elem hp
  have few1 : es.size < scanBound := by rw [size_of hp]; exact few
  unfold setAddHashed setAddHashedIn
  refine wpAny_holding (wpAny_bind (wpAny_setState_of ho hd hf ?_))
  simp only [byScan_of sc few1 el, if_true]
  unfold setAddByScan
  refine wpAny_bind (wpAny_bind (wpAny_rule (wpAny_bind (wpAny_setScan_of is ho hd hf el ?_))))
  have inL : k ∈ L ↔ ∃ e ∈ es.toList, (mixKind P w).is k e.2 = true := by
    constructor
    · intro m
      obtain ⟨e, he, r⟩ := pair_mem hp k m
      exact ⟨e, he, kV_is r.val⟩
    · rintro ⟨e, he, q⟩
      obtain ⟨k2, hk2, r⟩ := pair_mem' hp e he
      rw [(mixKind P w).inj e.2 k k2 q (kV_is r.val)]
      exact hk2
  cases found : List.findIdx? (fun e => (mixKind P w).is k e.2) es.toList with
  | some j =>
    obtain ⟨lt, here, _⟩ := List.findIdx?_eq_some_iff_getElem.mp found
    have m : k ∈ L := inL.mpr ⟨_, List.getElem_mem lt, here⟩
    have z := hR false s.heap L (Heap.SameBut.refl a s.heap) ⟨fun _ => rfl, fun z => absurd m z⟩ S
    exact wpAny_pure (wpAny_pure z)
  | none =>
    have m : k ∉ L := fun z => by
      obtain ⟨e, he, q⟩ := inL.mp z
      have c := List.findIdx?_eq_none_iff.mp found e he
      rw [q] at c
      cases c
    have says : ∀ (b : Bool) {s1 : Shared} {R1 : Unit → Shared → Prop}, R1 () s1 → wpAny (model P w) A (match b with | true => rule "set.scan.the-table-gave-way" | false => pure ()) R1 E s1 := fun b s1 R1 q => by
      cases b with
      | true => exact wpAny_rule q
      | false => exact wpAny_pure q
    have e1 := layNew_perm t es ((mixKind P w).hash k) u
    have e2 := layNew_fits t es ((mixKind P w).hash k) u
    have e3 := layNew_ris t es ((mixKind P w).hash k) u hr
    have e4 := layNew_led t es ((mixKind P w).hash k) u
    generalize layNew t es ((mixKind P w).hash k) u = new at e1 e2 e3 e4 ⊢
    obtain ⟨rows, tab, deaf, told⟩ := new
    rw [Array.toList_push] at e1
    obtain ⟨L1, p1, hp1⟩ := pair_perm (e1.trans (List.perm_append_singleton _ _)).symm (.cons ⟨hu, rfl⟩ hp)
    have nd1 : L1.Nodup := p1.nodup_iff.mpr (List.nodup_cons.mpr ⟨m, nd⟩)
    have few2 : L1.length < scanBound := by rw [p1.length_eq]; exact room
    have lead : w.params.followText "set-order" = true ∨ tab.led = true := hl.imp id fun z => e4.trans z
    have fin : ∀ h' L2, Heap.SameBut a s.heap h' → L2.Perm L1 → SetW P w h' a L2 → R true { s with heap := h' } := fun h' L2 sb p S2 => hR true h' L2 sb ⟨fun z => absurd z m, fun _ => p.trans p1⟩ S2
    refine wpAny_bind (says _ ?_)
    split
    · rw [hashByValue_scannable 8 sc]
      refine wpAny_bind (wpAny_pure (lay_w (fun b s1 R1 q => says b q) ho hx hd hp1 nd1 few2 ?_ ?_ ?_ fun h' L2 sb p S2 => wpAny_pure (fin h' L2 sb p S2)))
      · split
        · exact e2
        · exact SetTable.fits_plain_off e2
      · split <;> exact e3
      · split <;> exact lead
    · refine wpAny_bind (wpAny_pure ?_)
      simp only [if_true]
      exact lay_w (fun b s1 R1 q => says b q) ho hx hd hp1 nd1 few2 e2 e3 lead fun h' L2 sb p S2 => wpAny_pure (fin h' L2 sb p S2)
end
end DL

set_option Elab.async false
set_option maxRecDepth 100000
set_option maxHeartbeats 2000000
namespace DL
open PySem PySem.Spec PyProof.Rows L2
/-- the set of the keys L at a, tracked -/
def SetWO (P : Program) (w : World) (a : Addr) (L : List Key) : HO := .ext fun h => SetW P w h a L
theorem setWO_ok {P : Program} {w : World} {H : Hp} {h : Heap} {a : Addr} {L : List Key} (R : SetW P w h a L) : ObjOk P w H h a (SetWO P w a L) := by
  obtain ⟨o, _, _, _, g, _⟩ := id R.h
  exact ⟨R, ⟨o, g⟩, fun _ _ p k => SetW.keep p k⟩
theorem setW_fresh {P : Program} {h : Heap} (w : World) : SetW P w (h.push { cls := .type "set", dict := none, data := .set #[] 0 (.fresh 0 0 (!w.params.followText "set-order")) }) h.objs.size [] := by
  refine .of (Heap.get?_push_size _ rfl) ⟨rfl, rfl, rfl⟩ rfl .nil List.nodup_nil (by decide) (by rfl) List.Pairwise.nil ?_
  cases q : w.params.followText "set-order" with
  | true => exact .inl rfl
  | false => exact .inr rfl
section
variable {X : Cx}
theorem setW_at {pins : List (Addr × Obj)} {σ : L2.St} {H : Hp} {s : Shared} {a : Addr} {L : List Key} (I : Inv X pins σ H s) (ha : H a = some (SetWO X.prog X.w a L)) : SetW X.prog X.w s.heap a L := (I.hok a _ ha).1
/-- D.add(u) -/
theorem addW {pins : List (Addr × Obj)} {σ : L2.St} {H : Hp} {s : Shared} {E : Value → Shared → Prop} {D : Addr} {L : List Key} {k : Key} {u : Value} {Q : Value → Shared → Prop} (I : Inv X pins σ H s) (hD : H D = some (SetWO X.prog X.w D L)) (hu : RelV (kV k) u) (room : L.length + 1 < scanBound)
    (h : ∀ L2 s', Adds k L L2 → Inv X pins σ (upd H D (SetWO X.prog X.w D L2)) s' → Q .none s') : wpAny (model X.prog X.w) X.A (call (.builtin "set.add") [.ref D, u]) Q E s := by
  have S := setW_at I hD
  obtain ⟨o, _, _, _, g, cl, _⟩ := id S.h
  refine wpAny_call_entry F.slot_set_add ⟨o, g, cl.1⟩ F.entry_set_add ?_ (F.args_set_add_2 _ _)
  unfold Builtin.«set.add» Builtin.Frozenset.oneOther
  simp only [List.isEmpty_nil, bind_assoc]
  unfold Builtin.Frozenset.addrOf setAdd
  refine wpAny_bind (wpAny_pure (wpAny_bind (wpAny_pure (wpAny_bind (wpAny_holding (wpAny_bind ((mixKind X.prog X.w).pyHash (kV_is hu) ?_)))))))
  refine put_w (s := { s with toks := s.toks + 1 }) S hu room fun b h' L2 sb hL S2 => ?_
  obtain ⟨o2, _, _, _, g2, _⟩ := id S2.h
  show wpAny _ _ (ret Value.none) _ _ _
  refine wpAny_pure ⟨_, rfl, h L2 _ hL ?_⟩
  exact I.write (e := D) (t' := s.toks + 1) (by rw [hD]; trivial) (.inl rfl) (fun c z hc hz => (sb.2 c hc).trans hz) ⟨o2, g2⟩ (setWO_ok S2)
end
/-! ### {e for x in xs if t} -/
def ScEl (P : Program) (w : World) (D : Addr) (Nx : Hp → Prop) : VK := fun y H4 => ∃ (k : Key) (L : List Key), y = kV k ∧ H4 D = some (SetWO P w D L) ∧ L.length + 1 < scanBound ∧ ∀ L2, Adds k L L2 → Nx (upd H4 D (SetWO P w D L2))
def tScW (P : Program) (w : World) (wi : TI) (g : TG) (tt : TT) (te : TE) (vs : List Nat) : TE := fun σ H Q => wi σ H fun J H1 => ∀ D, H1 D = none → ∃ W : Nat → Nat → Hp → Prop, (∃ m, W 0 m (upd H1 D (SetWO P w D []))) ∧ ∀ i m H2, W i m H2 →
  (J.stop i H2 ∧ Q (.ref D) H2) ∨ (J.go i H2 ∧ ∃ Nx : Hp → Prop, (∀ H3, Nx H3 → ∃ m', m' < m ∧ W (i + 1) m' H3) ∧ ∀ x H3, J.yld i H2 x H3 → g x (wipe σ vs) H3 fun σ2 H4 => wipe σ2 vs = wipe σ vs ∧ tt σ2 H4 fun b H5 =>
    if b = true then te σ2 H5 (ScEl P w D Nx) else Nx H5)
section
variable {X : Cx}
theorem pe_scW {elt tg iter : Expr} {ifs : List Expr} {scope : Scope} {own : List (PySem.Str × Nat)} {pos : Pos} {wi : TI} {g : TG} {tt : TT} {te : TE} (calm : X.calm = true) (nd : X.N.Nodup) (hi : PI X tg iter wi) (blk : BlkOk X.N X.env.scope scope own)
    (hg : ∀ (s : Shared) (H : Hp) (C : Addr) (cl : List (PySem.Str × Addr)) (fp : List Addr), PG (X.blk s H scope (compEnvC scope cl C X.env) fp) tg g)
    (ht : ∀ (s : Shared) (H : Hp) (C : Addr) (cl : List (PySem.Str × Addr)) (fp : List Addr), PTs (X.blk s H scope (compEnvC scope cl C X.env) fp) ifs tt)
    (he : ∀ (s : Shared) (H : Hp) (C : Addr) (cl : List (PySem.Str × Addr)) (fp : List Addr), PE (X.blk s H scope (compEnvC scope cl C X.env) fp) elt te) (fold : ∀ x, foldedSetIterable iter X.env x = pure x := by intro _; rfl) :
    PE X (.SetComp elt [⟨tg, iter, ifs, 0⟩] scope pos) (tScW X.prog X.w wi g tt te (own.map (·.2))) := by
  refine ⟨fun pins s σ H Q I0 want => ?_⟩
  rw [PpSet.eval_SetComp]
  have cells : ∀ y ∈ scope.names, y.2 = .free → ∃ c, X.env.cells.lookup y.1 = some c := fun y hy e => (blk.free y hy e).elim (fun k => I0.ok.has _ (.inl k)) fun k => I0.ok.has _ (.inr k)
  refine wpAny_comprehension_free rfl fold (closure_ok cells) blk.kind (fun y hy e => by rw [blk.uniq y hy, e]) (thn (hi.run pins s σ H _ I0 want) fun _ s1 made => thn made fun _ s2 walk => ?_)
  obtain ⟨it, fp, tn, J, Hw, rfl, Iw, T, st, fpok, q⟩ := walk
  refine PpSet.newSet_ok (newEnv_comp ?_)
  obtain ⟨D, eD⟩ : ∃ D, s2.heap.objs.size = D := ⟨_, rfl⟩
  rw [eD]
  have noD : Hw D = none := Iw.hok.fresh (Nat.le_of_eq eD)
  obtain ⟨W, ⟨m0, begin0⟩, turn⟩ := q D noD
  generalize eS : ({ s2 with heap := s2.heap.push { cls := .type "set", dict := none, data := .set #[] 0 (.fresh 0 0 (!X.w.params.followText "set-order")) } } : Shared) = sN
  have hpS : sN.heap = s2.heap.push { cls := .type "set", dict := none, data := .set #[] 0 (.fresh 0 0 (!X.w.params.followText "set-order")) } := by rw [← eS]
  have IN : Inv X pins σ (upd Hw D (SetWO X.prog X.w D [])) sN := by
    rw [← eS]
    refine Iw.laid (t' := s2.toks) (fun c z e => Heap.get?_push_of_some _ e) (Nat.le_of_eq eD) ?_
    rw [← eD]
    exact setWO_ok (setW_fresh X.w)
  have old : ∀ b ∈ fp, b < s2.heap.objs.size := fun b hb => by
    obtain ⟨z, e, _⟩ := T.obj _ _ st b hb
    exact Heap.lt_size e
  have fpN : ∀ b ∈ fp, FpOk X pins (upd Hw D (SetWO X.prog X.w D [])) b ∧ b < sN.heap.objs.size := fun b hb => by
    have lt := old b hb
    have ne : b ≠ D := by rw [← eD]; exact Nat.ne_of_lt lt
    exact ⟨⟨by rw [upd_ne ne]; exact (fpok b hb).1, (fpok b hb).2⟩, by rw [hpS, Heap.size_push]; exact Nat.lt_succ_of_lt lt⟩
  have stN : tn 0 sN.heap := T.keep _ _ _ st fun b _ z e => by rw [hpS]; exact Heap.get?_push_of_some _ e
  have IB := block_start IN blk nd fpN
  obtain ⟨C, eC⟩ : ∃ C, sN.heap.objs.size = C := ⟨_, rfl⟩
  rw [eC] at IB ⊢
  show codeAny _ _ (.compStart (.SetComp elt [⟨tg, iter, ifs, 0⟩] scope pos) 0 (.ref it) (.ref D) (compEnvC scope (cellsFrom (C + 1) scope.names (cloFrom X.env.cells scope.names [])) C X.env)) _ { sN with heap := pushCells (sN.heap.push { cls := .type "dict", data := .dict #[] }) scope.names }
  have G := hg sN (upd Hw D (SetWO X.prog X.w D [])) C (cellsFrom (C + 1) scope.names (cloFrom X.env.cells scope.names [])) fp
  have Te := ht sN (upd Hw D (SetWO X.prog X.w D [])) C (cellsFrom (C + 1) scope.names (cloFrom X.env.cells scope.names [])) fp
  have El := he sN (upd Hw D (SetWO X.prog X.w D [])) C (cellsFrom (C + 1) scope.names (cloFrom X.env.cells scope.names [])) fp
  generalize eE : compEnvC scope (cellsFrom (C + 1) scope.names (cloFrom X.env.cells scope.names [])) C X.env = ce at IB G Te El ⊢
  have locals : ce.locals = C := by rw [← eE]; rfl
  have noFp : ∀ b ∈ fp, (upd Hw D (SetWO X.prog X.w D [])) b = none := fun b hb => (fpN b hb).1.1
  generalize eH : upd Hw D (SetWO X.prog X.w D []) = HN at IN IB G Te El begin0 noFp fpN
  generalize eB : ({ sN with heap := pushCells (sN.heap.push { cls := .type "dict", data := .dict #[] }) scope.names } : Shared) = sB at IB ⊢
  have stB : tn 0 sB.heap := T.keep _ _ _ stN fun b _ z e => by rw [← eB]; exact pushCells_keeps _ _ _ _ (Heap.get?_push_of_some _ e)
  have inside : ∀ {σ' : L2.St} {H' : Hp} {s' : Shared}, Inv (X.blk sN HN scope ce fp) [] σ' H' s' → (∀ b ∈ fp, H' b = none) → ∀ b ∈ fp, FpOk (X.blk sN HN scope ce fp) [] H' b := fun I' no b hb =>
    ⟨no b hb, (I'.ok.exf b hb).1, I'.ok.exfs b hb, .inl hb, fun x c e => (I'.ok.exf b hb).2 x c e, fun p hp => absurd (show p ∈ ([] : List (Addr × Obj)) ++ [] from hp) (by simp)⟩
  refine PpSet.codeAny_compStart_set ?main (T.self X.A 0 _ _ _ stB ?main)
  refine PpSet.compLoopS_any (fun n s' => ∃ i H', Inv (X.blk sN HN scope ce fp) [] (wipe σ (own.map (·.2))) H' s' ∧ tn i s'.heap ∧ (∀ b ∈ fp, H' b = none) ∧ W i n H') ?_ m0 ⟨0, HN, IB, stB, noFp, begin0⟩
  rintro n sT ⟨i, HT, IT, stT, noT, wT⟩
  rcases turn i n HT wT with ⟨stop, qq⟩ | ⟨go, Nx, next, step⟩
  · refine thnF (T.done (X.blk sN HN scope ce fp) rfl rfl rfl calm i [] sT _ HT (fun _ _ => False) IT (inside IT noT) stT stop) fun _ sF ⟨er, IF⟩ => ?_
    subst er
    have IO : Inv X pins σ HT sF := IN.call' (ch := fp) IF.os IF.base IF.hok IF.bare fun b hb => ⟨(fpN b hb).1.2.2.2.1, (fpN b hb).1.2.1, (fpN b hb).1.2.2.2.2.1, (fpN b hb).1.2.2.2.2.2⟩
    have noC : HT C = none := by rw [← locals]; exact IF.free
    obtain ⟨m, ns, _⟩ := IF.loc
    have ns : sF.heap.Ns ce.locals m := ns
    rw [locals] at ns
    obtain ⟨f0, f1, f2, f3, f4, f5⟩ := IN.fpOk (Nat.le_of_eq eC) noC
    exact ⟨m, ns, fun h'' sb => ⟨.ref D, HT, IO.turned (t' := sF.toks) (fun b z hb e => (sb.2 b hb).trans e) f0 f1 f3 f4 f5, rfl, qq⟩⟩
  · refine thnF (T.item (X.blk sN HN scope ce fp) rfl rfl rfl calm i [] sT _ HT (fun _ _ => False) IT (inside IT noT) stT go) fun _ s5 ⟨u, er, got⟩ => ?_
    subst er
    refine thnF got fun _ s6 ⟨x, H6, I6, r6, y6, st6, no6⟩ => ?_
    have I6' := I6.pinned (inside I6 no6) (T.obj _ _ st6)
    refine thnF (G.run _ s6 _ H6 x u _ I6' r6 (step x H6 y6)) fun _ s7 ⟨σ7, H7, I7, w7, q7⟩ => ?_
    refine thnF (Te.run _ s7 σ7 H7 _ I7 q7) fun b s8 ⟨H8, I8, q8⟩ => ?_
    have close : ∀ {s' : Shared} {H' : Hp}, Inv (X.blk sN HN scope ce fp) ([] ++ pinsAt fp s6.heap) σ7 H' s' → Nx H' → ∃ m, m < n ∧ ∃ i H', Inv (X.blk sN HN scope ce fp) [] (wipe σ (own.map (·.2))) H' s' ∧ tn i s'.heap ∧ (∀ b ∈ fp, H' b = none) ∧ W i m H' := fun {s' H'} I' nx => by
      obtain ⟨m', lt, w'⟩ := next H' nx
      have pins' : ∀ b ∈ fp, ∀ z, s6.heap.get? b = some z → s'.heap.get? b = some z ∧ H' b = none := fun b hb z e => by
        have p := I'.pin (b, z) (List.mem_append_right _ (List.mem_append_right _ (mem_pinsAt hb e)))
        exact ⟨p.1, p.2.1⟩
      have len : (wipe σ (own.map (·.2))).length = σ7.length := by rw [← w7, wipe_length]
      refine ⟨m', lt, i + 1, H', (I'.unpinned (pins := [])).weak len (fun j v e => ?_), T.keep _ _ _ st6 fun b hb z e => (pins' b hb z e).1, fun b hb => ?_, w'⟩
      · rw [← w7] at e
        exact (wipe_some e).1
      · obtain ⟨z, e, _⟩ := T.obj _ _ st6 b hb
        exact (pins' b hb z e).2
    cases b with
    | false =>
      simp only [Bool.false_eq_true, if_false] at q8 ⊢
      exact close I8 q8
    | true =>
      simp only [if_true] at q8 ⊢
      refine thnF (El.run _ s8 σ7 H8 _ I8 q8) fun z s9 ⟨y, H9, I9, r9, k, L, ey, hD9, room, nx⟩ => ?_
      subst ey
      exact addW (X := X.blk sN HN scope ce fp) I9 hD9 r9 room fun L2 s10 eL I10 => close I10 (nx L2 eL)
end
section
open HT TL
/-- a set comprehension that picks, over a walk -/
theorem sc_pick {P : Program} {w : World} {α : Type} {J : It} {n : Nat} {G : Hp → Prop} {Y : Nat → Hp → V → Hp → Prop} (wk : Walk J n G Y) (l : List α) (hl : l.length = n) (hn : n ≤ 3000) (p : α → Bool) (v : α → Key) {g : TG} {tt : TT} {te : TE} {vs : List Nat} {σ : L2.St} {H1 : Hp} {D : Addr} {Qd : Hp → Prop}
    (hD : H1 D = none) (hG : ∀ H, Same H1 H → G H)
    (hs : ∀ i x z H H' (Tk : V → Hp → Prop) (Nk : Hp → Prop), l[i]? = some z → Same H1 H → Y i H x H' → (∀ H4, p z = true → Same H H4 → Tk (kV (v z)) H4) → (∀ H4, p z = false → Same H H4 → Nk H4) →
      g x (wipe σ vs) H' fun σ2 H2 => wipe σ2 vs = wipe σ vs ∧ tt σ2 H2 fun b H3 => if b = true then te σ2 H3 Tk else Nk H3)
    (hd : ∀ H (L : List Key), Same H1 H → L.Nodup → (∀ k, k ∈ L ↔ ∃ z ∈ l, p z = true ∧ v z = k) → H D = some (SetWO P w D L) → Qd H) :
    ∃ W : Nat → Nat → Hp → Prop, (∃ m, W 0 m (upd H1 D (SetWO P w D []))) ∧ ∀ i m H2, W i m H2 →
      (J.stop i H2 ∧ Qd H2) ∨ (J.go i H2 ∧ ∃ Nx : Hp → Prop, (∀ H3, Nx H3 → ∃ m', m' < m ∧ W (i + 1) m' H3) ∧ ∀ x H3, J.yld i H2 x H3 → g x (wipe σ vs) H3 fun σ2 H4 => wipe σ2 vs = wipe σ vs ∧ tt σ2 H4 fun b H5 =>
        if b = true then te σ2 H5 (ScEl P w D Nx) else Nx H5) := by
  refine ⟨fun i m H => m = n - i ∧ i ≤ n ∧ Same H1 H ∧ ∃ L : List Key, L.Nodup ∧ L.length ≤ i ∧ (∀ k, k ∈ L ↔ ∃ z ∈ l.take i, p z = true ∧ v z = k) ∧ H D = some (SetWO P w D L), ⟨n, rfl, Nat.zero_le _, same_upd hD, [], List.nodup_nil, Nat.le_refl _, fun k => ⟨fun h => (by cases h), fun ⟨_, hz, _⟩ => (by cases hz)⟩, upd_same⟩, ?_⟩
  rintro i m H ⟨rfl, hi, s1, L, nd, len, mem, hD1⟩
  rcases Nat.lt_or_ge i n with lt | ge
  · have lt' : i < l.length := by omega
    obtain ⟨z, ez⟩ : ∃ z, l[i]? = some z := ⟨_, List.getElem?_eq_getElem lt'⟩
    have etk : l.take (i + 1) = l.take i ++ [z] := by
      obtain ⟨h1, h2⟩ := List.getElem?_eq_some_iff.mp ez
      rw [List.take_succ_eq_append_getElem h1, h2]
    refine .inr ⟨wk.goes i H lt (hG H s1), fun H' => i + 1 ≤ n ∧ Same H1 H' ∧ ∃ L : List Key, L.Nodup ∧ L.length ≤ i + 1 ∧ (∀ k, k ∈ L ↔ ∃ z ∈ l.take (i + 1), p z = true ∧ v z = k) ∧ H' D = some (SetWO P w D L), fun H' nx => ⟨n - (i + 1), by omega, rfl, nx⟩, fun x H' y => ?_⟩
    refine hs i x z H H' _ _ ez s1 (wk.yields i H x H' lt (hG H s1) y) (fun H4 hp s4 => ?_) (fun H4 hp s4 => ?_)
    · refine ⟨v z, L, rfl, s4 _ _ hD1, ?_, fun L2 hL => ⟨lt, fun b o e => ?_, L2, ?_, ?_, fun k => ?_, upd_same⟩⟩
      · have h2 : (3001 : Nat) < scanBound := by decide
        omega
      · rw [upd_ne (ne_of_none e hD)]
        exact s4 _ _ (s1 b o e)
      · by_cases q : v z ∈ L
        · rw [hL.old q]
          exact nd
        · exact (hL.new q).nodup_iff.mpr (List.nodup_cons.mpr ⟨q, nd⟩)
      · by_cases q : v z ∈ L
        · rw [hL.old q]
          omega
        · rw [(hL.new q).length_eq, List.length_cons]
          omega
      · rw [etk]
        have side : (∃ y ∈ l.take i ++ [z], p y = true ∧ v y = k) ↔ k ∈ L ∨ k = v z := by
          rw [mem k]
          constructor
          · rintro ⟨y, hy, h1, h2⟩
            rcases List.mem_append.mp hy with h | h
            · exact .inl ⟨y, h, h1, h2⟩
            · rw [List.mem_singleton.mp h] at h2
              exact .inr h2.symm
          · rintro (⟨y, hy, h1, h2⟩ | h)
            · exact ⟨y, List.mem_append_left _ hy, h1, h2⟩
            · exact ⟨z, List.mem_append_right _ (List.mem_singleton.mpr rfl), hp, h.symm⟩
        rw [side]
        by_cases q : v z ∈ L
        · rw [hL.old q]
          exact ⟨.inl, fun h => h.elim id fun e => e ▸ q⟩
        · rw [(hL.new q).mem_iff, List.mem_cons]
          exact Or.comm
    · refine ⟨lt, s1.trans s4, L, nd, by omega, fun k => ?_, s4 _ _ hD1⟩
      rw [mem k, etk]
      constructor
      · rintro ⟨y, hy, h⟩
        exact ⟨y, List.mem_append_left _ hy, h⟩
      · rintro ⟨y, hy, h⟩
        rcases List.mem_append.mp hy with h' | h'
        · exact ⟨y, h', h⟩
        · rw [List.mem_singleton.mp h', hp] at h
          exact absurd h.1 Bool.false_ne_true
  · obtain rfl : i = n := by omega
    rw [← hl, List.take_length] at mem
    exact .inl ⟨wk.stops H (hG H s1), hd H L s1 nd mem hD1⟩
end
/-! ### sorted of such a set -/
section
variable {X : Cx}
theorem vals_strs_of {ys : List Key} {us : List Value} (h : Vals (ys.map kV) us) {xs : List Str} (e : ys = xs.map Sum.inr) : StrsAre us xs := by
  subst e
  rw [List.map_map] at h
  exact Vals.strs (show Vals (xs.map V.str) us from h)
def rSetSS (P : Program) (w : World) : List V → Hp → VK → Prop := fun vs H Q => ∃ (a : Addr) (xs : List Str), vs = [V.ref a] ∧ H a = some (SetWO P w a (xs.map Sum.inr)) ∧
  ∀ (ys : List Str) (p : Addr), ys.Perm xs → sortedS ys = true → H p = none → Q (.ref p) (upd H p (.lst (ys.map V.str)))
def rSetSI (P : Program) (w : World) : List V → Hp → VK → Prop := fun vs H Q => ∃ (a : Addr) (ns : List Int), vs = [V.ref a] ∧ H a = some (SetWO P w a (ns.map Sum.inl)) ∧ ns.length < 64 ∧
  ∀ (ns' : List Int) (p : Addr), ns'.Perm ns → ns'.Pairwise (· ≤ ·) → H p = none → Q (.ref p) (upd H p (.lst (ns'.map V.int)))
theorem perm_inr {xs : List Str} {ks : List Key} (h : ks.Perm (xs.map Sum.inr)) : ∃ ys : List Str, ks = ys.map Sum.inr ∧ ys.Perm xs := by
  obtain ⟨ys, p, e⟩ := pair_perm (R := fun (x : Str) (k : Key) => k = Sum.inr x) h.symm (xs := xs) (by
    clear h
    induction xs with
    | nil => exact .nil
    | cons x xs ih => exact .cons rfl ih)
  refine ⟨ys, ?_, p⟩
  clear p h
  induction e with
  | nil => rfl
  | cons r _ ih => rw [List.map_cons, r, ih]
theorem perm_inl {xs : List Int} {ks : List Key} (h : ks.Perm (xs.map Sum.inl)) : ∃ ys : List Int, ks = ys.map Sum.inl ∧ ys.Perm xs := by
  obtain ⟨ys, p, e⟩ := pair_perm (R := fun (x : Int) (k : Key) => k = Sum.inl x) h.symm (xs := xs) (by
    clear h
    induction xs with
    | nil => exact .nil
    | cons x xs ih => exact .cons rfl ih)
  refine ⟨ys, ?_, p⟩
  clear p h
  induction e with
  | nil => rfl
  | cons r _ ih => rw [List.map_cons, r, ih]
theorem vals_back {L : List Key} : ∀ {us ws : List Value}, Vals (L.map kV) us → us.Perm ws → ∃ L2 : List Key, L2.Perm L ∧ Vals (L2.map kV) ws := fun {us ws} h p => by
  have q : Paired (fun (k : Key) (u : Value) => RelV (kV k) u) L us := by
    clear p
    induction L generalizing us with
    | nil => cases h; exact .nil
    | cons k L ih =>
      cases h with
      | cons r t => exact .cons r (ih t)
  obtain ⟨L2, p2, q2⟩ := pair_perm p q
  refine ⟨L2, p2, ?_⟩
  clear p2 q h p
  induction q2 with
  | nil => exact .nil
  | cons r _ ih => exact .cons r ih
theorem cr_setSS (calm : X.calm = true) : CallR X (.builtin "sorted") (rSetSS X.prog X.w) := by
  intro pins s σ H vs us Q I r h
  obtain ⟨a, xs, rfl, ha, q⟩ := h
  rw [Vals.ref1 r]
  obtain ⟨o, es, ep, t, ho, hx, hd, hp, nd, few, hf, hr, hl⟩ := (setW_at I ha).h
  refine Calls.call_function_entry PyProof.Rows.kind_sorted PyProof.Rows.plain_sorted PyProof.Rows.entry_sorted (PyProof.Rows.args_sorted1 _) ?_
  unfold Builtin.«sorted»
  refine wpAny_bind (m := checkCount "sorted" 1 1 _) (wpAny_pure ?_)
  refine wpAny_bind (collect_set (A := X.A.in1) (I.ok.hd calm) ⟨o, ho, hx.1, hd⟩ hf (by rw [size_of hp]; exact few) hr hl fun s1 out keeps grown g1 o1 pm => ?_)
  obtain ⟨L2, p2, v2⟩ := vals_back (rows_vals hp) pm.symm
  obtain ⟨ys0, rfl, py⟩ := perm_inr p2
  have hS : StrsAre out ys0 := vals_strs_of v2 rfl
  have hle : out.length ≤ sizeLine := by
    have := v2.length
    rw [List.length_map, p2.length_eq] at this
    have h2 : scanBound ≤ sizeLine := by decide
    omega
  refine wpAny_bind (wpAny_newList ?_ hle)
  have hoL : (s1.heap.push (seqObj "list" out.toArray 0)).get? s1.heap.objs.size = some (seqObj "list" out.toArray 0) := Heap.get?_push_size _ rfl
  refine wpAny_bind (wpAny_holding (wpAny_call_entry PyProof.Rows.slot_list_sort ⟨_, hoL, rfl⟩ PyProof.Rows.entry_list_sort
    (PyProof.Rows.list_sort_treeKAny strKind_oneLt hoL hS.keysOf (fun v1 v2 rest e => keyKind_strs (by rw [← e]; exact hS)) hle fun st' hp2 hs => ⟨_, rfl, ?_⟩) (PyProof.Rows.args_list_sort _)))
  obtain ⟨ys, h1, h2, h3⟩ := sorted_out_str hS hp2 hs
  obtain ⟨e', he'⟩ := PyProof.Rows.sortedHeap_at (vs := out) (out := (arrOf st').map (·.2)) hoL
  have hno : H s1.heap.objs.size = none := I.hok.fresh grown
  have oldk : ∀ b z, s.heap.get? b = some z → (sortedHeap (s1.heap.push (seqObj "list" out.toArray 0)) s1.heap.objs.size out ((arrOf st').map (·.2))).get? b = some z := fun b z e => by
    have e1 := keeps b z e
    have lt := Heap.lt_size e1
    rw [PyProof.Rows.sortedHeap_old (Nat.ne_of_lt lt) (by rw [size_push']; exact Nat.lt_succ_of_lt lt)]
    exact Heap.get?_push_of_some _ e1
  have J : Inv X pins σ (upd H s1.heap.objs.size (.lst (ys.map V.str))) { s with heap := sortedHeap (s1.heap.push (seqObj "list" out.toArray 0)) s1.heap.objs.size out ((arrOf st').map (·.2)), gens := s1.gens, drawn := s1.drawn, toks := s1.toks } :=
    I.call (ch := []) (Un.laid oldk grown hno) (I.hok.laid oldk grown ⟨by rw [List.length_map, h2.length_eq, ← hS.len_eq]; exact hle, ((arrOf st').map (·.2)).toList, e', vals_of_strs h1, he'⟩) (by rw [g1]; exact I.bare) (fun _ z => nomatch z)
  have same : ({ s1 with heap := sortedHeap (s1.heap.push (seqObj "list" out.toArray 0)) s1.heap.objs.size out ((arrOf st').map (·.2)) } : Shared) = { s with heap := sortedHeap (s1.heap.push (seqObj "list" out.toArray 0)) s1.heap.objs.size out ((arrOf st').map (·.2)), gens := s1.gens, drawn := s1.drawn, toks := s1.toks } := by
    cases s1
    cases s
    cases o1
    rfl
  refine wpAny_pure ⟨_, rfl, .ref s1.heap.objs.size, _, ?_, rfl, q ys _ (h2.trans py) h3 hno⟩
  rw [← same] at J
  exact J
theorem cr_setSI (calm : X.calm = true) : CallR X (.builtin "sorted") (rSetSI X.prog X.w) := by
  intro pins s σ H vs us Q I r h
  obtain ⟨a, ns, rfl, ha, few64, q⟩ := h
  rw [Vals.ref1 r]
  obtain ⟨o, es, ep, t, ho, hx, hd, hp, nd, few, hf, hr, hl⟩ := (setW_at I ha).h
  refine Calls.call_function_entry PyProof.Rows.kind_sorted PyProof.Rows.plain_sorted PyProof.Rows.entry_sorted (PyProof.Rows.args_sorted1 _) ?_
  unfold Builtin.«sorted»
  refine wpAny_bind (m := checkCount "sorted" 1 1 _) (wpAny_pure ?_)
  refine wpAny_bind (collect_set (A := X.A.in1) (I.ok.hd calm) ⟨o, ho, hx.1, hd⟩ hf (by rw [size_of hp]; exact few) hr hl fun s1 out keeps grown g1 o1 pm => ?_)
  obtain ⟨L2, p2, v2⟩ := vals_back (rows_vals hp) pm.symm
  obtain ⟨ns0, rfl, pn⟩ := perm_inl p2
  have v3 : Vals (ns0.map V.int) out := by
    rw [List.map_map] at v2
    exact v2
  have hI : IntsAre out ns0 := v3.ints
  have hol : out.length < 64 := by
    have := v3.length
    rw [List.length_map, pn.length_eq] at this
    omega
  refine wpAny_bind (wpAny_newList ?_ (by have h2 : (64 : Nat) ≤ sizeLine := by decide
                                          omega))
  have hoL : (s1.heap.push (seqObj "list" out.toArray 0)).get? s1.heap.objs.size = some (seqObj "list" out.toArray 0) := Heap.get?_push_size _ rfl
  refine wpAny_bind (wpAny_holding (wpAny_call_entry PyProof.Rows.slot_list_sort ⟨_, hoL, rfl⟩ PyProof.Rows.entry_list_sort (PyProof.Rows.list_sort_tree hoL hI hol fun arr ns' a1 a2 a3 => ⟨_, rfl, ?_⟩) (PyProof.Rows.args_list_sort _)))
  obtain ⟨e', he'⟩ := PyProof.Rows.sortedHeap_at (vs := out) (out := arr) hoL
  have hno : H s1.heap.objs.size = none := I.hok.fresh grown
  have oldk : ∀ b z, s.heap.get? b = some z → (sortedHeap (s1.heap.push (seqObj "list" out.toArray 0)) s1.heap.objs.size out arr).get? b = some z := fun b z e => by
    have e1 := keeps b z e
    have lt := Heap.lt_size e1
    rw [PyProof.Rows.sortedHeap_old (Nat.ne_of_lt lt) (by rw [size_push']; exact Nat.lt_succ_of_lt lt)]
    exact Heap.get?_push_of_some _ e1
  have hle : (ns'.map V.int).length ≤ sizeLine := by
    rw [List.length_map, a2.length_eq, pn.length_eq]
    have h2 : (64 : Nat) ≤ sizeLine := by decide
    omega
  have J : Inv X pins σ (upd H s1.heap.objs.size (.lst (ns'.map V.int))) { s with heap := sortedHeap (s1.heap.push (seqObj "list" out.toArray 0)) s1.heap.objs.size out arr, gens := s1.gens, drawn := s1.drawn, toks := s1.toks } :=
    I.call (ch := []) (Un.laid oldk grown hno) (I.hok.laid oldk grown ⟨hle, arr.toList, e', vals_of_ints a1, he'⟩) (by rw [g1]; exact I.bare) (fun _ z => nomatch z)
  have same : ({ s1 with heap := sortedHeap (s1.heap.push (seqObj "list" out.toArray 0)) s1.heap.objs.size out arr } : Shared) = { s with heap := sortedHeap (s1.heap.push (seqObj "list" out.toArray 0)) s1.heap.objs.size out arr, gens := s1.gens, drawn := s1.drawn, toks := s1.toks } := by
    cases s1
    cases s
    cases o1
    rfl
  refine wpAny_pure ⟨_, rfl, .ref s1.heap.objs.size, _, ?_, rfl, q ns' _ (a2.trans pn) a3 hno⟩
  rw [← same] at J
  exact J
end
end DL

set_option Elab.async false
set_option maxRecDepth 100000
set_option maxHeartbeats 2000000
namespace DL
open PySem L2 HT TL RZ
/-! ### comprehensions whose elements are new things -/
theorem lc_objs {α β : Type} {J : It} {n : Nat} {G : Hp → Prop} {Y : Nat → Hp → V → Hp → Prop} (wk : Walk J n G Y) (l : List α) (hl : l.length = n) (hn : n ≤ 3000) (p : α → Bool) (v : α → β) (ob : β → HO) (hob : ∀ b xs, ob b ≠ .lst xs) {g : TG} {tt : TT} {te : TE} {vs : List Nat} {σ : L2.St} {H1 : Hp} {D : Addr} {Qd : Hp → Prop}
    (hD : H1 D = none) (hG : ∀ H, Same H1 H → G H)
    (hs : ∀ i x z H H' (Tk : V → Hp → Prop) (Nk : Hp → Prop), l[i]? = some z → Same H1 H → Y i H x H' → (∀ (t : Addr) H4, p z = true → Same H H4 → H4 t = some (ob (v z)) → Tk (.ref t) H4) → (∀ H4, p z = false → Same H H4 → Nk H4) →
      g x (wipe σ vs) H' fun σ2 H2 => wipe σ2 vs = wipe σ vs ∧ tt σ2 H2 fun b H3 => if b = true then te σ2 H3 Tk else Nk H3)
    (hd : ∀ H (ts : List (Addr × β)), Same H1 H → H D = some (.lst (ts.map fun t => V.ref t.1)) → ts.map (·.2) = (l.filter p).map v → (∀ t ∈ ts, H t.1 = some (ob t.2)) → Qd H) :
    ∃ W : Nat → Nat → Hp → Prop, (∃ m, W 0 m (upd H1 D (.lst []))) ∧ ∀ i m H, W i m H →
      (J.stop i H ∧ Qd H) ∨ (J.go i H ∧ ∃ Nx : Hp → Prop, (∀ H', Nx H' → ∃ m', m' < m ∧ W (i + 1) m' H') ∧ ∀ x H', J.yld i H x H' → g x (wipe σ vs) H' fun σ2 H2 => wipe σ2 vs = wipe σ vs ∧ tt σ2 H2 fun b H3 =>
        if b = true then te σ2 H3 fun y H4 => ∃ acc, H4 D = some (.lst acc) ∧ acc.length < sizeLine ∧ Nx (upd H4 D (.lst (acc ++ [y]))) else Nx H3) := by
  refine lc_it wk (fun i H' => Same H1 H' ∧ ∃ ts : List (Addr × β), H' D = some (.lst (ts.map fun t => V.ref t.1)) ∧ ts.map (·.2) = ((l.take i).filter p).map v ∧ ∀ t ∈ ts, H' t.1 = some (ob t.2)) ⟨same_upd hD, [], upd_same, rfl, fun t ht => by cases ht⟩ (fun i H' _ q => hG H' q.1) ?_ ?_
  · rintro i x H H' hi ⟨s1, ts, hD1, et, ht⟩ y
    have hi' : i < l.length := by omega
    have ez : l[i]? = some l[i] := List.getElem?_eq_getElem hi'
    have etk : l.take (i + 1) = l.take i ++ [l[i]] := List.take_succ_eq_append_getElem hi'
    refine hs i x l[i] H H' _ _ ez s1 y (fun t H4 hp s4 f4 => ?_) (fun H4 hp s4 => ?_)
    · have hD4 := s4 _ _ hD1
      refine ⟨_, hD4, ?_, fun b o e => ?_, ts ++ [(t, v l[i])], ?_, ?_, fun u hu => ?_⟩
      · have h0 := congrArg List.length et
        rw [List.length_map, List.length_map] at h0
        have h1 := List.length_filter_le p (l.take i)
        rw [List.length_take] at h1
        rw [List.length_map]
        have h2 : (3000 : Nat) < sizeLine := by decide
        omega
      · rw [upd_ne (ne_of_none e hD)]
        exact s4 _ _ (s1 b o e)
      · rw [upd_same, List.map_append]
        rfl
      · rw [List.map_append, et, etk, List.filter_append, List.filter_cons_of_pos hp, List.map_append]
        rfl
      · rcases List.mem_append.mp hu with h | h
        · have e := s4 _ _ (ht u h)
          rw [upd_ne (ne_of e hD4 (hob _ _))]
          exact e
        · rw [List.mem_singleton.mp h, upd_ne (ne_of f4 hD4 (hob _ _))]
          exact f4
    · refine ⟨s1.trans s4, ts, s4 _ _ hD1, ?_, fun u hu => s4 _ _ (ht u hu)⟩
      rw [etk, List.filter_append, List.filter_cons_of_neg (by rw [hp]; exact Bool.false_ne_true), List.filter_nil, List.append_nil]
      exact et
  · rintro H ⟨s1, ts, hD1, et, ht⟩
    rw [← hl, List.take_length] at et
    exact hd H ts s1 hD1 et ht
/-! ### dicts by standings, made by a comprehension -/
theorem dc_tab {J : It} {n : Nat} {G : Hp → Prop} {Y : Nat → Hp → V → Hp → Prop} (wk : Walk J n G Y) (rs : List (List Bool)) (hl : rs.length = n) (nd : rs.Nodup) (hn : n ≤ 3000) (p : List Bool → Bool) (R : List Bool → V → Hp → Prop) {g : TG} {tt : TT} {tk tv : TE} {vs : List Nat} {σ : L2.St} {H1 : Hp} {D : Addr} {Qd : Hp → Prop}
    (hD : H1 D = none) (hG : ∀ H, Same H1 H → G H) (rS : ∀ st v H H', Same H H' → R st v H → R st v H') (rU : ∀ st v H kvs o, H D = some (.dK kvs) → R st v H → R st v (upd H D o))
    (hs : ∀ i x st H H' (Tk : V → VK) (Nk : Hp → Prop), rs[i]? = some st → Same H1 H → Y i H x H' → (∀ v H5, p st = true → Same H H5 → R st v H5 → Tk (.str (sstr st)) v H5) → (∀ H4, p st = false → Same H H4 → Nk H4) →
      g x (wipe σ vs) H' fun σ2 H2 => wipe σ2 vs = wipe σ vs ∧ tt σ2 H2 fun b H3 => if b = true then tk σ2 H3 (fun y H4 => tv σ2 H4 (Tk y)) else Nk H3)
    (hd : ∀ H (f : List Bool → V), Same H1 H → H D = some (.dK (tabV (rs.filter p) f)) → (∀ st ∈ rs.filter p, R st (f st) H) → Qd H) :
    ∃ W : Nat → Nat → Hp → Prop, (∃ m, W 0 m (upd H1 D (.dK []))) ∧ ∀ i m H, W i m H →
      (J.stop i H ∧ Qd H) ∨ (J.go i H ∧ ∃ Nx : Hp → Prop, (∀ H', Nx H' → ∃ m', m' < m ∧ W (i + 1) m' H') ∧ ∀ x H', J.yld i H x H' → g x (wipe σ vs) H' fun σ2 H2 => wipe σ2 vs = wipe σ vs ∧ tt σ2 H2 fun b H3 =>
        if b = true then tk σ2 H3 fun y H4 => tv σ2 H4 fun z H5 => ∃ kvs k, y = kV k ∧ H5 D = some (.dK kvs) ∧ kvs.length < sizeLine ∧ Nx (upd H5 D (.dK (putK kvs k z))) else Nx H3) := by
  refine dc_it wk (fun i H' => Same H1 H' ∧ ∃ f : List Bool → V, H' D = some (.dK (tabV ((rs.take i).filter p) f)) ∧ ∀ st ∈ (rs.take i).filter p, R st (f st) H') ⟨same_upd hD, fun _ => .non, upd_same, fun st h => by cases h⟩ (fun i H' _ q => hG H' q.1) ?_ ?_
  · rintro i x H H' hi ⟨s1, f, hD1, hf⟩ y
    have hi' : i < rs.length := by omega
    have ez : rs[i]? = some rs[i] := List.getElem?_eq_getElem hi'
    have etk : rs.take (i + 1) = rs.take i ++ [rs[i]] := List.take_succ_eq_append_getElem hi'
    have hni : rs[i] ∉ rs.take i := by
      have := nd.sublist (List.take_sublist (i + 1) rs)
      rw [etk, List.nodup_append] at this
      exact fun h => this.2.2 _ h _ (List.mem_singleton.mpr rfl) rfl
    have hnf : rs[i] ∉ (rs.take i).filter p := fun h => hni (List.mem_filter.mp h).1
    refine hs i x rs[i] H H' _ _ ez s1 y (fun v H5 hp s5 hv => ?_) (fun H4 hp s4 => ?_)
    · have hD5 := s5 _ _ hD1
      refine ⟨_, .inr (sstr rs[i]), rfl, hD5, ?_, fun b o e => ?_, fun z => if z = rs[i] then v else f z, ?_, fun st hst => ?_⟩
      · rw [tab_len]
        have h1 := List.length_filter_le p (rs.take i)
        rw [List.length_take] at h1
        have h2 : (3000 : Nat) < sizeLine := by decide
        omega
      · rw [upd_ne (ne_of_none e hD)]
        exact s5 _ _ (s1 b o e)
      · rw [upd_same, etk, List.filter_append, List.filter_cons_of_pos hp, List.filter_nil, tab_snoc hnf]
      · rw [etk, List.filter_append, List.filter_cons_of_pos hp, List.filter_nil] at hst
        rcases List.mem_append.mp hst with h | h
        · have e : st ≠ rs[i] := fun e => hnf (e ▸ h)
          show R st (if st = rs[i] then v else f st) _
          rw [if_neg e]
          exact rU _ _ _ _ _ hD5 (rS _ _ _ _ s5 (hf st h))
        · rw [List.mem_singleton.mp h]
          show R _ (if rs[i] = rs[i] then v else f rs[i]) _
          rw [if_pos rfl]
          exact rU _ _ _ _ _ hD5 hv
    · have e2 : (rs.take (i + 1)).filter p = (rs.take i).filter p := by rw [etk, List.filter_append, List.filter_cons_of_neg (by rw [hp]; exact Bool.false_ne_true), List.filter_nil, List.append_nil]
      rw [e2]
      exact ⟨s1.trans s4, f, s4 _ _ hD1, fun st hst => rS _ _ _ _ s4 (hf st hst)⟩
  · rintro H ⟨s1, f, hD1, hf⟩
    rw [← hl, List.take_length] at hD1 hf
    exact hd H f s1 hD1 hf
/-- keys of a locked dict by standings -/
theorem walk_tabK {d : Addr} {o : Obj} {rs : List (List Bool)} {f : List Bool → V} : Walk (Itk d o (tabV rs f)) rs.length (fun H => H d = some (.frz o (.dK (tabV rs f)))) (fun i H x H' => H' = H ∧ ∃ st, rs[i]? = some st ∧ x = .str (sstr st)) := by
  rw [← tab_len rs f]
  refine (walk_keys (d := d) (o := o) (kvs := tabV rs f)).mono (fun H h => h) fun i H x H' _ _ y => ⟨y.1, ?_⟩
  obtain ⟨_, k, v, e, rfl⟩ := y
  obtain ⟨st, e1, rfl, rfl⟩ := tab_get e
  exact ⟨st, e1, rfl⟩
/-! ### pulls by standings, any of them -/
abbrev Pl := Int × List Bool
def plO (e : Pl) : HO := .tup [.int e.1, .str (sstr e.2)]
theorem plO_lst (b : Pl) (xs : List V) : plO b ≠ .lst xs := by intro z; cases z
structure PulG (H : Hp) (L : List Pl) (l : Addr) : Prop where
  h : ∃ ts : List (Addr × Pl), H l = some (.lst (ts.map fun t => V.ref t.1)) ∧ ts.map (·.2) = L ∧ ∀ t ∈ ts, H t.1 = some (plO t.2)
def LstTup : HO → Prop
  | .lst _ => True
  | .tup _ => True
  | _ => False
theorem PulG.keep {H H' : Hp} {L : List Pl} {l : Addr} (p : PulG H L l) (k : ∀ b o, LstTup o → H b = some o → H' b = some o) : PulG H' L l := by
  obtain ⟨ts, a, b, c⟩ := p.h
  exact ⟨⟨ts, k _ _ True.intro a, b, fun t ht => k _ _ True.intro (c t ht)⟩⟩
theorem PulG.same {H H' : Hp} {L : List Pl} {l : Addr} (p : PulG H L l) (s : Same H H') : PulG H' L l := p.keep fun b o _ e => s b o e
theorem lstTup_ne {H : Hp} {D b : Addr} {o u : HO} (hD : H D = some u) (hu : ¬ LstTup u) (t : LstTup o) (e : H b = some o) : b ≠ D := fun z => by
  subst z
  rw [e] at hD
  injection hD with hD
  exact hu (hD ▸ t)
theorem PulG.upd {H : Hp} {L : List Pl} {l D : Addr} {o u : HO} (p : PulG H L l) (hD : H D = some u) (hu : ¬ LstTup u) : PulG (upd H D o) L l := p.keep fun b z t e => by
  rw [upd_ne (lstTup_ne hD hu t e)]
  exact e
def PulsG (H : Hp) (rs : List (List Bool)) (F : List Bool → List Pl) (f : List Bool → V) : Prop := ∀ st ∈ rs, ∃ l, f st = .ref l ∧ PulG H (F st) l
theorem PulsG.keep {H H' : Hp} {rs : List (List Bool)} {F : List Bool → List Pl} {f : List Bool → V} (p : PulsG H rs F f) (k : ∀ b o, LstTup o → H b = some o → H' b = some o) : PulsG H' rs F f := fun st h => by
  obtain ⟨l, e, q⟩ := p st h
  exact ⟨l, e, q.keep k⟩
theorem PulsG.same {H H' : Hp} {rs : List (List Bool)} {F : List Bool → List Pl} {f : List Bool → V} (p : PulsG H rs F f) (s : Same H H') : PulsG H' rs F f := p.keep fun b o _ e => s b o e
theorem PulsG.upd {H : Hp} {rs : List (List Bool)} {F : List Bool → List Pl} {f : List Bool → V} {D : Addr} {o u : HO} (p : PulsG H rs F f) (hD : H D = some u) (hu : ¬ LstTup u) : PulsG (upd H D o) rs F f := p.keep fun b z t e => by
  rw [upd_ne (lstTup_ne hD hu t e)]
  exact e
def allP (bs : List Bar) (st : List Bool) : List Pl := (freeL bs st).map fun d => (d, flip st d)
theorem PulsAt.toG {H : Hp} {bs : List Bar} {rs : List (List Bool)} {f : List Bool → V} (p : PulsAt H bs rs f) : PulsG H rs (allP bs) f := fun st h => by
  obtain ⟨l, e, q⟩ := p st h
  obtain ⟨ts, h1, h2, h3⟩ := q.h
  refine ⟨l, e, ⟨⟨ts.map fun t => (t.1, (t.2, flip st t.2)), ?_, ?_, fun t ht => ?_⟩⟩⟩
  · rw [List.map_map]
    exact h1
  · unfold allP
    rw [← h2, List.map_map, List.map_map]
    rfl
  · obtain ⟨u, hu, rfl⟩ := List.mem_map.mp ht
    exact h3 u hu
/-- the standings are closed under the pulls F -/
structure Clo (rs : List (List Bool)) (F : List Bool → List Pl) : Prop where
  nd : rs.Nodup
  few : rs.length ≤ 128
  ex : ∀ st ∈ rs, ∀ e ∈ F st, e.2 ∈ rs
  fewP : ∀ st ∈ rs, (F st).length ≤ 7
theorem Reach.clo {bs : List Bar} {n : Nat} {rs : List (List Bool)} (R : Reach bs n rs) (n7 : n ≤ 7) : Clo rs (allP bs) := by
  refine ⟨R.nd, R.few, fun st h e he => ?_, fun st h => ?_⟩
  · obtain ⟨d, hd, rfl⟩ := List.mem_map.mp he
    exact R.ex st h d hd
  · unfold allP
    rw [List.length_map]
    have := free_len bs st
    have := R.len st h
    omega
theorem Clo.filter {rs : List (List Bool)} {F : List Bool → List Pl} (C : Clo rs F) (q : List Bool → Pl → Bool) : Clo rs fun st => (F st).filter (q st) := by
  refine ⟨C.nd, C.few, fun st h e he => C.ex st h e (List.mem_filter.mp he).1, fun st h => ?_⟩
  exact Nat.le_trans (List.length_filter_le _ _) (C.fewP st h)
end DL

set_option Elab.async false
set_option maxRecDepth 100000
set_option maxHeartbeats 2000000
namespace DL
open PySem L2 HT TL RZ
/-! ### pulls that agree with what was seen -/
def thV : Option Int → V
  | none => .non
  | some d => .int d
def agr (x : Option Int) (d : Int) : Bool := match x with
  | none => true
  | some e => decide (e = d)
theorem inV_agr (x : Option Int) (d : Int) : inV (thV x) [.non, .int d] = agr x d := by
  cases x with
  | none => rfl
  | some e =>
    show (false || ((d == e) || false)) = decide (e = d)
    rw [Bool.false_or, Bool.or_false]
    by_cases q : e = d
    · subst q
      simp
    · have q' : ¬ d = e := fun z => q z.symm
      simp [q, q']
theorem flat_th (x : Option Int) : flatV (thV x) = true := by cases x <;> rfl
def agP (x : Option Int) (F : List Bool → List Pl) (st : List Bool) : List Pl := (F st).filter fun e => agr x e.1
structure spAgr (vs : List V) (H : Hp) (Q : VK) (_ : XK) : Prop where
  h : ∃ (p : Addr) (od : Obj) (rs : List (List Bool)) (F : List Bool → List Pl) (f : List Bool → V) (x : Option Int), vs = [.ref p, thV x] ∧ H p = some (.frz od (.dK (tabV rs f))) ∧ Clo rs F ∧ PulsG H rs F f ∧
    ∀ (a : Addr) (f' : List Bool → V) (H' : Hp), H a = none → Same H H' → H' a = some (.dK (tabV rs f')) → PulsG H' rs (agP x F) f' → Q (.ref a) H'
structure spCtG (vs : List V) (H : Hp) (Q : VK) (_ : XK) : Prop where
  h : ∃ (p q : Addr) (rs : List (List Bool)) (F : List Bool → List Pl) (f : List Bool → V) (g : List Bool → Nat), vs = [.ref p, .ref q] ∧ H p = some (.dK (tabV rs f)) ∧ Clo rs F ∧ PulsG H rs F f ∧ H q = some (.dK (tabV rs (cnV g))) ∧ p ≠ q ∧
    ∀ (a : Addr) (H' : Hp), H a = none → H' a = some (.dK (tabV rs (cnV fun b => nSum (rs.map fun st => g st * ((F st).map (·.2)).count b)))) → (∀ b o, b ≠ p → b ≠ q → H b = some o → H' b = some o) → Q (.ref a) H'
section
variable {P : Program} {w : World} {K : PySem.W.Frag} {mg : Str → Option Value} {base : Heap}
abbrev nYag : List Str := ["pulls", "thing", "standing", "drawer", "beyond"]
theorem scYag : FnScope nYag ["pulls", "thing"] (defScope s_pulls_agreeing) := ⟨rfl, rfl, rfl, by decide +kernel, rfl, by decide +kernel, by decide +kernel⟩
theorem ok_agreeing {f : Addr} {fd : FuncData} (F : Fun K "pulls_agreeing" "pulls_agreeing" s_pulls_agreeing f fd) : FnOk P w K mg base CX0 1 f fd ["pulls", "thing"] spAgr := by
  refine F.ok scYag (fun vs H Q E h => ?_) (fun cdv A outer s H vs Q E hr h => ?_)
  · obtain ⟨p, od, rs, G, f, x, rfl, _⟩ := h.h
    rfl
  · obtain ⟨p, od, rs, G, f, x, rfl, hp, CC, PA, k⟩ := h.h
    have hu := hu_of hr
    refine ⟨_, pss_one (ps_ret (pe_dc (own := [("standing", 2)]) (g := gName 2) (tt := tYes) (by rfl) scYag.nd (pi_keys (pv 0)) (blkOk_by (N := nYag) (sc := defScope s_pulls_agreeing) (by decide +kernel))
      (fun _ _ _ _ _ => pg_name (i := 2) scYag.nd rfl (Or.inl rfl)) (fun _ _ _ _ _ => pts_nil) (fun _ _ _ _ _ => pv 2)
      (fun _ _ _ _ _ => by exact (pe_lc (own := [("drawer", 3), ("beyond", 4)]) (g := gTup K 2 (gCons (gName 3) (gCons (gName 4) gNil))) (by rfl) scYag.nd (pi_listK (K := K) rfl (pe_dget hu (pv 0) (pv 2) (fun _ _ => rfl))) (blkOk_by (N := nYag) (by rfl))
        (fun _ _ _ _ _ => pg_tupK (K := K) rfl rfl (pgs_cons (pg_name (i := 3) scYag.nd rfl (Or.inl rfl)) (pgs_cons (pg_name (i := 4) scYag.nd rfl (Or.inl rfl)) pgs_nil)))
        (fun _ _ _ _ _ => pts_one (pt_cmpR (op_in_seqK (K := K) rfl) (pv 1) (pe_tup (pa_cons pe_non (pa_cons (pv 3) pa_nil))) (by rfl)))
        (fun _ _ _ _ _ => pe_tup (pa_cons (pv 3) (pa_cons (pv 4) pa_nil))))))), ?_⟩
    refine ⟨_, rfl, p, od, rfl, .inl ⟨_, hp, fun D hD => ?_⟩⟩
    have hfew := CC.few
    refine dc_tab walk_tabK rs rfl CC.nd (by omega) (fun _ => true) (fun st v H => ∃ l, v = .ref l ∧ PulG H (agP x G st) l) hD (fun H' s => s _ _ hp) (fun st v H1 H2 s ⟨l, e, q⟩ => ⟨l, e, q.same s⟩) (fun st v H1 kvs o hD1 ⟨l, e, q⟩ => ⟨l, e, q.upd hD1 id⟩) ?_ ?_
    · rintro i z st H3 H3' Tk Nk est s3 ⟨rfl, st', est', rfl⟩ kT kF
      rw [est] at est'
      cases est'
      have hm := List.mem_of_getElem? est
      refine ⟨rfl, tYes_of (iteT ?_)⟩
      refine ⟨_, rfl, ?_⟩
      obtain ⟨l, el, pl⟩ := PA st hm
      obtain ⟨ts, hl, ets, hts⟩ := (pl.same s3).h
      have dg := dget_frz (.inr (sstr st)) (s3 _ _ hp)
      rw [tab_val, if_pos hm, el] at dg
      refine ⟨_, rfl, _, rfl, p, _, rfl, dg, l, rfl, ⟨_, SqL.of hl⟩, fun D2 hD2 => ?_⟩
      have hfP : ts.length ≤ 7 := by
        have := congrArg List.length ets
        rw [List.length_map] at this
        have := CC.fewP st hm
        omega
      refine lc_objs (walk_lst (K := K) (a := l) (l := ts) (f := fun t => V.ref t.1)) ts rfl (by omega) (fun t => agr x t.2.1) (fun t => t.2) plO plO_lst hD2 (fun H' s => s.seq (SqL.of hl)) ?_ ?_
      · rintro j y t H4 H4' Tk2 Nk2 et s4 ⟨rfl, t', et', rfl⟩ kT2 kF2
        rw [et] at et'
        cases et'
        have ht4 := s4 _ _ (hts t (List.mem_of_getElem? et))
        refine ⟨t.1, _, rfl, SqT.of' ht4, rfl, _, _, rfl, _, _, rfl, rfl, rfl, ?_⟩
        refine ⟨_, rfl, _, rfl, (by show 2 ≤ sizeLine; decide), fun q nq => ?_⟩
        obtain ⟨s5, f5⟩ := new_at (o := .tup [.non, .int t.2.1]) nq
        generalize upd H4' q (.tup [.non, .int t.2.1]) = H5 at s5 f5 ⊢
        refine ⟨q, _, rfl, .inr (SqT.of' f5), flat_th x, rfl, ?_⟩
        refine ⟨_, rfl, ?_⟩
        show if inV (thV x) [.non, .int t.2.1] = true then _ else _
        rw [inV_agr]
        cases e : agr x t.2.1 with
        | false => exact iteF (kF2 _ e s5)
        | true =>
          refine iteT ?_
          refine ⟨_, rfl, _, rfl, (by show 2 ≤ sizeLine; decide), fun r nr => ?_⟩
          exact kT2 r _ e (s5.trans (same_upd nr)) upd_same
      · intro H4 ts2 s4 hD4 e2 h2
        refine kT _ _ rfl (s4) ⟨D2, rfl, ⟨⟨ts2, hD4, ?_, h2⟩⟩⟩
        rw [e2]
        unfold agP
        rw [← ets, List.filter_map]
        rfl
    · intro H3 f' s3 hD3 h3
      rw [List.filter_eq_self.mpr fun _ _ => rfl] at hD3 h3
      exact k D f' H3 hD s3 hD3 h3
abbrev nYcg : List Str := ["pulls", "counts", "standing", "longer", "many", "_", "beyond"]
theorem scYcg : FnScope nYcg ["pulls", "counts"] (defScope s_counts_behind) := ⟨rfl, rfl, rfl, by decide +kernel, rfl, by decide +kernel, by decide +kernel⟩
theorem ok_countsG {f : Addr} {fd : FuncData} (F : Fun K "counts_behind" "counts_behind" s_counts_behind f fd) : FnOk P w K mg base CX0 1 f fd ["pulls", "counts"] spCtG := by
  refine F.ok scYcg (fun vs H Q E h => ?_) (fun cdv A outer s H vs Q E hr h => ?_)
  · obtain ⟨p, q, _, _, _, _, rfl, _⟩ := h.h
    rfl
  · obtain ⟨p, q, rs, G, f, g, rfl, hp, CC, PA, hq, npq, k⟩ := h.h
    have hu := hu_of hr
    refine ⟨_, pss_cons (ps_setDc (j := 3) (own := [("standing", 2)]) (g := gName 2) (tt := tYes) (by rfl) scYcg.nd rfl rfl (by rfl) (pi_keys (pe_frz (pv 0))) (blkOk_by (N := nYcg) (sc := defScope s_counts_behind) (by decide +kernel)) (fun _ _ _ _ _ => pg_name (i := 2) scYcg.nd rfl (Or.inl rfl)) (fun _ _ _ _ _ => pts_nil) (fun _ _ _ _ _ => pv 2) (fun _ _ _ _ _ => pe_int))
      (pss_cons (ps_for PassesOwn.never rfl (pi_items (pe_frz (pv 1))) (pg_tup (by rfl) (pgs_cons (pg_name (i := 2) scYcg.nd rfl (Or.inl rfl)) (pgs_cons (pg_name (i := 4) scYcg.nd rfl (Or.inl rfl)) pgs_nil)))
        (pss_one (ps_for PassesOwn.never rfl (pi_list (pe_dget hu (pv 0) (pv 2) (fun _ _ => rfl))) (pg_tup (by rfl) (pgs_cons (pg_name (i := 5) scYcg.nd rfl (Or.inl rfl)) (pgs_cons (pg_name (i := 6) scYcg.nd rfl (Or.inl rfl)) pgs_nil)))
          (pss_one (ps_augS (pv 3) (pv 6) (pget_dct hu) (pv 4) ip_add (set_dict hu))))))
      (pss_one (ps_ret (pv 3)))), ?_⟩
    have hfew := CC.few
    refine ⟨_, rfl, p, _, rfl, hp, trivial, fun od => ?_⟩
    have hp1 : (upd H p (.frz od (.dK (tabV rs f)))) p = some (.frz od (.dK (tabV rs f))) := upd_same
    have hq1 : (upd H p (.frz od (.dK (tabV rs f)))) q = some (.dK (tabV rs (cnV g))) := by rw [upd_ne npq.symm]; exact hq
    have PA1 : PulsG (upd H p (.frz od (.dK (tabV rs f)))) rs G f := PA.upd hp id
    have B1 : ∀ b o, b ≠ p → H b = some o → (upd H p (.frz od (.dK (tabV rs f)))) b = some o := fun b o hb e => by rw [upd_ne hb]; exact e
    have N1 : ∀ b, (upd H p (.frz od (.dK (tabV rs f)))) b = none → H b = none := fun b e => by
      by_cases z : b = p
      · rw [z, upd_same] at e
        cases e
      · rw [upd_ne z] at e
        exact e
    generalize upd H p (.frz od (.dK (tabV rs f))) = H1 at hp1 hq1 PA1 B1 N1 ⊢
    refine ⟨p, od, rfl, .inl ⟨_, hp1, fun D hD => ?_⟩⟩
    refine dc_tab walk_tabK rs rfl CC.nd (by omega) (fun _ => true) (fun st v _ => v = .int 0) hD (fun H' s => s _ _ hp1) (fun _ _ _ _ _ h => h) (fun _ _ _ _ _ _ h => h) ?_ ?_
    · rintro i x st H3 H3' Tk Nk est s3 ⟨rfl, st', est', rfl⟩ kT kF
      rw [est] at est'
      cases est'
      refine ⟨rfl, tYes_of (iteT ?_)⟩
      exact ⟨_, rfl, kT _ _ rfl (Same.refl _) rfl⟩
    · intro H3 f0 s3 hD3 h3
      rw [List.filter_eq_self.mpr fun _ _ => rfl] at hD3 h3
      have e0 : tabV rs f0 = tabV rs (cnV fun _ => 0) := by
        unfold tabV
        refine List.map_congr_left fun z hz => ?_
        rw [h3 z hz]
        rfl
      rw [e0] at hD3
      have hq3 := s3 _ _ hq1
      have hDq : D ≠ q := (ne_of_none hq1 hD).symm
      have hDp : D ≠ p := (ne_of_none hp1 hD).symm
      refine ⟨_, rfl, q, _, rfl, hq3, trivial, fun oq => ?_⟩
      have hq4 : (upd H3 q (.frz oq (.dK (tabV rs (cnV g))))) q = some (.frz oq (.dK (tabV rs (cnV g)))) := upd_same
      have hp4 : (upd H3 q (.frz oq (.dK (tabV rs (cnV g))))) p = some (.frz od (.dK (tabV rs f))) := by
        rw [upd_ne npq]
        exact s3 _ _ hp1
      have hD4 : (upd H3 q (.frz oq (.dK (tabV rs (cnV g))))) D = some (.dK (tabV rs (cnV fun _ => 0))) := by
        rw [upd_ne hDq]
        exact hD3
      have PA4 : PulsG (upd H3 q (.frz oq (.dK (tabV rs (cnV g))))) rs G f := (PA1.same s3).upd hq3 id
      have B4 : But q H1 (upd H3 q (.frz oq (.dK (tabV rs (cnV g))))) := fun b o hb e => by
        rw [upd_ne hb]
        exact s3 b o e
      generalize (upd H3 q (.frz oq (.dK (tabV rs (cnV g))))) = H4 at hq4 hp4 hD4 PA4 B4 ⊢
      refine ⟨q, oq, _, rfl, hq4, ?_⟩
      refine for_it walk_itemsT (fun i σ H' => (∃ u2 u4 u5 u6 : Option V, σ = [some (.ref p), some (.ref q), u2, some (.ref D), u4, u5, u6]) ∧ But D H4 H' ∧ H' D = some (.dK (tabV rs (cnV fun b => nSum ((rs.take i).map fun st => g st * ((G st).map (·.2)).count b)))))
        ⟨⟨_, _, _, _, rfl⟩, But.refl _ _, hD4⟩ (fun i σ H' _ z => z.2.1 _ _ hDq.symm hq4) ?_ ?_
      · rintro i x σ H5 H6 hi ⟨⟨u2, u4, u5, u6, rfl⟩, B5, hD5⟩ ⟨T', st, rfl, hT, rfl, est⟩
        have hm : st ∈ rs := List.mem_of_getElem? est
        obtain ⟨s6, f6⟩ := new_at (o := .tup [.str (sstr st), cnV g st]) hT
        generalize upd H5 T' (.tup [.str (sstr st), cnV g st]) = H6 at s6 f6 ⊢
        refine ⟨T', _, rfl, SqT.of' f6, rfl, _, _, rfl, _, _, rfl, rfl, ?_⟩
        have B6 := B5.trans (sbut s6)
        have hD6 := s6 _ _ hD5
        have hp6 := B6 _ _ hDp.symm hp4
        obtain ⟨l, el, pl⟩ := PA4 st hm
        obtain ⟨ts, hl4, ets, hts⟩ := pl.h
        have nlD : l ≠ D := ne_of hl4 hD4 (by intro z; cases z)
        have hl6 := B6 _ _ nlD hl4
        have dg := dget_frz (.inr (sstr st)) hp6
        rw [tab_val, if_pos hm, el] at dg
        refine ⟨_, rfl, _, rfl, p, _, rfl, dg, l, rfl, ⟨_, SqL.of hl6⟩, ?_⟩
        refine for_list (K := K) (a := l) (xs := ts.map fun t => V.ref t.1) (fun m σ H' => (∃ u5 u6 : Option V, σ = [some (.ref p), some (.ref q), some (.str (sstr st)), some (.ref D), some (cnV g st), u5, u6]) ∧ But D H4 H' ∧
            H' D = some (.dK (tabV rs (cnV fun b => nSum ((rs.take i).map fun st => g st * ((G st).map (·.2)).count b) + g st * (((G st).map (·.2)).take m).count b))))
          ⟨⟨_, _, rfl⟩, B6, hD6⟩ (fun m σ H' _ z => SqL.of (z.2.1 _ _ nlD hl4)) ?_ ?_
        · rintro m x σ H7 hx ⟨⟨u5, u6, rfl⟩, B7, hD7⟩
          rw [List.getElem?_map] at hx
          cases et : ts[m]? with
          | none => rw [et] at hx; cases hx
          | some t =>
            rw [et] at hx
            cases hx
            have htm := List.mem_of_getElem? et
            have ht4 := hts t htm
            have ht7 := B7 _ _ (ne_of ht4 hD4 (by intro z; cases z)) ht4
            have en : ((G st).map (·.2))[m]? = some t.2.2 := by
              rw [← ets, List.map_map, List.getElem?_map, et]
              rfl
            have hb : t.2.2 ∈ rs := CC.ex st hm t.2 (by rw [← ets]; exact List.mem_map_of_mem (f := (·.2)) htm)
            refine ⟨t.1, _, rfl, SqT.of' ht7, rfl, _, _, rfl, _, _, rfl, rfl, ?_⟩
            have dg7 := DGet.k (k := .inr (sstr t.2.2)) hD7
            rw [tab_val, if_pos hb] at dg7
            refine ⟨_, rfl, _, rfl, D, _, rfl, dg7, _, rfl, _, _, rfl, rfl, D, _, rfl, DPut.k (k := .inr (sstr t.2.2)) hD7 (by rw [tab_len]; exact small1000 (by omega)), ?_⟩
            refine ⟨⟨_, _, rfl⟩, fun b o hbD e => ?_, ?_⟩
            · rw [upd_ne hbD]
              exact B7 b o hbD e
            · rw [upd_same, tab_put hb]
              refine congrArg some (congrArg HO.dK ?_)
              unfold tabV
              refine List.map_congr_left fun z _ => congrArg (Prod.mk _) ?_
              simp only [cnV]
              rw [count_take z en]
              by_cases ez : z = t.2.2
              · subst ez
                rw [if_pos rfl, if_pos rfl, Nat.mul_add, Nat.mul_one]
                refine congrArg V.int ?_
                omega
              · rw [if_neg ez, if_neg (fun h => ez h.symm), Nat.add_zero]
        · rintro σ H7 ⟨⟨u5, u6, rfl⟩, B7, hD7⟩
          refine ⟨⟨_, _, _, _, rfl⟩, B7, ?_⟩
          rw [hD7]
          refine congrArg some (congrArg HO.dK (congrArg (tabV rs) (congrArg cnV (funext fun b => ?_))))
          rw [nSum_take _ _ est, List.length_map, List.take_of_length_le (l := (G st).map (·.2))]
          rw [List.length_map, ← ets, List.length_map]
          exact Nat.le_refl _
      · rintro σ H5 ⟨⟨u2, u4, u5, u6, rfl⟩, B5, hD5⟩
        rw [List.take_length] at hD5
        refine ⟨_, rfl, k D H5 (N1 D hD) hD5 fun b o hbp hbq e => ?_⟩
        have e1 := B1 b o hbp e
        exact B5 b o (ne_of_none e1 hD) (B4 b o hbq e1)
end
end DL

set_option Elab.async false
set_option maxRecDepth 100000
set_option maxHeartbeats 1000000

set_option Elab.async false
set_option maxRecDepth 100000
set_option maxHeartbeats 1000000
namespace DL
open PySem L2 HT TL RZ
/-! ### the law's tables -/
def iJ (J : It) : TI := fun _ H R => R J H
theorem for_itJ {J : It} {n : Nat} {Gd : Hp → Prop} {Y : Nat → Hp → V → Hp → Prop} {g : TG} {tb : TS} {D : Ends} {σ : L2.St} {H : Hp} (wk : Walk J n Gd Y) (Pv : Nat → L2.St → Hp → Prop) (p0 : Pv 0 σ H) (pG : ∀ i σ' H', i ≤ n → Pv i σ' H' → Gd H')
    (ps : ∀ i x σ' H1 H2, i < n → Pv i σ' H1 → Y i H1 x H2 → g x σ' H2 fun σ3 H3 => tb { D with nx := Pv (i + 1), ct := Pv (i + 1), bk := D.nx } σ3 H3) (pd : ∀ σ' H', Pv n σ' H' → D.nx σ' H') : tFor (iJ J) g tb D σ H :=
  for_it wk Pv p0 pG ps pd
end DL

set_option Elab.async false
set_option maxRecDepth 100000
set_option maxHeartbeats 1000000
namespace DL
open PySem L2 HT TL
/-! ### guards that are refused: pairs, numbers -/
def pairB (n : Int) (xs : List V) : Bool := setB n xs && decide (V.int (xs.length : Int) = V.int 2)
theorem kit_lt2 {K : PySem.W.Frag} : PySem.W.kitAny K (.type "list") [.type "list", .type "tuple"] = some true := by
  have e1 : PySem.W.kitOne K (.type "list") (.type "list") = some true := kit_ty (by decide +kernel)
  have e2 : PySem.W.kitOne K (.type "list") (.type "tuple") = some false := kit_ty (by decide +kernel)
  simp [PySem.W.kitAny, e1, e2]
structure spIsPair (K : PySem.W.Frag) (vs : List V) (H : Hp) (Q : VK) (_ : XK) : Prop where
  h : ∃ (n : Int) (v : V), vs = [.int n, v] ∧ ((∃ t : Value, TyX K H v t ∧ PySem.W.kitOne K t (.type "tuple") = some false ∧ Q (.bl false) H) ∨
    ∃ (a : Addr) (xs : List V), v = .ref a ∧ SqT K H a xs ∧ xs.length ≤ 1000 ∧ (∀ x ∈ xs, scV x = true) ∧ ∀ H', Same H H' → Q (.bl (pairB n xs)) H')
def GoodPair (K : PySem.W.Frag) (H : Hp) (n : Int) (y : V) : Prop := ∃ a xs, y = .ref a ∧ SqT K H a xs ∧ xs.length ≤ 1000 ∧ (∀ x ∈ xs, scV x = true) ∧ pairB n xs = true
def NoPair (K : PySem.W.Frag) (H : Hp) (n : Int) (y : V) : Prop := (∃ t : Value, TyX K H y t ∧ PySem.W.kitOne K t (.type "tuple") = some false) ∨
  ∃ a xs, y = .ref a ∧ SqT K H a xs ∧ xs.length ≤ 1000 ∧ (∀ x ∈ xs, scV x = true) ∧ pairB n xs = false
theorem GoodPair.same {K : PySem.W.Frag} {H H' : Hp} {n : Int} {y : V} (h : GoodPair K H n y) (s : Same H H') : GoodPair K H' n y := by
  obtain ⟨a, xs, e, S, r⟩ := h
  exact ⟨a, xs, e, SqT.same s S, r⟩
theorem GoodPair.sp {K : PySem.W.Frag} {H : Hp} {n : Int} {y : V} {Q : VK} {E : XK} (h : GoodPair K H n y) (k : ∀ H', Same H H' → Q (.bl true) H') : spIsPair K [.int n, y] H Q E := by
  obtain ⟨a, xs, rfl, S, hl, hs, e⟩ := h
  exact ⟨⟨n, _, rfl, .inr ⟨a, xs, rfl, S, hl, hs, fun H' s => by rw [e]; exact k H' s⟩⟩⟩
theorem NoPair.sp {K : PySem.W.Frag} {H : Hp} {n : Int} {y : V} {Q : VK} {E : XK} (h : NoPair K H n y) (k : ∀ H', Same H H' → Q (.bl false) H') : spIsPair K [.int n, y] H Q E := by
  rcases h with ⟨t, h1, h2⟩ | ⟨a, xs, rfl, S, hl, hs, e⟩
  · exact ⟨⟨n, _, rfl, .inl ⟨t, h1, h2, k H (Same.refl H)⟩⟩⟩
  · exact ⟨⟨n, _, rfl, .inr ⟨a, xs, rfl, S, hl, hs, fun H' s => by rw [e]; exact k H' s⟩⟩⟩
structure spCkNumX (K : PySem.W.Frag) (CN : Addr) (vs : List V) (H : Hp) (_ : VK) (E : XK) : Prop where
  h : ∃ (v : V) (m : Int), vs = [v, .int 0, .int m] ∧ ((∃ (t : Value) (b1 b2 : Bool), TyX K H v t ∧ PySem.W.kitOne K t (.type "int") = some b1 ∧ PySem.W.kitOne K t (.type "bool") = some b2 ∧ (b1 && !b2) = false) ∨ ∃ i : Int, v = .int i ∧ ¬ (0 ≤ i ∧ i ≤ m)) ∧
    exIni CN "n" v H E
structure spCkPrX (K : PySem.W.Frag) (C CP : Addr) (vs : List V) (H : Hp) (Q : VK) (E : XK) : Prop where
  h : ∃ (c : Addr) (v : V) (n : Int) (t : Addr), vs = [.ref c, v] ∧ CabAt C H c n t ∧
    ((∃ t, (∀ H', Same H H' → TyX K H' v t) ∧ PySem.W.kitAny K t [.type "list", .type "tuple"] = some false ∧ ∀ H', Same H H' → exIni CP "index" .non H' E) ∨
    (∃ l xs, v = .ref l ∧ SqL K H l xs ∧ (∀ H', Same H H' → TyX K H' v (.type "list")) ∧ (∀ y ∈ xs, GoodPair K H n y) ∧ ∀ H', Same H H' → Q .non H') ∨
    ∃ l pre x post, v = .ref l ∧ SqL K H l (pre ++ x :: post) ∧ (∀ H', Same H H' → TyX K H' v (.type "list")) ∧ pre.length ≤ 30 ∧ (∀ y ∈ pre, GoodPair K H n y) ∧ (∀ H', Same H H' → NoPair K H' n x) ∧ ∀ H', Same H H' → exIni CP "index" (.int pre.length) H' E)
structure spGuardsX (K : PySem.W.Frag) (C CT CP CN : Addr) (vs : List V) (H : Hp) (_ : VK) (E : XK) : Prop where
  h : ∃ (c : Addr) (v m : V) (n : Int) (t : Addr), vs = [.ref c, v, m] ∧ CabAt C H c n t ∧ ((4 < n ∧ ∀ H', Same H H' → exIni CT "most" (.int 4) H' E) ∨
    (n ≤ 4 ∧ ∀ H1, Same H H1 → spCkPrX K C CP [.ref c, v] H1 (fun _ H2 => spCkNumX K CN [m, .int 0, .int 2] H2 (fun _ _ => False) E) E))
section
variable {P : Program} {w : World} {K : PySem.W.Frag} {mg : Str → Option Value} {base : Heap}
theorem spGuardsX.imp {K : PySem.W.Frag} {C CT CP CN : Addr} {vs : List V} {H : Hp} {Q Q' : VK} {E E' : XK} (h : spGuardsX K C CT CP CN vs H Q E) (he : ∀ c d H', E c d H' → E' c d H') : spGuardsX K C CT CP CN vs H Q' E' := by
  have ex : ∀ D f x H', exIni D f x H' E → exIni D f x H' E' := fun D f x H' k d H2 h1 h2 h3 => he _ _ _ (k d H2 h1 h2 h3)
  obtain ⟨c, v, m, n, t, e, hc, h⟩ := h.h
  refine ⟨⟨c, v, m, n, t, e, hc, ?_⟩⟩
  rcases h with ⟨h4, k⟩ | ⟨h4, k⟩
  · exact .inl ⟨h4, fun H' s => ex _ _ _ _ (k H' s)⟩
  · refine .inr ⟨h4, fun H1 s1 => ?_⟩
    obtain ⟨c', v', n', t', e, hc', h⟩ := (k H1 s1).h
    refine ⟨⟨c', v', n', t', e, hc', ?_⟩⟩
    rcases h with ⟨t, h1, h2, k⟩ | ⟨l, xs, e2, h1, h2, h3, k⟩ | ⟨l, pre, x, post, e2, h1, h2, h3, h4, h5, k⟩
    · exact .inl ⟨t, h1, h2, fun H' s => ex _ _ _ _ (k H' s)⟩
    · refine .inr (.inl ⟨l, xs, e2, h1, h2, h3, fun H' s => ?_⟩)
      obtain ⟨v0, m0, e0, hm, hx⟩ := (k H' s).h
      exact ⟨⟨v0, m0, e0, hm, ex _ _ _ _ hx⟩⟩
    · exact .inr (.inr ⟨l, pre, x, post, e2, h1, h2, h3, h4, h5, fun H' s => ex _ _ _ _ (k H' s)⟩)
end
end DL

set_option Elab.async false
set_option maxRecDepth 100000
set_option maxHeartbeats 2000000
namespace DL
open PySem L2 HT TL RZ
/-! ### rows that agree, mathematics -/
def nxA (bs : List Bar) (x : Option Int) (st : List Bool) : List (List Bool) := (agP x (allP bs) st).map (·.2)
/-- the ends of the rows that agree, from the ends L on -/
def endsA (bs : List Bar) (L : List (List Bool)) (xs : List (Option Int)) : List (List Bool) := xs.foldl (fun L x => L.flatMap (nxA bs x)) L
theorem endsA_snoc (bs : List Bar) (L : List (List Bool)) (xs : List (Option Int)) (x : Option Int) : endsA bs L (xs ++ [x]) = (endsA bs L xs).flatMap (nxA bs x) := by unfold endsA; rw [List.foldl_append]; rfl
theorem endsA_take (bs : List Bar) (L : List (List Bool)) {xs : List (Option Int)} {i : Nat} {x : Option Int} (h : xs[i]? = some x) : endsA bs L (xs.take (i + 1)) = (endsA bs L (xs.take i)).flatMap (nxA bs x) := by
  obtain ⟨hi, e⟩ := List.getElem?_eq_some_iff.mp h
  rw [List.take_succ_eq_append_getElem hi, e, endsA_snoc]
theorem agP_sub {x : Option Int} {F : List Bool → List Pl} {st : List Bool} {e : Pl} (h : e ∈ agP x F st) : e ∈ F st := (List.mem_filter.mp h).1
theorem endsA_in {bs : List Bar} {rs : List (List Bool)} (ex : ∀ st ∈ rs, ∀ e ∈ allP bs st, e.2 ∈ rs) : ∀ (xs : List (Option Int)) (L : List (List Bool)), (∀ st ∈ L, st ∈ rs) → ∀ st ∈ endsA bs L xs, st ∈ rs
  | [], L, h => h
  | x :: xs, L, h => endsA_in ex xs _ fun st hm => by
    obtain ⟨s, hs, hm⟩ := List.mem_flatMap.mp hm
    obtain ⟨e, he, rfl⟩ := List.mem_map.mp hm
    exact ex s (h s hs) e (agP_sub he)
def okTh (n : Int) : Option Int → Prop
  | none => True
  | some d => 0 ≤ d ∧ d < n
/-- at l: the things that were seen, a list or a tuple -/
def SeenAt (H : Hp) (l : Addr) (xs : List (Option Int)) : Prop := H l = some (.lst (xs.map thV)) ∨ H l = some (.tup (xs.map thV))
theorem SeenAt.same {H H' : Hp} {l : Addr} {xs : List (Option Int)} (S : SeenAt H l xs) (s : Same H H') : SeenAt H' l xs := S.imp (s _ _) (s _ _)
theorem SeenAt.seqA {H : Hp} {l : Addr} {xs : List (Option Int)} (S : SeenAt H l xs) (K : PySem.W.Frag) : SqA K H l (xs.map thV) := S.imp (fun h => SqL.of h) fun h => SqT.of' h
structure spCkSeen0 (C : Addr) (vs : List V) (H : Hp) (Q : VK) (_ : XK) : Prop where
  h : ∃ (c l : Addr) (xs : List (Option Int)) (n : Int) (t : Addr), vs = [.ref c, .ref l] ∧ CabAt C H c n t ∧ SeenAt H l xs ∧ xs.length ≤ 60 ∧ (∀ x ∈ xs, okTh n x) ∧ ∀ H', Same H H' → Q .non H'
structure spAfter (C : Addr) (vs : List V) (H : Hp) (Q : VK) (_ : XK) : Prop where
  h : ∃ (c l : Addr) (bs : List Bar) (n : Nat) (xs : List (Option Int)), vs = [.ref c, .ref l] ∧ CabOk C H c n bs ∧ SeenAt H l xs ∧
    ∀ (a : Addr) (rs : List (List Bool)) (H' : Hp), H a = none → Same H H' → H' a = some (.dK (tabV rs (cnV fun b => (endsA bs [shutS n] xs).count b))) → Reach bs n rs → Q (.ref a) H'
structure spFitsMany (C : Addr) (vs : List V) (H : Hp) (Q : VK) (_ : XK) : Prop where
  h : ∃ (c l : Addr) (bs : List Bar) (n : Nat) (xs : List (Option Int)), vs = [.ref c, .ref l] ∧ CabOk C H c n bs ∧ SeenAt H l xs ∧ xs.length ≤ 60 ∧ (∀ x ∈ xs, okTh n x) ∧ ∀ H', Same H H' → Q (.int ((endsA bs [shutS n] xs).length : Nat)) H'
structure spStands (C : Addr) (vs : List V) (H : Hp) (Q : VK) (_ : XK) : Prop where
  h : ∃ (c l : Addr) (bs : List Bar) (n : Nat) (xs : List (Option Int)), vs = [.ref c, .ref l] ∧ CabOk C H c n bs ∧ SeenAt H l xs ∧ xs.length ≤ 60 ∧ (∀ x ∈ xs, okTh n x) ∧
    ∀ (a : Addr) (H' : Hp) (ks : List (List Bool)) (ys : List Str), Same H H' → ks.Nodup → (∀ b, b ∈ ks ↔ b ∈ endsA bs [shutS n] xs) → ys.Perm (ks.map sstr) → PyProof.Rows.sortedS ys = true → H' a = some (.lst (ys.map V.str)) → Q (.ref a) H'
def iOr (a b : TI) : TI := fun σ H R => a σ H R ∨ b σ H R
theorem pi_or {X : Cx} {tg e : Expr} {a b : TI} (ha : PI X tg e a) (hb : PI X tg e b) : PI X tg e (iOr a b) := ⟨fun pins s σ H R I h => h.elim (ha.run pins s σ H R I) (hb.run pins s σ H R I)⟩
theorem kit_tup2 {K : PySem.W.Frag} : PySem.W.kitAny K (.type "tuple") [.type "list", .type "tuple"] = some true := by
  have e1 : PySem.W.kitOne K (.type "tuple") (.type "list") = some false := kit_ty (by decide +kernel)
  have e2 : PySem.W.kitOne K (.type "tuple") (.type "tuple") = some true := kit_ty (by decide +kernel)
  simp [PySem.W.kitAny, e1, e2]
section
variable {P : Program} {w : World} {K : PySem.W.Frag} {mg : Str → Option Value} {base : Heap}
abbrev nYcs : List Str := ["cabinet", "seen", "index", "thing"]
theorem scYcs : FnScope nYcs ["cabinet", "seen"] (defScope s_check_seen) := ⟨rfl, rfl, rfl, by decide +kernel, rfl, by decide +kernel, by decide +kernel⟩
theorem ok_ckSeen0 {f f1 C : Addr} {fd fd1 : FuncData} (F : Fun K "check_seen" "check_seen" s_check_seen f fd) (T : Bt mg) (zL : mg "list" = none) (gM : ∃ t, mg "MOST_SEEN" = some (.int 60 t)) (CP : CabP P w K mg base C)
    (G1 : FnOk P w K mg base CX0 2 f1 fd1 ["drawers", "value"] (spIsDrawer K)) (g1 : mg "is_drawer" = some (.ref f1)) (k1 : PySem.W.keepIn K (.ref f1) = true) (b1 : Binds K fd1 ["drawers", "value"] []) :
    FnOk P w K mg base CX0 3 f fd ["cabinet", "seen"] (spCkSeen0 C) := by
  refine F.ok scYcs (fun vs H Q E h => ?_) (fun cdv A outer s H vs Q E hr h => ?_)
  · obtain ⟨c, l, xs, n, t, rfl, _⟩ := h.h
    rfl
  · obtain ⟨c, l, xs, n, t, rfl, ⟨dx, hc⟩, S, l60, ok, k⟩ := h.h
    obtain ⟨tM, gM⟩ := gM
    obtain ⟨pD, gD, fdD, hpD, GD, bD⟩ := CP.d
    refine ⟨_, pss_cons (ps_if (PW.pt (pw_or (pt_not (pt_val (pe_callB call_isiT (by rfl) T.isinstance (by decide +kernel) (pa_cons (pv 1) (pa_cons (pe_tup (pa_cons (pe_bltn (v := .ty "list") (by rfl) zL (by decide +kernel) rfl) (pa_cons (pe_bltn (v := .ty "tuple") (by rfl) T.tuple (by decide +kernel) rfl) pa_nil))) pa_nil)))))
        (pw_or1 (pt_cmpR op_gt (pe_callB call_len_seq (by rfl) T.len PySem.boot_len (pa_cons (pv 1) pa_nil)) (pe_glob (v := .int 60) rfl gM ⟨_, rfl⟩) (nomark _))))) (pss_one ps_never) pss_nil)
      (pss_one (ps_for PassesOwn.never rfl (pi_or (pi_enum (by rfl) T.enumerate (pa_cons (pv 1) pa_nil)) (pi_enumT (by rfl) T.enumerate (pa_cons (pv 1) pa_nil))) (pg_tup (by rfl) (pgs_cons (pg_name (i := 2) scYcs.nd rfl (.inl rfl)) (pgs_cons (pg_name (i := 3) scYcs.nd rfl (.inl rfl)) pgs_nil)))
        (pss_one (ps_if (PW.pt (pw_and (pt_cmpR op_notN (pv 3) pe_non (nomark _)) (pw_and1 (pt_not (pt_val (pe_call G1 (hr.mono (by decide)) rfl g1 k1 b1 .nil pass0 (pa_cons (pe_prop (pv 0) CP.cl hpD GD (hr.mono (by decide)) bD .nil pass0 rfl) (pa_cons (pv 3) pa_nil)))))))) (pss_one ps_never) pss_nil)))), ?_⟩
    refine ⟨_, rfl, (by show 2 ≤ sizeLine; decide), fun q hq => ?_⟩
    obtain ⟨s0, f0⟩ := new_at (o := .tup [.ty "list", .ty "tuple"]) hq
    generalize upd H q (.tup [.ty "list", .ty "tuple"]) = H0 at s0 f0 ⊢
    have S0 := S.same s0
    obtain ⟨tv, ty, kt⟩ : ∃ tv, TyX K H0 (.ref l) tv ∧ PySem.W.kitAny K tv [.type "list", .type "tuple"] = some true := by
      rcases S0 with h | h
      · exact ⟨_, .base (.lst h), kit_lt2⟩
      · exact ⟨_, .base (.tup h), kit_tup2⟩
    refine ⟨_, q, _, tv, _, true, rfl, f0, .cons (.ty "list") (.cons (.ty "tuple") .nil), ty, kt, _, rfl, iteF ?_⟩
    refine ⟨_, rfl, l, _, rfl, S0.seqA K, _, _, rfl, rfl, _, rfl, ?_⟩
    rw [List.length_map, decide_eq_false (by omega)]
    refine iteF ?_
    obtain ⟨J, Gd, wk, hG, hJ⟩ : ∃ (J : It) (Gd : Hp → Prop), Walk J xs.length Gd (YPair (fun i => some (.int (i : Nat))) (fun i => (xs.map thV)[i]?)) ∧ (∀ H', Same H0 H' → Gd H') ∧
        ∀ (g : TG) (tb : TS) (D : Ends) (σ : L2.St), σ[1]? = some (some (.ref l)) → tFor (iJ J) g tb D σ H0 → tFor (iOr (iEnum K (tCons (tVar 1) tNil)) (iEnumT K (tCons (tVar 1) tNil))) g tb D σ H0 := by
      rcases S0 with h | h
      · exact ⟨_, _, by rw [← List.length_map (f := thV)]; exact walk_enum, fun H' s1 => s1.seq (SqL.of h), fun g tb D σ e q => .inl ⟨_, e, l, _, rfl, SqL.of h, q⟩⟩
      · exact ⟨_, _, by rw [← List.length_map (f := thV)]; exact walk_enumT, fun H' s1 => SqT.same s1 (SqT.of' h), fun g tb D σ e q => .inr ⟨_, e, l, _, rfl, SqT.of' h, q⟩⟩
    refine hJ _ _ _ _ rfl ?_
    refine for_itJ wk (fun i σ H' => ∃ v2 v3, σ = [some (.ref c), some (.ref l), v2, v3] ∧ Same H0 H') ⟨_, _, rfl, Same.refl _⟩ (fun i σ H' _ ⟨_, _, _, s1⟩ => hG _ s1) ?_ (fun σ H' ⟨_, _, _, s1⟩ => k H' (s0.trans s1))
    rintro i y σ H1 H2 hi ⟨v2, v3, rfl, s1⟩ ⟨T', x1, x2, rfl, hT, rfl, e1, e2⟩
    have e1' : V.int (i : Nat) = x1 := Option.some.inj e1
    subst e1'
    have e2 : (xs.map thV)[i]? = some x2 := e2
    rw [List.getElem?_map] at e2
    cases ex : xs[i]? with
    | none => rw [ex] at e2; cases e2
    | some x =>
      rw [ex] at e2
      cases e2
      obtain ⟨s2, f2⟩ := new_at (o := .tup [.int (i : Nat), thV x]) hT
      generalize upd H1 T' (.tup [.int (i : Nat), thV x]) = H2 at s2 f2 ⊢
      have s12 := s1.trans s2
      refine ⟨T', _, rfl, SqT.of' f2, rfl, _, _, rfl, _, _, rfl, rfl, ?_⟩
      cases x with
      | none => exact ⟨_, rfl, rfl, _, rfl, iteF ⟨_, _, rfl, s12⟩⟩
      | some d =>
        have hd : 0 ≤ d ∧ d < n := ok _ (List.mem_of_getElem? ex)
        refine ⟨_, rfl, rfl, _, rfl, iteT ?_⟩
        have hc2 := s12 _ _ (s0 _ _ hc)
        refine ⟨_, rfl, c, dx, _, rfl, hc2, ⟨⟨c, dx, _, t, rfl, hc2, _, rfl, spIsDrawer_sc (n := n) (x := .int d) rfl ?_⟩⟩⟩
        refine ⟨_, rfl, ?_⟩
        have e : isD n (.int d) = true := by
          show (decide (0 ≤ d) && decide (d < n)) = true
          rw [decide_eq_true hd.1, decide_eq_true hd.2]
          rfl
        rw [e]
        exact iteF ⟨_, _, rfl, s12⟩
end
end DL

set_option Elab.async false
set_option maxRecDepth 100000
set_option maxHeartbeats 2000000
namespace DL
open PySem L2 HT TL RZ
theorem sqL_at' {K : PySem.W.Frag} {H H' : Hp} {q : Addr} {xs : List V} (S : SqL K H q xs) (e : H' q = H q) : SqL K H' q xs := by
  unfold SqL Rd at S ⊢
  rw [e]
  exact S
theorem sqT_at' {K : PySem.W.Frag} {H H' : Hp} {q : Addr} {xs : List V} (S : SqT K H q xs) (e : H' q = H q) : SqT K H' q xs := by
  unfold SqT Rd at S ⊢
  rw [e]
  exact S
theorem for_seqE {K : PySem.W.Frag} {α : Type} {l : List α} {f : α → V} {q : Addr} {i : Nat} {g : TG} {tb : TS} {D : Ends} {σ : L2.St} {H : Hp} (hi : σ[i]? = some (some (.ref q))) (S : SqA K H q (l.map f))
    (h : ∀ (J : It) (Gd : Hp → Prop) (Y : Nat → Hp → V → Hp → Prop), Walk J l.length Gd Y → (∀ H', H' q = H q → Gd H') → (∀ i H1 x H', Y i H1 x H' → H' = H1 ∧ ∃ z, l[i]? = some z ∧ x = f z) → tFor (iJ J) g tb D σ H) : tFor (iSeq K (tVar i)) g tb D σ H := by
  refine ⟨_, hi, q, rfl, ?_⟩
  rcases S with S | S
  · exact .inl ⟨⟨_, S⟩, h _ _ _ (walk_lst (K := K) (a := q) (l := l) (f := f)) (fun H' s => sqL_at' S s) fun _ _ _ _ y => y⟩
  · exact .inr ⟨⟨_, S⟩, h _ _ _ (walk_bars (K := K) (a := q) (l := l) (f := f)) (fun H' s => sqT_at' S s) fun _ _ _ _ y => y⟩
theorem SeenAt.some {H : Hp} {l : Addr} {xs : List (Option Int)} (S : SeenAt H l xs) : ∃ o, H l = some o := S.elim (fun h => ⟨_, h⟩) fun h => ⟨_, h⟩
theorem same_eq {H H1 H2 : Hp} {l : Addr} {o : HO} (s1 : Same H H1) (s2 : Same H H2) (e : H l = some o) : H2 l = H1 l := (s2 _ _ e).trans (s1 _ _ e).symm
theorem zero_tab {rs : List (List Bool)} {f : List Bool → V} (h : ∀ st ∈ rs, f st = .int 0) : tabV rs f = tabV rs (cnV fun _ => 0) := by
  unfold tabV
  refine List.map_congr_left fun z hz => ?_
  rw [h z hz]
  rfl
theorem one_tab (bs : List Bar) (n : Nat) (rs : List (List Bool)) : (tabV rs fun z => if z = shutS n then V.int 1 else cnV (fun _ => 0) z) = tabV rs (cnV fun b => (endsA bs [shutS n] []).count b) := by
  unfold tabV
  refine List.map_congr_left fun z _ => congrArg (Prod.mk _) ?_
  show (if z = shutS n then V.int 1 else V.int ((0 : Nat) : Int)) = V.int (([shutS n].count z : Nat) : Int)
  rw [List.count_cons, List.count_nil]
  by_cases ez : z = shutS n
  · subst ez
    simp
  · rw [if_neg ez]
    simp [Ne.symm ez]
theorem ends_count {bs : List Bar} {rs : List (List Bool)} (nd : rs.Nodup) {L : List (List Bool)} (hL : ∀ x ∈ L, x ∈ rs) (x : Option Int) (b : List Bool) : nSum (rs.map fun st => L.count st * ((agP x (allP bs) st).map (·.2)).count b) = (L.flatMap (nxA bs x)).count b := by
  rw [nSum_count rs nd (fun st => ((agP x (allP bs) st).map (·.2)).count b) L hL]
  exact (count_flat _ _ _).symm
theorem ends_all {rs : List (List Bool)} (nd : rs.Nodup) {L : List (List Bool)} (hL : ∀ x ∈ L, x ∈ rs) : nSum (rs.map fun st => L.count st) = L.length := by
  have := nSum_count rs nd (fun _ => 1) L hL
  simp only [Nat.mul_one] at this
  rw [this, len_sum]
theorem Reach.allIn {bs : List Bar} {n : Nat} {rs : List (List Bool)} (R : Reach bs n rs) : ∀ st ∈ rs, ∀ e ∈ allP bs st, e.2 ∈ rs := fun st h e he => by
  obtain ⟨d, hd, rfl⟩ := List.mem_map.mp he
  exact R.ex st h d hd
theorem Reach.ends {bs : List Bar} {n : Nat} {rs : List (List Bool)} (R : Reach bs n rs) (xs : List (Option Int)) : ∀ st ∈ endsA bs [shutS n] xs, st ∈ rs := endsA_in R.allIn xs _ fun st h => by
  rw [List.mem_singleton.mp h]
  exact R.root
section
variable {P : Program} {w : World} {K : PySem.W.Frag} {mg : Str → Option Value} {base : Heap}
abbrev nYca : List Str := ["cabinet", "seen", "pulls", "counts", "thing", "standing"]
theorem scYca : FnScope nYca ["cabinet", "seen"] (defScope s_counts_after) := ⟨rfl, rfl, rfl, by decide +kernel, rfl, by decide +kernel, by decide +kernel⟩
theorem ok_countsAfter {f f1 f2 f3 f4 C : Addr} {fd fd1 fd2 fd3 fd4 : FuncData} (F : Fun K "counts_after" "counts_after" s_counts_after f fd) (CP : CabP P w K mg base C)
    (G1 : FnOk P w K mg base CX0 14 f1 fd1 ["cabinet"] (spPulls C)) (g1 : mg "reached_pulls" = some (.ref f1)) (k1 : PySem.W.keepIn K (.ref f1) = true) (b1 : Binds K fd1 ["cabinet"] [])
    (G2 : FnOk P w K mg base CX0 1 f2 fd2 ["drawers"] spFirst) (g2 : mg "first_standing" = some (.ref f2)) (k2 : PySem.W.keepIn K (.ref f2) = true) (b2 : Binds K fd2 ["drawers"] [])
    (G3 : FnOk P w K mg base CX0 1 f3 fd3 ["pulls", "counts"] spCtG) (g3 : mg "counts_behind" = some (.ref f3)) (k3 : PySem.W.keepIn K (.ref f3) = true) (b3 : Binds K fd3 ["pulls", "counts"] [])
    (G4 : FnOk P w K mg base CX0 1 f4 fd4 ["pulls", "thing"] spAgr) (g4 : mg "pulls_agreeing" = some (.ref f4)) (k4 : PySem.W.keepIn K (.ref f4) = true) (b4 : Binds K fd4 ["pulls", "thing"] []) :
    FnOk P w K mg base CX0 16 f fd ["cabinet", "seen"] (spAfter C) := by
  refine F.ok scYca (fun vs H Q E h => ?_) (fun cdv A outer s H vs Q E hr h => ?_)
  · obtain ⟨c, l, bs, n, xs, rfl, _⟩ := h.h
    rfl
  · obtain ⟨c, l, bs, n, xs, rfl, B, S, k⟩ := h.h
    have hu := hu_of hr
    obtain ⟨tc, ⟨dx, hc⟩, n7⟩ := B.cab
    have n1 : 1 ≤ n := by
      obtain ⟨_, _, _, _, _, _, q, _⟩ := B.h
      omega
    obtain ⟨pD, gD, fdD, hpD, GD, bD⟩ := CP.d
    refine ⟨_, pss_cons (ps_set (i := 2) scYca.nd rfl (Or.inl rfl) (pe_call G1 (hr.mono (by decide)) rfl g1 k1 b1 .nil pass0 (pa_cons (pv 0) pa_nil)))
      (pss_cons (ps_setDc (j := 3) (own := [("standing", 5)]) (g := gName 5) (tt := tYes) (by rfl) scYca.nd rfl rfl (by rfl) (pi_keys (pe_frz (pv 2))) (blkOk_by (N := nYca) (sc := defScope s_counts_after) (by decide +kernel)) (fun _ _ _ _ _ => pg_name (i := 5) scYca.nd rfl (Or.inl rfl)) (fun _ _ _ _ _ => pts_nil) (fun _ _ _ _ _ => pv 5) (fun _ _ _ _ _ => pe_int))
      (pss_cons (ps_asg pe_int (pg_sub (pv 3) (pe_call G2 (hr.mono (by decide)) rfl g2 k2 b2 .nil pass0 (pa_cons (pe_prop (pv 0) CP.cl hpD GD (hr.mono (by decide)) bD .nil pass0 rfl) pa_nil)) (set_dict hu)))
      (pss_cons (ps_for PassesOwn.never rfl (pi_seq (K := K) rfl (pv 1)) (pg_name (i := 4) scYca.nd rfl (Or.inl rfl))
        (pss_one (ps_set (i := 3) scYca.nd rfl (Or.inl rfl) (pe_call G3 (hr.mono (by decide)) rfl g3 k3 b3 .nil pass0 (pa_cons (pe_call G4 (hr.mono (by decide)) rfl g4 k4 b4 .nil pass0 (pa_cons (pv 2) (pa_cons (pv 4) pa_nil))) (pa_cons (pv 3) pa_nil))))))
      (pss_one (ps_ret (pv 3)))))), ?_⟩
    refine ⟨_, rfl, ⟨⟨c, bs, n, rfl, B, fun p rs f H1 hp0 s1 hp1 RR PA1 => ?_⟩⟩⟩
    refine ⟨_, rfl, p, _, rfl, hp1, trivial, fun od => ?_⟩
    have s2 : Same H (upd H1 p (.frz od (.dK (tabV rs f)))) := fun b o e => by
      rw [upd_ne (ne_of_none e hp0)]
      exact s1 b o e
    have hp : (upd H1 p (.frz od (.dK (tabV rs f)))) p = some (.frz od (.dK (tabV rs f))) := upd_same
    have PA : PulsG (upd H1 p (.frz od (.dK (tabV rs f)))) rs (allP bs) f := PA1.toG.upd hp1 id
    generalize (upd H1 p (.frz od (.dK (tabV rs f)))) = H2 at s2 hp PA ⊢
    refine ⟨p, od, rfl, .inl ⟨_, hp, fun D hD => ?_⟩⟩
    have hfew := RR.few
    refine dc_tab walk_tabK rs rfl RR.nd (by omega) (fun _ => true) (fun st v _ => v = .int 0) hD (fun H' s => s _ _ hp) (fun _ _ _ _ _ h => h) (fun _ _ _ _ _ _ h => h) ?_ ?_
    · rintro i x st H3 H3' Tk Nk est s3 ⟨rfl, st', est', rfl⟩ kT kF
      rw [est] at est'
      cases est'
      refine ⟨rfl, tYes_of (iteT ?_)⟩
      exact ⟨_, rfl, kT _ _ rfl (Same.refl _) rfl⟩
    · intro H3 f0 s3 hD3 h3
      rw [List.filter_eq_self.mpr fun _ _ => rfl] at hD3 h3
      rw [zero_tab h3] at hD3
      have s23 := s2.trans s3
      have hc3 := s23 _ _ hc
      refine ⟨_, rfl, _, rfl, c, dx, _, rfl, hc3, ⟨⟨c, dx, _, tc, rfl, hc3, ⟨⟨n, rfl, n1, by omega, ?_⟩⟩⟩⟩⟩
      refine ⟨D, _, rfl, DPut.k (k := .inr (sstr (shutS n))) hD3 (by rw [tab_len]; exact small1000 (by omega)), ?_⟩
      rw [tab_put RR.root, one_tab bs n rs]
      have Bd : Same H2 (upd H3 D (.dK (tabV rs (cnV fun b => (endsA bs [shutS n] []).count b)))) := fun b o e => by
        rw [upd_ne (ne_of_none e hD)]
        exact s3 b o e
      have hD4 : (upd H3 D (.dK (tabV rs (cnV fun b => (endsA bs [shutS n] []).count b)))) D = some (.dK (tabV rs (cnV fun b => (endsA bs [shutS n] []).count b))) := upd_same
      generalize (upd H3 D (.dK (tabV rs (cnV fun b => (endsA bs [shutS n] []).count b)))) = H4 at Bd hD4 ⊢
      have S2 := S.same s2
      obtain ⟨ol, el⟩ := S2.some
      refine for_seqE (K := K) (l := xs) (f := thV) rfl ((S2.same Bd).seqA K) fun J Gd Y wk hG hY => ?_
      refine for_itJ wk (fun i σ H' => ∃ (q : Addr) (u4 u5 : Option V), σ = [some (.ref c), some (.ref l), some (.ref p), some (.ref q), u4, u5] ∧ H2 q = none ∧ Same H2 H' ∧ H' q = some (.dK (tabV rs (cnV fun b => (endsA bs [shutS n] (xs.take i)).count b))))
        ⟨D, _, _, rfl, hD, Bd, hD4⟩ (fun i σ H' _ ⟨_, _, _, _, _, s5, _⟩ => hG H' (same_eq Bd s5 el)) ?_ ?_
      · rintro i x σ H5 H5' hi ⟨q, u4, u5, rfl, hq2, s5, hq5⟩ hy
        obtain ⟨rfl, x0, ex, rfl⟩ := hY _ _ _ _ hy
        refine ⟨_, rfl, _, rfl, ⟨⟨p, od, rs, allP bs, f, x0, rfl, s5 _ _ hp, RR.clo (by omega), PA.same s5, fun ag fa H6 ha s6 hA PG => ?_⟩⟩⟩
        have npq : ag ≠ q := (ne_of_none hq5 ha).symm
        refine ⟨_, rfl, ⟨⟨ag, q, rs, agP x0 (allP bs), fa, fun b => (endsA bs [shutS n] (xs.take i)).count b, rfl, hA, (RR.clo (by omega)).filter fun _ e => agr x0 e.1, PG, s6 _ _ hq5, npq, fun a H7 ha7 hA7 B7 => ?_⟩⟩⟩
        have s67 : Same H2 H7 := fun b o e => B7 b o (ne_of_none (s5 b o e) ha) (ne_of_none e hq2) (s6 _ _ (s5 b o e))
        refine ⟨a, _, _, rfl, none_back (s5.trans s6) ha7, s67, ?_⟩
        rw [hA7]
        refine congrArg some (congrArg HO.dK (congrArg (tabV rs) (congrArg cnV (funext fun b => ?_))))
        rw [endsA_take bs _ ex]
        exact ends_count RR.nd (RR.ends _) x0 b
      · rintro σ H5 ⟨q, u4, u5, rfl, hq2, s5, hq5⟩
        rw [List.take_length] at hq5
        exact ⟨_, rfl, k q rs H5 (none_back s2 hq2) (s2.trans s5) hq5 RR⟩
abbrev nYfm : List Str := ["cabinet", "seen"]
theorem scYfm : FnScope nYfm ["cabinet", "seen"] (defScope s_fits_many) := ⟨rfl, rfl, rfl, by decide +kernel, rfl, by decide +kernel, by decide +kernel⟩
theorem ok_fitsMany {f f1 f2 f3 C : Addr} {fd fd1 fd2 fd3 : FuncData} (F : Fun K "fits_many" "fits_many" s_fits_many f fd) (zS : mg "sum" = none) (zL : mg "list" = none)
    (G1 : FnOk P w K mg base CX0 1 f1 fd1 ["cabinet"] (spCkCab C)) (g1 : mg "check_cabinet" = some (.ref f1)) (k1 : PySem.W.keepIn K (.ref f1) = true) (b1 : Binds K fd1 ["cabinet"] [])
    (G2 : FnOk P w K mg base CX0 3 f2 fd2 ["cabinet", "seen"] (spCkSeen0 C)) (g2 : mg "check_seen" = some (.ref f2)) (k2 : PySem.W.keepIn K (.ref f2) = true) (b2 : Binds K fd2 ["cabinet", "seen"] [])
    (G3 : FnOk P w K mg base CX0 16 f3 fd3 ["cabinet", "seen"] (spAfter C)) (g3 : mg "counts_after" = some (.ref f3)) (k3 : PySem.W.keepIn K (.ref f3) = true) (b3 : Binds K fd3 ["cabinet", "seen"] []) :
    FnOk P w K mg base CX0 18 f fd ["cabinet", "seen"] (spFitsMany C) := by
  refine F.ok scYfm (fun vs H Q E h => ?_) (fun cdv A outer s H vs Q E hr h => ?_)
  · obtain ⟨c, l, bs, n, xs, rfl, _⟩ := h.h
    rfl
  · obtain ⟨c, l, bs, n, xs, rfl, B, S, l60, ok, k⟩ := h.h
    obtain ⟨tc, hc, n7⟩ := B.cab
    refine ⟨_, pss_cons (ps_expr (pe_call G1 (hr.mono (by decide)) rfl g1 k1 b1 .nil pass0 (pa_cons (pv 0) pa_nil)))
      (pss_cons (ps_expr (pe_call G2 (hr.mono (by decide)) rfl g2 k2 b2 .nil pass0 (pa_cons (pv 0) (pa_cons (pv 1) pa_nil))))
      (pss_one (ps_ret (pe_callB (cr_sum rfl) (by rfl) zS sum_boot (pa_cons (pe_callTy (cr_listVw rfl) (by rfl) zL (by decide +kernel) (pa_cons (pe_vw (pe_frz (pe_call G3 (hr.mono (by decide)) rfl g3 k3 b3 .nil pass0 (pa_cons (pv 0) (pa_cons (pv 1) pa_nil))))) pa_nil)) pa_nil))))), ?_⟩
    refine ⟨_, rfl, ⟨⟨c, _, tc, rfl, hc, ?_⟩⟩⟩
    refine ⟨_, rfl, _, rfl, ⟨⟨c, l, xs, n, tc, rfl, hc, S, l60, ok, fun H0 s0 => ?_⟩⟩⟩
    refine ⟨_, rfl, _, rfl, ⟨⟨c, l, bs, n, xs, rfl, B.same s0, S.same s0, fun a rs H1 ha s1 hA RR => ?_⟩⟩⟩
    refine ⟨a, _, rfl, hA, trivial, fun od => ?_⟩
    have s2 : Same H (upd H1 a (.frz od (.dK (tabV rs (cnV fun b => (endsA bs [shutS n] xs).count b))))) := fun b o e => by
      have e0 := s0 b o e
      rw [upd_ne (ne_of_none e0 ha)]
      exact s1 b o e0
    have f2 : (upd H1 a (.frz od (.dK (tabV rs (cnV fun b => (endsA bs [shutS n] xs).count b))))) a = some (.frz od (.dK (tabV rs (cnV fun b => (endsA bs [shutS n] xs).count b)))) := upd_same
    generalize (upd H1 a (.frz od (.dK (tabV rs (cnV fun b => (endsA bs [shutS n] xs).count b))))) = H2 at s2 f2 ⊢
    have hfew := RR.few
    refine ⟨a, od, _, rfl, f2, fun v nv => ?_⟩
    obtain ⟨s3, f3⟩ := new_at (o := viewO "dict_values" v a) nv
    generalize upd H2 v (viewO "dict_values" v a) = H3 at s3 f3 ⊢
    refine ⟨v, a, od, _, rfl, f3, s3 _ _ f2, by rw [tab_len]; exact Nat.le_of_lt (small1000 (by omega)), fun l nl => ?_⟩
    rw [tab_snd]
    obtain ⟨s4, f4⟩ := new_at (o := .lst (rs.map (cnV fun b => (endsA bs [shutS n] xs).count b))) nl
    generalize upd H3 l (.lst (rs.map (cnV fun b => (endsA bs [shutS n] xs).count b))) = H4 at s4 f4 ⊢
    refine ⟨l, (rs.map fun b => (endsA bs [shutS n] xs).count b).map fun x : Nat => (x : Int), rfl, SqL.of (by rw [f4, List.map_map, List.map_map]; rfl), ?_⟩
    rw [int_sum, ends_all RR.nd (RR.ends xs)]
    exact k H4 ((s2.trans s3).trans s4)
abbrev nYsa : List Str := ["cabinet", "seen", "standing", "many"]
theorem scYsa : FnScope nYsa ["cabinet", "seen"] (defScope s_stands_after) := ⟨rfl, rfl, rfl, by decide +kernel, rfl, by decide +kernel, by decide +kernel⟩
theorem ok_standsAfter {f f1 f2 f3 C : Addr} {fd fd1 fd2 fd3 : FuncData} (F : Fun K "stands_after" "stands_after" s_stands_after f fd) (T : Bt mg)
    (G1 : FnOk P w K mg base CX0 1 f1 fd1 ["cabinet"] (spCkCab C)) (g1 : mg "check_cabinet" = some (.ref f1)) (k1 : PySem.W.keepIn K (.ref f1) = true) (b1 : Binds K fd1 ["cabinet"] [])
    (G2 : FnOk P w K mg base CX0 3 f2 fd2 ["cabinet", "seen"] (spCkSeen0 C)) (g2 : mg "check_seen" = some (.ref f2)) (k2 : PySem.W.keepIn K (.ref f2) = true) (b2 : Binds K fd2 ["cabinet", "seen"] [])
    (G3 : FnOk P w K mg base CX0 16 f3 fd3 ["cabinet", "seen"] (spAfter C)) (g3 : mg "counts_after" = some (.ref f3)) (k3 : PySem.W.keepIn K (.ref f3) = true) (b3 : Binds K fd3 ["cabinet", "seen"] []) :
    FnOk P w K mg base CX0 18 f fd ["cabinet", "seen"] (spStands C) := by
  refine F.ok scYsa (fun vs H Q E h => ?_) (fun cdv A outer s H vs Q E hr h => ?_)
  · obtain ⟨c, l, bs, n, xs, rfl, _⟩ := h.h
    rfl
  · obtain ⟨c, l, bs, n, xs, rfl, B, S, l60, ok, k⟩ := h.h
    obtain ⟨tc, hc, n7⟩ := B.cab
    refine ⟨_, pss_cons (ps_expr (pe_call G1 (hr.mono (by decide)) rfl g1 k1 b1 .nil pass0 (pa_cons (pv 0) pa_nil)))
      (pss_cons (ps_expr (pe_call G2 (hr.mono (by decide)) rfl g2 k2 b2 .nil pass0 (pa_cons (pv 0) (pa_cons (pv 1) pa_nil))))
      (pss_one (ps_ret (pe_callB cr_sortSA (by rfl) T.sorted (by decide +kernel) (pa_cons
        (pe_lc (own := [("standing", 2), ("many", 3)]) (g := gTup K 2 (gCons (gName 2) (gCons (gName 3) gNil))) (by rfl) scYsa.nd (pi_items (pe_frz (pe_call G3 (hr.mono (by decide)) rfl g3 k3 b3 .nil pass0 (pa_cons (pv 0) (pa_cons (pv 1) pa_nil))))) (blkOk_by (N := nYsa) (sc := defScope s_stands_after) (by decide +kernel))
          (fun _ _ _ _ _ => pg_tupK (K := K) rfl rfl (pgs_cons (pg_name (i := 2) scYsa.nd rfl (Or.inl rfl)) (pgs_cons (pg_name (i := 3) scYsa.nd rfl (Or.inl rfl)) pgs_nil)))
          (fun _ _ _ _ _ => pts_one (pt_cmpR op_gt (pv 3) pe_int (nomark _))) (fun _ _ _ _ _ => pv 2)) pa_nil))))), ?_⟩
    refine ⟨_, rfl, ⟨⟨c, _, tc, rfl, hc, ?_⟩⟩⟩
    refine ⟨_, rfl, _, rfl, ⟨⟨c, l, xs, n, tc, rfl, hc, S, l60, ok, fun H0 s0 => ?_⟩⟩⟩
    refine ⟨_, rfl, _, rfl, ⟨⟨c, l, bs, n, xs, rfl, B.same s0, S.same s0, fun a rs H1 ha s1 hA RR => ?_⟩⟩⟩
    refine ⟨a, _, rfl, hA, trivial, fun od => ?_⟩
    have s2 : Same H (upd H1 a (.frz od (.dK (tabV rs (cnV fun b => (endsA bs [shutS n] xs).count b))))) := fun b o e => by
      have e0 := s0 b o e
      rw [upd_ne (ne_of_none e0 ha)]
      exact s1 b o e0
    have f2 : (upd H1 a (.frz od (.dK (tabV rs (cnV fun b => (endsA bs [shutS n] xs).count b))))) a = some (.frz od (.dK (tabV rs (cnV fun b => (endsA bs [shutS n] xs).count b)))) := upd_same
    generalize (upd H1 a (.frz od (.dK (tabV rs (cnV fun b => (endsA bs [shutS n] xs).count b))))) = H2 at s2 f2 ⊢
    have hfew := RR.few
    refine ⟨a, od, _, rfl, f2, fun D hD => ?_⟩
    refine lc_pick walk_itemsT rs rfl (by omega) (fun st => decide (st ∈ endsA bs [shutS n] xs)) (fun st => V.str (sstr st)) hD (fun H' s => s _ _ f2) ?_ ?_
    · rintro i x z H4 H4' Tk Nk ez s4 ⟨Tt, st, rfl, hT, rfl, est⟩ kT kF
      rw [ez] at est
      cases est
      have s5 := same_upd (o := .tup [.str (sstr z), cnV (fun b => (endsA bs [shutS n] xs).count b) z]) hT
      refine ⟨Tt, _, rfl, SqT.of' upd_same, rfl, _, _, rfl, _, _, rfl, rfl, rfl, ?_⟩
      refine ⟨_, rfl, _, _, rfl, rfl, _, rfl, ?_⟩
      by_cases m : z ∈ endsA bs [shutS n] xs
      · have pos : (0 : Int) < (((endsA bs [shutS n] xs).count z : Nat) : Int) := by
          have := List.count_pos_iff.mpr m
          omega
        rw [decide_eq_true pos]
        exact iteT ⟨_, rfl, kT _ (decide_eq_true m) s5⟩
      · have e0 := List.count_eq_zero.mpr m
        have neg : ¬ (0 : Int) < (((endsA bs [shutS n] xs).count z : Nat) : Int) := by
          rw [e0]
          decide
        rw [decide_eq_false neg]
        exact iteF (kF _ (decide_eq_false m) s5)
    · intro H3 s3 hD3
      refine ⟨D, (rs.filter fun st => decide (st ∈ endsA bs [shutS n] xs)).map sstr, rfl, SqL.of (by rw [hD3, List.map_map]; rfl), fun ys p pm so hp => ?_⟩
      refine k p _ _ ys ((s2.trans s3).trans (same_upd hp)) (RR.nd.sublist List.filter_sublist) (fun b => ?_) pm so upd_same
      rw [List.mem_filter, decide_eq_true_eq]
      exact ⟨fun h => h.2, fun h => ⟨RR.ends xs b h, h⟩⟩
end
end DL

set_option Elab.async false
set_option maxRecDepth 100000
set_option maxHeartbeats 2000000
namespace DL
open PySem L2 HT TL RZ
/-! ### rules: reversed(list or tuple), the truth of a value within a block -/
theorem walk_revT {K : PySem.W.Frag} {a : Addr} {xs : List V} : Walk (RT.ItvT K a xs.length) xs.length (fun H => SqT K H a xs) (fun i H x H' => H' = H ∧ xs[xs.length - 1 - i]? = some x) :=
  ⟨fun i _ hi q => ⟨hi, xs, xs[xs.length - 1 - i]'(by omega), q, List.getElem?_eq_getElem _⟩, fun _ _ => Nat.le_refl _, fun _ _ _ _ _ q y => ⟨y.1, y.2 xs q⟩⟩
theorem for_revE {K : PySem.W.Frag} {α : Type} {l : List α} {f : α → V} {q : Addr} {i : Nat} {g : TG} {tb : TS} {D : Ends} {σ : L2.St} {H : Hp} (hi : σ[i]? = some (some (.ref q))) (S : SqA K H q (l.map f))
    (h : ∀ (J : It) (Gd : Hp → Prop) (Y : Nat → Hp → V → Hp → Prop), Walk J l.length Gd Y → (∀ H', H' q = H q → Gd H') → (∀ i H1 x H', Y i H1 x H' → H' = H1 ∧ ∃ z, l[l.length - 1 - i]? = some z ∧ x = f z) → tFor (iJ J) g tb D σ H) : tFor (RT.iRevA K (tVar i)) g tb D σ H := by
  have read : ∀ (i : Nat) (H1 H' : Hp) (x : V), (H' = H1 ∧ (l.map f)[(l.map f).length - 1 - i]? = some x) → H' = H1 ∧ ∃ z, l[l.length - 1 - i]? = some z ∧ x = f z := fun i H1 H' x ⟨e, y⟩ => by
    rw [List.getElem?_map, List.length_map] at y
    cases ez : l[l.length - 1 - i]? with
    | none => rw [ez] at y; cases y
    | some z =>
      rw [ez] at y
      cases y
      exact ⟨e, z, rfl, rfl⟩
  refine ⟨_, hi, q, l.map f, rfl, ?_⟩
  rcases S with S | S
  · exact .inl ⟨S, h _ _ _ (by rw [← List.length_map (f := f)]; exact walk_rev) (fun H' s => sqL_at' S s) fun _ _ _ _ y => read _ _ _ _ y⟩
  · exact .inr ⟨S, h _ _ _ (by rw [← List.length_map (f := f)]; exact walk_revT) (fun H' s => sqT_at' S s) fun _ _ _ _ y => read _ _ _ _ y⟩
def tTruth (K : PySem.W.Frag) (ta : TE) : TT := fun σ H Q => ta σ H fun x H' => ∃ k, TruV K x H' k ∧ Q k H'
theorem pt_truthK {X : Cx} {K : PySem.W.Frag} {a : Expr} {ta : TE} (hK : X.K = K) (ha : PE X a ta) (he : ∀ whole, isTrue a X.env whole = (do let v ← whole; standAt a.pos; holding [v] (truthy v)) := by intro _; rfl) : PT X a (tTruth K ta) := by subst hK; exact pt_truth ha he
/-! ### what can be pulled on, mathematics -/
def canF (bs : List Bar) : List (Option Int) → List Bool → Bool
  | [], _ => true
  | x :: xs, st => (agP x (allP bs) st).any fun e => canF bs xs e.2
def onw (bs : List Bar) (x : Option Int) (xs : List (Option Int)) (st : List Bool) : List Pl := (agP x (allP bs) st).filter fun e => canF bs xs e.2
def onwL (bs : List Bar) : List (Option Int) → List Bool → List Pl
  | [], _ => []
  | x :: xs, st => onw bs x xs st
theorem can_onw (bs : List Bar) (x : Option Int) (xs : List (Option Int)) (st : List Bool) : canF bs (x :: xs) st = !(onw bs x xs st).isEmpty := by
  show (agP x (allP bs) st).any (fun e => canF bs xs e.2) = _
  unfold onw
  generalize agP x (allP bs) st = l
  induction l with
  | nil => rfl
  | cons a l ih =>
    rw [List.any_cons, List.filter_cons, ih]
    by_cases q : canF bs xs a.2 = true
    · rw [if_pos q, q]
      rfl
    · rw [if_neg q]
      have q' : canF bs xs a.2 = false := by simpa using q
      rw [q', Bool.false_or]
/-- the heap without what stands at fo -/
def hid (fo : Addr) (H : Hp) : Hp := fun b => if b = fo then none else H b
theorem hid_same {fo : Addr} {H : Hp} : Same (hid fo H) H := fun b o e => by
  unfold hid at e
  by_cases q : b = fo
  · rw [if_pos q] at e
    cases e
  · rw [if_neg q] at e
    exact e
theorem hid_mono {fo : Addr} {H H' : Hp} (s : ∀ b o, b ≠ fo → H b = some o → H' b = some o) : Same (hid fo H) (hid fo H') := fun b o e => by
  unfold hid at e ⊢
  by_cases q : b = fo
  · rw [if_pos q] at e
    cases e
  · rw [if_neg q] at e ⊢
    exact s b o q e
theorem hid_same' {fo : Addr} {H H' : Hp} (s : Same H H') : Same (hid fo H) (hid fo H') := hid_mono fun b o _ e => s b o e
theorem hid_of {fo : Addr} {H H' : Hp} (n : H fo = none) (s : Same H H') : Same H (hid fo H') := fun b o e => by
  unfold hid
  rw [if_neg (ne_of_none e n)]
  exact s b o e
/-- at d: the pulls onward with the rest xs to come -/
def OnwAt (H : Hp) (d : Addr) (rs : List (List Bool)) (bs : List Bar) (xs : List (Option Int)) : Prop := ∃ f : List Bool → V, H d = some (.dK (tabV (rs.filter (canF bs xs)) f)) ∧ PulsG H (rs.filter (canF bs xs)) (onwL bs xs) f
theorem OnwAt.same {H H' : Hp} {d : Addr} {rs : List (List Bool)} {bs : List Bar} {xs : List (Option Int)} (A : OnwAt H d rs bs xs) (s : Same H H') : OnwAt H' d rs bs xs := by
  obtain ⟨f, h1, h2⟩ := A
  exact ⟨f, s _ _ h1, h2.same s⟩
structure spOnward (C : Addr) (vs : List V) (H : Hp) (Q : VK) (_ : XK) : Prop where
  h : ∃ (c l : Addr) (bs : List Bar) (n : Nat) (xs : List (Option Int)), vs = [.ref c, .ref l] ∧ CabOk C H c n bs ∧ SeenAt H l xs ∧ xs.length ≤ 60 ∧
    ∀ (q : Addr) (ds : List Addr) (rs : List (List Bool)) (H' : Hp), H q = none → Same H H' → H' q = some (.lst (ds.map V.ref)) → ds.length = xs.length → (∀ (k : Nat) (d : Addr), ds[k]? = some d → OnwAt H' d rs bs (xs.drop k)) → Reach bs n rs → Q (.ref q) H'
section
variable {P : Program} {w : World} {K : PySem.W.Frag} {mg : Str → Option Value} {base : Heap}
abbrev nYpo : List Str := ["cabinet", "seen", "pulls", "goals", "found", "thing", "agreeing", "onward", "standing", "drawer", "beyond"]
theorem scYpo : FnScope nYpo ["cabinet", "seen"] (defScope s_pulls_onward) := ⟨rfl, rfl, rfl, by decide +kernel, rfl, by decide +kernel, by decide +kernel⟩
theorem ok_onward {f f1 f2 C : Addr} {fd fd1 fd2 : FuncData} (F : Fun K "pulls_onward" "pulls_onward" s_pulls_onward f fd) (zR : mg "reversed" = none)
    (G1 : FnOk P w K mg base CX0 14 f1 fd1 ["cabinet"] (spPulls C)) (g1 : mg "reached_pulls" = some (.ref f1)) (k1 : PySem.W.keepIn K (.ref f1) = true) (b1 : Binds K fd1 ["cabinet"] [])
    (G2 : FnOk P w K mg base CX0 1 f2 fd2 ["pulls", "thing"] spAgr) (g2 : mg "pulls_agreeing" = some (.ref f2)) (k2 : PySem.W.keepIn K (.ref f2) = true) (b2 : Binds K fd2 ["pulls", "thing"] []) :
    FnOk P w K mg base CX0 16 f fd ["cabinet", "seen"] (spOnward C) := by
  refine F.ok scYpo (fun vs H Q E h => ?_) (fun cdv A outer s H vs Q E hr h => ?_)
  · obtain ⟨c, l, bs, n, xs, rfl, _⟩ := h.h
    rfl
  · obtain ⟨c, l, bs, n, xs, rfl, B, S, l60, k⟩ := h.h
    have hu := hu_of hr
    obtain ⟨tc, ⟨dx, hc⟩, n7⟩ := B.cab
    refine ⟨_, pss_cons (ps_set (i := 2) scYpo.nd rfl (Or.inl rfl) (pe_frz (pe_call G1 (hr.mono (by decide)) rfl g1 k1 b1 .nil pass0 (pa_cons (pv 0) pa_nil))))
      (pss_cons (ps_set (i := 3) scYpo.nd rfl (Or.inr rfl) (pv 2))
      (pss_cons (ps_set (i := 4) scYpo.nd rfl (Or.inl rfl) (pe_lst pa_nil))
      (pss_cons (ps_for PassesOwn.never rfl (RT.pi_revA (by rfl) zR (pv 1)) (pg_name (i := 5) scYpo.nd rfl (Or.inl rfl))
        (pss_cons (ps_set (i := 6) scYpo.nd rfl (Or.inr rfl) (pe_call G2 (hr.mono (by decide)) rfl g2 k2 b2 .nil pass0 (pa_cons (pv 2) (pa_cons (pv 5) pa_nil))))
        (pss_cons (ps_set (i := 7) scYpo.nd rfl (Or.inr rfl) (pe_dc (own := [("standing", 8)]) (g := gName 8) (tt := tYes) (by rfl) scYpo.nd (pi_keys (pv 2)) (blkOk_by (N := nYpo) (sc := defScope s_pulls_onward) (by decide +kernel))
          (fun _ _ _ _ _ => pg_name (i := 8) scYpo.nd rfl (Or.inl rfl)) (fun _ _ _ _ _ => pts_nil) (fun _ _ _ _ _ => pv 8)
          (fun _ _ _ _ _ => by exact (pe_lc (own := [("drawer", 9), ("beyond", 10)]) (g := gTup K 2 (gCons (gName 9) (gCons (gName 10) gNil))) (by rfl) scYpo.nd (pi_listK (K := K) rfl (pe_dget hu (pv 6) (pv 8) (fun _ _ => rfl))) (blkOk_by (N := nYpo) (by rfl))
            (fun _ _ _ _ _ => pg_tupK (K := K) rfl rfl (pgs_cons (pg_name (i := 9) scYpo.nd rfl (Or.inl rfl)) (pgs_cons (pg_name (i := 10) scYpo.nd rfl (Or.inl rfl)) pgs_nil)))
            (fun _ _ _ _ _ => pts_one (pt_cmp (pc_din hu (pv 10) (pv 3))))
            (fun _ _ _ _ _ => pe_tup (pa_cons (pv 9) (pa_cons (pv 10) pa_nil)))))))
        (pss_cons (ps_set (i := 3) scYpo.nd rfl (Or.inr rfl) (pe_dc (own := [("standing", 8)]) (g := gName 8) (by rfl) scYpo.nd (pi_keys (pv 2)) (blkOk_by (N := nYpo) (sc := defScope s_pulls_onward) (by decide +kernel))
          (fun _ _ _ _ _ => pg_name (i := 8) scYpo.nd rfl (Or.inl rfl)) (fun _ _ _ _ _ => pts_one (pt_truthK (K := K) rfl (pe_dget hu (pv 7) (pv 8) (fun _ _ => rfl)))) (fun _ _ _ _ _ => pv 8) (fun _ _ _ _ _ => pe_dget hu (pv 7) (pv 8) (fun _ _ => rfl))))
        (pss_one (ps_expr (pe_bm PySem.F.plainAttrs_list PySem.F.slot_list_append PySem.F.type_list_append mt_append (pv 4) (pa_cons (pv 3) pa_nil))))))))
      (pss_one (ps_ret (pe_revL (pv 4))))))), ?_⟩
    refine ⟨_, rfl, ⟨⟨c, bs, n, rfl, B, fun p rs f H1 hp0 s1 hp1 RR PA1 => ?_⟩⟩⟩
    refine ⟨p, _, rfl, hp1, trivial, fun od => ?_⟩
    have s2 : Same H (upd H1 p (.frz od (.dK (tabV rs f)))) := fun b o e => by
      rw [upd_ne (ne_of_none e hp0)]
      exact s1 b o e
    have hp : (upd H1 p (.frz od (.dK (tabV rs f)))) p = some (.frz od (.dK (tabV rs f))) := upd_same
    have PA : PulsG (upd H1 p (.frz od (.dK (tabV rs f)))) rs (allP bs) f := PA1.toG.upd hp1 id
    generalize (upd H1 p (.frz od (.dK (tabV rs f)))) = H2 at s2 hp PA ⊢
    have CC := RR.clo (by omega)
    have hfew := RR.few
    refine ⟨_, rfl, (by show 0 ≤ sizeLine; decide), fun fo nfo => ?_⟩
    obtain ⟨s3, f3⟩ := new_at (o := .lst []) nfo
    generalize upd H2 fo (.lst []) = H3 at s3 f3 ⊢
    have S2 := S.same s2
    obtain ⟨ol, el⟩ := S2.some
    refine for_revE (K := K) (l := xs) (f := thV) rfl ((S2.same s3).seqA K) fun J Gd Y wk hG hY => ?_
    refine for_itJ wk (fun i σ H' => ∃ (gl : Addr) (ds : List Addr) (fg : List Bool → V) (u5 u6 u7 : Option V), σ = [some (.ref c), some (.ref l), some (.ref p), some (.ref gl), some (.ref fo), u5, u6, u7, none, none, none] ∧ Same H2 (hid fo H') ∧ i ≤ xs.length ∧ ds.length = i ∧
        H' fo = some (.lst (ds.map V.ref)) ∧ (∀ (j : Nat) (d : Addr), ds[j]? = some d → OnwAt (hid fo H') d rs bs (xs.drop (xs.length - 1 - j))) ∧ Rd (hid fo H') gl (.dK (tabV (rs.filter (canF bs (xs.drop (xs.length - i)))) fg)))
      ⟨p, [], f, _, _, _, rfl, hid_of nfo s3, Nat.zero_le _, rfl, f3, fun j d e => (by cases e), .inr ⟨od, ?_⟩⟩ (fun i σ H' _ ⟨_, _, _, _, _, _, _, s5, _⟩ => hG H' (same_eq s3 (fun b o e => hid_same _ _ (s5 b o e)) el)) ?_ ?_
    · have e0 : rs.filter (canF bs (xs.drop (xs.length - 0))) = rs := by
        rw [Nat.sub_zero, List.drop_length]
        exact List.filter_eq_self.mpr fun _ _ => rfl
      rw [e0]
      exact hid_of nfo s3 _ _ hp
    · rintro i x σ H5 H5' hi ⟨gl, ds, fg, u5, u6, u7, rfl, s5, hil, hdl, hfo, hds, hgl⟩ hy
      obtain ⟨rfl, x0, ex, rfl⟩ := hY _ _ _ _ hy
      have hlen : xs.length - 1 - i < xs.length := by omega
      have edr : xs.drop (xs.length - 1 - i) = x0 :: xs.drop (xs.length - i) := by
        obtain ⟨h1, h2⟩ := List.getElem?_eq_some_iff.mp ex
        rw [List.drop_eq_getElem_cons h1, h2]
        congr 2
        omega
      generalize hsf : xs.drop (xs.length - i) = sf at hgl edr
      have s5' : Same H2 H5' := fun b o e => hid_same _ _ (s5 b o e)
      refine ⟨_, rfl, _, rfl, ⟨⟨p, od, rs, allP bs, f, x0, rfl, s5' _ _ hp, CC, PA.same s5', fun ag fa H6 ha s6 hA PG => ?_⟩⟩⟩
      have CA := CC.filter fun _ e => agr x0 e.1
      have nfa : ag ≠ fo := (ne_of_none hfo ha).symm
      have hp6 := s6 _ _ (s5' _ _ hp)
      have hgl6 : Rd H6 gl (.dK (tabV (rs.filter (canF bs sf)) fg)) := hgl.imp (fun h => s6 _ _ (hid_same _ _ h)) fun ⟨o, h⟩ => ⟨o, s6 _ _ (hid_same _ _ h)⟩
      refine ⟨_, rfl, p, od, rfl, .inl ⟨_, hp6, fun D hD => ?_⟩⟩
      refine dc_tab walk_tabK rs rfl CC.nd (by omega) (fun _ => true) (fun st v H => ∃ l, v = .ref l ∧ PulG H (onw bs x0 sf st) l ∧ l ≠ fo) hD (fun H' s => s _ _ hp6) (fun st v H1 H2 s ⟨l, e, q, nl⟩ => ⟨l, e, q.same s, nl⟩) (fun st v H1 kvs o hD1 ⟨l, e, q, nl⟩ => ⟨l, e, q.upd hD1 id, nl⟩) ?_ ?_
      · rintro j z st H7 H7' Tk Nk est s7 ⟨rfl, st', est', rfl⟩ kT kF
        rw [est] at est'
        cases est'
        have hm := List.mem_of_getElem? est
        refine ⟨rfl, tYes_of (iteT ?_)⟩
        refine ⟨_, rfl, ?_⟩
        obtain ⟨l1, el1, pl⟩ := PG st hm
        obtain ⟨ts, hl, ets, hts⟩ := (pl.same s7).h
        have dg := DGet.k (k := .inr (sstr st)) (s7 _ _ hA)
        rw [tab_val, if_pos hm, el1] at dg
        refine ⟨_, rfl, _, rfl, ag, _, rfl, dg, l1, rfl, ⟨_, SqL.of hl⟩, fun D2 hD2 => ?_⟩
        have hfP : ts.length ≤ 7 := by
          have := congrArg List.length ets
          rw [List.length_map] at this
          have := CA.fewP st hm
          unfold agP at *
          omega
        have nD2 : D2 ≠ fo := (ne_of_none (s7 _ _ (s6 _ _ hfo)) hD2).symm
        refine lc_objs (walk_lst (K := K) (a := l1) (l := ts) (f := fun t => V.ref t.1)) ts rfl (by omega) (fun t => canF bs sf t.2.2) (fun t => t.2) plO plO_lst hD2 (fun H' s => s.seq (SqL.of hl)) ?_ ?_
        · rintro j2 y t H8 H8' Tk2 Nk2 et s8 ⟨rfl, t', et', rfl⟩ kT2 kF2
          rw [et] at et'
          cases et'
          have htm := List.mem_of_getElem? et
          have ht8 := s8 _ _ (hts t htm)
          refine ⟨t.1, _, rfl, SqT.of' ht8, rfl, _, _, rfl, _, _, rfl, rfl, rfl, ?_⟩
          have hgl8 : Rd H8' gl (.dK (tabV (rs.filter (canF bs sf)) fg)) := hgl6.imp (fun h => s8 _ _ (s7 _ _ h)) fun ⟨o, h⟩ => ⟨o, s8 _ _ (s7 _ _ h)⟩
          refine ⟨_, rfl, _, rfl, gl, _, rfl, .inl ⟨_, .inr (sstr t.2.2), hgl8, rfl, rfl⟩, _, rfl, ?_⟩
          have hb : t.2.2 ∈ rs := CA.ex st hm t.2 (by rw [← show ts.map (·.2) = (allP bs st).filter (fun e => agr x0 e.1) from ets]; exact List.mem_map_of_mem (f := (·.2)) htm)
          have eb : (valV (tabV (rs.filter (canF bs sf)) fg) (.inr (sstr t.2.2))).isSome = canF bs sf t.2.2 := by
            rw [tab_val]
            by_cases q : canF bs sf t.2.2 = true
            · rw [if_pos (List.mem_filter.mpr ⟨hb, q⟩), q]
              rfl
            · rw [if_neg fun z => q (List.mem_filter.mp z).2]
              simp at q
              rw [q]
              rfl
          rw [eb]
          cases e : canF bs sf t.2.2 with
          | false => exact iteF (kF2 _ e (Same.refl _))
          | true =>
            refine iteT ?_
            refine ⟨_, rfl, _, rfl, (by show 2 ≤ sizeLine; decide), fun r nr => ?_⟩
            exact kT2 r _ e (same_upd nr) upd_same
        · intro H8 ts2 s8 hD8 e2 h2
          refine kT _ _ rfl s8 ⟨D2, rfl, ⟨⟨ts2, hD8, ?_, h2⟩⟩, nD2⟩
          rw [e2]
          unfold onw
          rw [← ets, List.filter_map]
          rfl
      · intro H7 f7 s7 hD7 h7
        rw [List.filter_eq_self.mpr fun _ _ => rfl] at hD7 h7
        have hp7 := s7 _ _ hp6
        refine ⟨_, rfl, p, od, rfl, .inl ⟨_, hp7, fun D3 hD3 => ?_⟩⟩
        refine dc_tab walk_tabK rs rfl CC.nd (by omega) (canF bs (x0 :: sf)) (fun st v H => ∃ l, v = .ref l ∧ PulG H (onw bs x0 sf st) l ∧ l ≠ fo) hD3 (fun H' s => s _ _ hp7) (fun st v H1 H2 s ⟨l, e, q, nl⟩ => ⟨l, e, q.same s, nl⟩) (fun st v H1 kvs o hD1 ⟨l, e, q, nl⟩ => ⟨l, e, q.upd hD1 id, nl⟩) ?_ ?_
        · rintro j z st H8 H8' Tk Nk est s8 ⟨rfl, st', est', rfl⟩ kT kF
          rw [est] at est'
          cases est'
          have hm := List.mem_of_getElem? est
          obtain ⟨l1, el1, pl, nl⟩ := h7 st hm
          have pl8 := pl.same s8
          obtain ⟨ts, hl, ets, hts⟩ := pl8.h
          have dg := DGet.k (k := .inr (sstr st)) (s8 _ _ hD7)
          rw [tab_val, if_pos hm, el1] at dg
          refine ⟨rfl, ?_⟩
          refine ⟨_, rfl, _, rfl, D, _, rfl, dg, canF bs (x0 :: sf) st, .inl ⟨_, SqL.of hl, ?_⟩, ?_⟩
          · rw [can_onw, ← ets]
            cases ts <;> rfl
          cases e : canF bs (x0 :: sf) st with
          | false => exact iteF (kF _ e (Same.refl _))
          | true =>
            refine iteT ?_
            exact ⟨_, rfl, _, rfl, _, rfl, D, _, rfl, dg, kT _ _ e (Same.refl _) ⟨l1, rfl, pl8, nl⟩⟩
        · intro H8 f8 s8 hD8 h8
          have nD3 : D3 ≠ fo := (ne_of_none (s7 _ _ (s6 _ _ hfo)) hD3).symm
          have s58 := (s6.trans s7).trans s8
          have hfo8 := s58 _ _ hfo
          refine ⟨_, rfl, .inl ⟨rfl, _, .inl (.inl hfo8)⟩, _, rfl, fo, _, _, rfl, rfl, hfo8, by rw [List.length_map]; exact small1000 (by omega), ?_⟩
          have hh : Same (hid fo H8) (hid fo (upd H8 fo (.lst (ds.map V.ref ++ [V.ref D3])))) := hid_mono fun b o hb e => by
            rw [upd_ne hb]
            exact e
          have s5h : Same (hid fo H5') (hid fo (upd H8 fo (.lst (ds.map V.ref ++ [V.ref D3])))) := (hid_same' s58).trans hh
          have new : OnwAt (hid fo (upd H8 fo (.lst (ds.map V.ref ++ [V.ref D3])))) D3 rs bs (x0 :: sf) := by
            refine ⟨f8, hh _ _ (by unfold hid; rw [if_neg nD3]; exact hD8), fun st hst => ?_⟩
            obtain ⟨l1, e1, q1, nl⟩ := h8 st hst
            obtain ⟨ts, hl, ets, hts⟩ := q1.h
            refine ⟨l1, e1, ⟨⟨ts, hh _ _ (by unfold hid; rw [if_neg nl]; exact hl), ets, fun t ht => hh _ _ ?_⟩⟩⟩
            have ht' := hts t ht
            have nt : t.1 ≠ fo := ne_of ht' hfo8 (plO_lst _ _)
            unfold hid
            rw [if_neg nt]
            exact ht'
          refine ⟨D3, ds ++ [D3], f8, _, _, _, rfl, s5.trans s5h, by omega, by rw [List.length_append, hdl]; rfl, by rw [upd_same, List.map_append]; rfl, fun j d e => ?_, ?_⟩
          · by_cases q : j < ds.length
            · rw [List.getElem?_append_left q] at e
              exact (hds j d e).same s5h
            · rw [List.getElem?_append_right (by omega)] at e
              have ej : j - ds.length = 0 := by
                cases hz : j - ds.length with
                | zero => rfl
                | succ m => rw [hz] at e; cases e
              rw [ej] at e
              cases e
              have : j = i := by omega
              subst this
              rw [edr]
              exact new
          · have ei : xs.length - (i + 1) = xs.length - 1 - i := by omega
            rw [ei, edr]
            obtain ⟨f9, h9, _⟩ := id new
            obtain ⟨z1, z2⟩ : True ∧ True := ⟨trivial, trivial⟩
            exact .inl (hh _ _ (by unfold hid; rw [if_neg nD3]; exact hD8))
    · rintro σ H5 ⟨gl, ds, fg, u5, u6, u7, rfl, s5, hil, hdl, hfo, hds, hgl⟩
      have s5' : Same H2 H5 := fun b o e => hid_same _ _ (s5 b o e)
      refine ⟨_, rfl, fo, _, rfl, SqL.of hfo, fun q nq => ?_⟩
      have sq := same_upd (o := .lst (ds.map V.ref).reverse) nq
      refine k q ds.reverse rs _ (none_back (s2.trans s5') nq) ((s2.trans s5').trans sq) (by rw [upd_same, List.map_reverse]) (by rw [List.length_reverse, hdl]) (fun kk d e => ?_) RR
      have hk : kk < ds.length := by
        have := (List.getElem?_eq_some_iff.mp e).1
        rw [List.length_reverse] at this
        exact this
      rw [List.getElem?_reverse hk] at e
      have := (hds _ d e).same (hid_same.trans sq)
      have e2 : xs.length - 1 - (ds.length - 1 - kk) = kk := by omega
      rw [e2] at this
      exact this
end
end DL

set_option Elab.async false
set_option maxRecDepth 100000
set_option maxHeartbeats 2000000
namespace DL
open PySem L2 HT TL RZ
/-! ### the least row that agrees -/
def leastR (bs : List Bar) : List (Option Int) → List Bool → List Int
  | [], _ => []
  | x :: xs, st => match onw bs x xs st with
    | [] => []
    | e :: _ => e.1 :: leastR bs xs e.2
theorem least_step {bs : List Bar} {x : Option Int} {xs : List (Option Int)} {st : List Bool} (h : canF bs (x :: xs) st = true) : ∃ e es, onw bs x xs st = e :: es ∧ canF bs xs e.2 = true ∧ leastR bs (x :: xs) st = e.1 :: leastR bs xs e.2 := by
  rw [can_onw] at h
  cases q : onw bs x xs st with
  | nil => rw [q] at h; cases h
  | cons e es =>
    have hm : e ∈ onw bs x xs st := by rw [q]; exact List.mem_cons_self
    refine ⟨e, es, rfl, (List.mem_filter.mp hm).2, ?_⟩
    show (match onw bs x xs st with | [] => [] | e :: _ => e.1 :: leastR bs xs e.2) = _
    rw [q]
theorem OnwAt.hide {H : Hp} {d ro : Addr} {rs : List (List Bool)} {bs : List Bar} {x : Option Int} {s : List (Option Int)} (A : OnwAt H d rs bs (x :: s)) (hro : H ro = some (.lst [])) : OnwAt (hid ro H) d rs bs (x :: s) := by
  have hh : ∀ b o, b ≠ ro → H b = some o → (hid ro H) b = some o := fun b o nb e => by
    unfold hid
    rw [if_neg nb]
    exact e
  obtain ⟨f, h1, h2⟩ := A
  refine ⟨f, hh _ _ (ne_of h1 hro (by intro z; cases z)) h1, fun st hst => ?_⟩
  obtain ⟨l, e, q⟩ := h2 st hst
  obtain ⟨ts, a, b, c⟩ := q.h
  have hne : ts ≠ [] := by
    intro z
    subst z
    have hc := (List.mem_filter.mp hst).2
    rw [can_onw] at hc
    have b' : [] = onw bs x s st := b
    rw [← b'] at hc
    cases hc
  refine ⟨l, e, ⟨⟨ts, hh _ _ (fun z => ?_) a, b, fun t ht => hh _ _ (ne_of (c t ht) hro (plO_lst _ _)) (c t ht)⟩⟩⟩
  subst z
  rw [a] at hro
  injection hro with hro
  injection hro with hro
  cases ts with
  | nil => exact hne rfl
  | cons t ts => cases hro
structure spFirstFit (C : Addr) (vs : List V) (H : Hp) (Q : VK) (_ : XK) : Prop where
  h : ∃ (c l : Addr) (bs : List Bar) (n : Nat) (xs : List (Option Int)), vs = [.ref c, .ref l] ∧ CabOk C H c n bs ∧ SeenAt H l xs ∧ xs.length ≤ 60 ∧ (∀ x ∈ xs, okTh n x) ∧
    ((canF bs xs (shutS n) = false ∧ ∀ H', Same H H' → Q .non H') ∨ (canF bs xs (shutS n) = true ∧ ∀ t H', Same H H' → H' t = some (.tup ((leastR bs xs (shutS n)).map V.int)) → Q (.ref t) H'))
section
variable {P : Program} {w : World} {K : PySem.W.Frag} {mg : Str → Option Value} {base : Heap}
abbrev nYff : List Str := ["cabinet", "seen", "standing", "row", "onward", "drawer"]
theorem scYff : FnScope nYff ["cabinet", "seen"] (defScope s_first_fit) := ⟨rfl, rfl, rfl, by decide +kernel, rfl, by decide +kernel, by decide +kernel⟩
theorem ok_firstFit {f f1 f2 f3 f4 C : Addr} {fd fd1 fd2 fd3 fd4 : FuncData} (F : Fun K "first_fit" "first_fit" s_first_fit f fd) (T : Bt mg) (CP : CabP P w K mg base C)
    (G1 : FnOk P w K mg base CX0 1 f1 fd1 ["cabinet"] (spCkCab C)) (g1 : mg "check_cabinet" = some (.ref f1)) (k1 : PySem.W.keepIn K (.ref f1) = true) (b1 : Binds K fd1 ["cabinet"] [])
    (G2 : FnOk P w K mg base CX0 3 f2 fd2 ["cabinet", "seen"] (spCkSeen0 C)) (g2 : mg "check_seen" = some (.ref f2)) (k2 : PySem.W.keepIn K (.ref f2) = true) (b2 : Binds K fd2 ["cabinet", "seen"] [])
    (G3 : FnOk P w K mg base CX0 1 f3 fd3 ["drawers"] spFirst) (g3 : mg "first_standing" = some (.ref f3)) (k3 : PySem.W.keepIn K (.ref f3) = true) (b3 : Binds K fd3 ["drawers"] [])
    (G4 : FnOk P w K mg base CX0 16 f4 fd4 ["cabinet", "seen"] (spOnward C)) (g4 : mg "pulls_onward" = some (.ref f4)) (k4 : PySem.W.keepIn K (.ref f4) = true) (b4 : Binds K fd4 ["cabinet", "seen"] []) :
    FnOk P w K mg base CX0 18 f fd ["cabinet", "seen"] (spFirstFit C) := by
  refine F.ok scYff (fun vs H Q E h => ?_) (fun cdv A outer s H vs Q E hr h => ?_)
  · obtain ⟨c, l, bs, n, xs, rfl, _⟩ := h.h
    rfl
  · obtain ⟨c, l, bs, n, xs, rfl, B, S, l60, ok, k⟩ := h.h
    have hu := hu_of hr
    obtain ⟨tc, ⟨dx, hc⟩, n7⟩ := B.cab
    have n1 : 1 ≤ n := by
      obtain ⟨_, _, _, _, _, _, q, _⟩ := B.h
      omega
    obtain ⟨pD, gD, fdD, hpD, GD, bD⟩ := CP.d
    refine ⟨_, pss_cons (ps_expr (pe_call G1 (hr.mono (by decide)) rfl g1 k1 b1 .nil pass0 (pa_cons (pv 0) pa_nil)))
      (pss_cons (ps_expr (pe_call G2 (hr.mono (by decide)) rfl g2 k2 b2 .nil pass0 (pa_cons (pv 0) (pa_cons (pv 1) pa_nil))))
      (pss_cons (ps_set (i := 2) scYff.nd rfl (Or.inl rfl) (pe_call G3 (hr.mono (by decide)) rfl g3 k3 b3 .nil pass0 (pa_cons (pe_prop (pv 0) CP.cl hpD GD (hr.mono (by decide)) bD .nil pass0 rfl) pa_nil)))
      (pss_cons (ps_set (i := 3) scYff.nd rfl (Or.inl rfl) (pe_lst pa_nil))
      (pss_cons (ps_for PassesOwn.never rfl (pi_list (pe_call G4 (hr.mono (by decide)) rfl g4 k4 b4 .nil pass0 (pa_cons (pv 0) (pa_cons (pv 1) pa_nil)))) (pg_name (i := 4) scYff.nd rfl (Or.inl rfl))
        (pss_cons (ps_if (pt_cmp (pc_dnotin hu (pv 2) (pv 4))) (pss_one (ps_ret pe_non)) pss_nil)
        (pss_cons (ps_asg (pe_ix ix_list (pe_dget hu (pv 4) (pv 2) (fun _ _ => rfl)) pe_int (fun _ _ => rfl)) (pg_tup (by rfl) (pgs_cons (pg_name (i := 5) scYff.nd rfl (Or.inl rfl)) (pgs_cons (pg_name (i := 2) scYff.nd rfl (Or.inl rfl)) pgs_nil))))
        (pss_one (ps_expr (pe_bm PySem.F.plainAttrs_list PySem.F.slot_list_append PySem.F.type_list_append mt_append (pv 3) (pa_cons (pv 5) pa_nil)))))))
      (pss_one (ps_ret (pe_tupleOf (by rfl) T.tuple (pv 3)))))))), ?_⟩
    refine ⟨_, rfl, ⟨⟨c, _, tc, rfl, ⟨dx, hc⟩, ?_⟩⟩⟩
    refine ⟨_, rfl, _, rfl, ⟨⟨c, l, xs, n, tc, rfl, ⟨dx, hc⟩, S, l60, ok, fun H0 s0 => ?_⟩⟩⟩
    refine ⟨_, rfl, c, dx, _, rfl, s0 _ _ hc, ⟨⟨c, dx, _, tc, rfl, s0 _ _ hc, ⟨⟨n, rfl, n1, by omega, ?_⟩⟩⟩⟩⟩
    refine ⟨(by show 0 ≤ sizeLine; decide), fun ro nro => ?_⟩
    obtain ⟨s1, f1⟩ := new_at (o := .lst []) nro
    generalize upd H0 ro (.lst []) = H1 at s1 f1 ⊢
    have s01 := s0.trans s1
    refine ⟨_, rfl, _, rfl, ⟨⟨c, l, bs, n, xs, rfl, B.same s01, S.same s01, l60, fun q ds rs H2 hq s2 hds dlen dd RR => ?_⟩⟩⟩
    have nq : q ≠ ro := (ne_of_none f1 hq).symm
    have hro2 := s2 _ _ f1
    refine ⟨q, rfl, ⟨_, SqL.of hds⟩, ?_⟩
    have back : ∀ H', Same (hid ro H2) (hid ro H') → Same H H' := fun H' s b o e => hid_same _ _ (s _ _ (by
      unfold hid
      rw [if_neg (ne_of_none (s0 b o e) nro)]
      exact s2 _ _ (s01 b o e)))
    have hqq : ∀ H', Same (hid ro H2) (hid ro H') → H' q = some (.lst (ds.map V.ref)) := fun H' s => hid_same _ _ (s _ _ (by
      unfold hid
      rw [if_neg nq]
      exact hds))
    by_cases hcan : canF bs xs (shutS n) = true
    · have k := (k.resolve_left fun z => by rw [hcan] at z; cases z.1).2
      refine for_list (K := K) (a := q) (xs := ds.map V.ref) (fun i σ H' => ∃ (st : List Bool) (r : List Int) (u4 u5 : Option V), σ = [some (.ref c), some (.ref l), some (.str (sstr st)), some (.ref ro), u4, u5] ∧ Same (hid ro H2) (hid ro H') ∧ H' ro = some (.lst (r.map V.int)) ∧ r.length = i ∧ st ∈ rs ∧
          canF bs (xs.drop i) st = true ∧ leastR bs xs (shutS n) = r ++ leastR bs (xs.drop i) st)
        ⟨shutS n, [], _, _, rfl, Same.refl _, hro2, rfl, RR.root, hcan, rfl⟩ (fun i σ H' _ ⟨_, _, _, _, _, z, _⟩ => SqL.of (hqq H' z)) ?_ ?_
      · rintro i x σ H3 hx ⟨st, r, u4, u5, rfl, s3, hr3, rl, hst, hcn, hle⟩
        rw [List.getElem?_map] at hx
        cases ed : ds[i]? with
        | none => rw [ed] at hx; cases hx
        | some d =>
          rw [ed] at hx
          cases hx
          have hil : i < xs.length := by
            have := (List.getElem?_eq_some_iff.mp ed).1
            omega
          have edr : xs.drop i = xs[i] :: xs.drop (i + 1) := List.drop_eq_getElem_cons hil
          rw [edr] at hcn hle
          have A2 := dd i d ed
          rw [edr] at A2
          obtain ⟨fd', hd3, pp⟩ := ((A2.hide hro2).same s3).same hid_same
          obtain ⟨e, es, eo, ce, el⟩ := least_step hcn
          have hin : st ∈ rs.filter (canF bs (xs[i] :: xs.drop (i + 1))) := List.mem_filter.mpr ⟨hst, hcn⟩
          obtain ⟨l1, e1, pl⟩ := pp st hin
          obtain ⟨ts, hl, ets, hts⟩ := pl.h
          have ets : ts.map (·.2) = e :: es := by rw [ets]; exact eo
          obtain ⟨t, ts', rfl⟩ : ∃ t ts', ts = t :: ts' := by
            cases ts with
            | nil => cases ets
            | cons t ts' => exact ⟨t, ts', rfl⟩
          have et : t.2 = e := by
            rw [List.map_cons] at ets
            injection ets
          have ht := hts t List.mem_cons_self
          rw [et] at ht
          have dg := DGet.k (k := .inr (sstr st)) hd3
          rw [tab_val, if_pos hin, e1] at dg
          refine ⟨_, rfl, _, rfl, d, _, rfl, dg, _, rfl, ?_⟩
          refine iteF ?_
          refine ⟨_, rfl, _, rfl, d, _, rfl, dg, l1, _, 0, .ref t.1, rfl, rfl, SqL.of hl, atI_nat (j := 0) rfl, ?_⟩
          refine ⟨t.1, _, rfl, SqT.of' ht, rfl, _, _, rfl, _, _, rfl, rfl, ?_⟩
          refine ⟨_, rfl, .inl ⟨rfl, _, .inl (.inl hr3)⟩, _, rfl, ro, _, _, rfl, rfl, hr3, by rw [List.length_map]; exact small1000 (by omega), ?_⟩
          have hx2 : e.2 ∈ rs := by
            have hm : e ∈ onw bs xs[i] (xs.drop (i + 1)) st := by rw [eo]; exact List.mem_cons_self
            exact RR.allIn st hst e (agP_sub (List.mem_filter.mp hm).1)
          refine ⟨e.2, r ++ [e.1], _, _, rfl, s3.trans (hid_mono fun b o hb z => by rw [upd_ne hb]; exact z), by rw [upd_same, List.map_append]; rfl, by rw [List.length_append, rl]; rfl, hx2, ce, ?_⟩
          rw [hle, el, List.append_assoc]
          rfl
      · rintro σ H3 ⟨st, r, u4, u5, rfl, s3, hr3, rl, hst, hcn, hle⟩
        have e0 : xs.drop (ds.map V.ref).length = [] := by
          rw [List.length_map, dlen, List.drop_length]
        rw [e0] at hle
        have hle : leastR bs xs (shutS n) = r := by rw [hle]; exact List.append_nil r
        refine ⟨_, rfl, .inl ⟨ro, _, rfl, SqL.of hr3, fun t nt => ?_⟩⟩
        refine k t _ ((back H3 s3).trans (same_upd nt)) ?_
        rw [upd_same, hle]
    · have hcan' : canF bs xs (shutS n) = false := by simpa using hcan
      have kn := (k.resolve_right fun z => by rw [hcan'] at z; cases z.1).2
      obtain ⟨x0, xr, rfl⟩ : ∃ x0 xr, xs = x0 :: xr := by
        cases xs with
        | nil => cases hcan'
        | cons a b => exact ⟨a, b, rfl⟩
      refine for_list (K := K) (a := q) (xs := ds.map V.ref) (fun i σ H' => i = 0 ∧ H' = H2 ∧ ∃ (u4 u5 : Option V), σ = [some (.ref c), some (.ref l), some (.str (sstr (shutS n))), some (.ref ro), u4, u5])
        ⟨rfl, rfl, _, _, rfl⟩ (fun i σ H' _ ⟨_, e, _⟩ => by rw [e]; exact SqL.of hds) ?_ ?_
      · rintro i x σ H3 hx ⟨rfl, rfl, u4, u5, rfl⟩
        rw [List.getElem?_map] at hx
        cases ed : ds[0]? with
        | none => rw [ed] at hx; cases hx
        | some d =>
          rw [ed] at hx
          cases hx
          obtain ⟨fd', hd3, pp⟩ := dd 0 d ed
          have dg := DGet.k (k := .inr (sstr (shutS n))) hd3
          rw [List.drop_zero] at dg
          rw [tab_val, if_neg fun z => hcan (List.mem_filter.mp z).2] at dg
          refine ⟨_, rfl, _, rfl, d, _, rfl, dg, _, rfl, ?_⟩
          refine iteT ?_
          exact kn _ (back _ (Same.refl _))
      · rintro σ H3 ⟨h0, _⟩
        exfalso
        rw [List.length_map, dlen] at h0
        cases h0
end
end DL

set_option Elab.async false
set_option maxRecDepth 100000
set_option maxHeartbeats 2000000
namespace DL
open PySem L2 HT TL RZ
/-! ### what is sure, mathematics -/
def told1 (L : List Pl) : Option Int := match L with
  | [] => none
  | e :: _ => if L.all (fun y => decide (y.1 = e.1)) = true then some e.1 else none
theorem told_one {L : List Pl} {d : Int} (h : L ≠ []) (hd : ∀ y ∈ L, y.1 = d) : told1 L = some d := by
  cases L with
  | nil => exact absurd rfl h
  | cons e L =>
    have he := hd e List.mem_cons_self
    show (if (e :: L).all (fun y => decide (y.1 = e.1)) = true then some e.1 else none) = some d
    rw [if_pos, he]
    rw [List.all_eq_true]
    intro y hy
    rw [hd y hy, he]
    exact decide_eq_true rfl
theorem told_two {L : List Pl} {a b : Pl} (ha : a ∈ L) (hb : b ∈ L) (h : a.1 ≠ b.1) : told1 L = none := by
  cases L with
  | nil => cases ha
  | cons e L =>
    show (if (e :: L).all (fun y => decide (y.1 = e.1)) = true then some e.1 else none) = none
    rw [if_neg]
    intro z
    rw [List.all_eq_true] at z
    exact h ((of_decide_eq_true (z a ha)).trans (of_decide_eq_true (z b hb)).symm)
theorem told_of {L : List Pl} {d : Int} (h : told1 L = some d) : L ≠ [] ∧ ∀ y ∈ L, y.1 = d := by
  cases L with
  | nil => cases h
  | cons e L =>
    refine ⟨(by intro z; cases z), ?_⟩
    have h : (if (e :: L).all (fun y => decide (y.1 = e.1)) = true then some e.1 else none) = some d := h
    by_cases q : (e :: L).all (fun y => decide (y.1 = e.1)) = true
    · rw [if_pos q] at h
      injection h with h
      rw [List.all_eq_true] at q
      intro y hy
      rw [← h]
      exact of_decide_eq_true (q y hy)
    · rw [if_neg q] at h
      cases h
theorem told_congr {L M : List Pl} (h : ∀ d, (∃ y ∈ L, y.1 = d) ↔ ∃ y ∈ M, y.1 = d) : told1 L = told1 M := by
  have side : ∀ {A B : List Pl}, (∀ d, (∃ y ∈ A, y.1 = d) ↔ ∃ y ∈ B, y.1 = d) → ∀ d, told1 A = some d → told1 B = some d := fun {A B} h d q => by
    obtain ⟨ne, all⟩ := told_of q
    refine told_one (fun z => ?_) fun y hy => ?_
    · cases A with
      | nil => exact ne rfl
      | cons e A =>
        obtain ⟨y, hy, _⟩ := (h e.1).mp ⟨e, List.mem_cons_self, rfl⟩
        rw [z] at hy
        cases hy
    · obtain ⟨u, hu, eu⟩ := (h y.1).mpr ⟨y, hy, rfl⟩
      rw [← eu]
      exact all u hu
  cases q : told1 L with
  | some d => exact (side h d q).symm
  | none =>
    cases q2 : told1 M with
    | none => rfl
    | some d =>
      rw [side (fun d => (h d).symm) d q2] at q
      cases q
/-- all pulls onward from the standings S -/
def allOn (bs : List Bar) (x : Option Int) (xs : List (Option Int)) (S : List (List Bool)) : List Pl := S.flatMap (onw bs x xs)
def sureL (bs : List Bar) : List (Option Int) → List (List Bool) → List (Option Int)
  | [], _ => []
  | x :: xs, S => told1 (allOn bs x xs S) :: sureL bs xs ((allOn bs x xs S).map (·.2))
theorem allOn_mem {bs : List Bar} {x : Option Int} {xs : List (Option Int)} {S : List (List Bool)} {e : Pl} : e ∈ allOn bs x xs S ↔ ∃ st ∈ S, e ∈ onw bs x xs st := List.mem_flatMap
theorem sure_congr {bs : List Bar} : ∀ {xs : List (Option Int)} {S S' : List (List Bool)}, (∀ b, b ∈ S ↔ b ∈ S') → sureL bs xs S = sureL bs xs S'
  | [], _, _, _ => rfl
  | x :: xs, S, S', h => by
    have hm : ∀ e, e ∈ allOn bs x xs S ↔ e ∈ allOn bs x xs S' := fun e => by
      rw [allOn_mem, allOn_mem]
      exact ⟨fun ⟨st, a, b⟩ => ⟨st, (h st).mp a, b⟩, fun ⟨st, a, b⟩ => ⟨st, (h st).mpr a, b⟩⟩
    show told1 _ :: sureL bs xs _ = told1 _ :: sureL bs xs _
    rw [told_congr (M := allOn bs x xs S') fun d => ⟨fun ⟨y, a, b⟩ => ⟨y, (hm y).mp a, b⟩, fun ⟨y, a, b⟩ => ⟨y, (hm y).mpr a, b⟩⟩,
      sure_congr (S' := (allOn bs x xs S').map (·.2)) fun b => by
        rw [List.mem_map, List.mem_map]
        exact ⟨fun ⟨y, a, e⟩ => ⟨y, (hm y).mp a, e⟩, fun ⟨y, a, e⟩ => ⟨y, (hm y).mpr a, e⟩⟩]
theorem sure_len (bs : List Bar) : ∀ (xs : List (Option Int)) (S : List (List Bool)), (sureL bs xs S).length = xs.length
  | [], _ => rfl
  | x :: xs, S => by
    show (sureL bs xs _).length + 1 = xs.length + 1
    rw [sure_len bs xs]
theorem on_can {bs : List Bar} {x : Option Int} {xs : List (Option Int)} {st : List Bool} {e : Pl} (h : e ∈ onw bs x xs st) : canF bs xs e.2 = true := (List.mem_filter.mp h).2
theorem perm_stA {ks : List (List Bool)} {ys : List Str} (h : ys.Perm (ks.map sstr)) : ∃ sts : List (List Bool), ys = sts.map sstr ∧ sts.Perm ks := by
  have e : ks.map sstr = (ks.map fun k => ((k, []) : Ent)).map fun e => sstr e.1 := by rw [List.map_map]; rfl
  rw [e] at h
  obtain ⟨sts, h1, h2⟩ := any_perm h
  rw [List.map_map, show ((fun e : Ent => e.1) ∘ fun k => ((k, []) : Ent)) = id from rfl, List.map_id] at h2
  exact ⟨sts, h1, h2⟩
theorem sub_len {α : Type} [DecidableEq α] : ∀ {l D : List α}, l.Nodup → (∀ x ∈ l, x ∈ D) → l.length ≤ D.length
  | [], _, _, _ => Nat.zero_le _
  | a :: l, D, nd, h => by
    rw [List.nodup_cons] at nd
    have ha := h a List.mem_cons_self
    have ih := sub_len (l := l) (D := D.erase a) nd.2 fun x hx => (List.mem_erase_of_ne fun e => nd.1 (by rw [← e]; exact hx)).mpr (h x (List.mem_cons_of_mem _ hx))
    rw [List.length_erase_of_mem ha] at ih
    have := List.length_pos_of_mem ha
    rw [List.length_cons]
    omega
theorem keys_inl {L : List Key} (h : ∀ k ∈ L, ∃ i : Int, k = .inl i) : ∃ ns : List Int, L = ns.map Sum.inl := by
  induction L with
  | nil => exact ⟨[], rfl⟩
  | cons k L ih =>
    obtain ⟨i, rfl⟩ := h k List.mem_cons_self
    obtain ⟨ns, rfl⟩ := ih fun k hk => h k (List.mem_cons_of_mem _ hk)
    exact ⟨i :: ns, rfl⟩
theorem keys_inr {L : List Key} (h : ∀ k ∈ L, ∃ b : List Bool, k = .inr (sstr b)) : ∃ bs : List (List Bool), L = (bs.map sstr).map Sum.inr := by
  induction L with
  | nil => exact ⟨[], rfl⟩
  | cons k L ih =>
    obtain ⟨i, rfl⟩ := h k List.mem_cons_self
    obtain ⟨ns, rfl⟩ := ih fun k hk => h k (List.mem_cons_of_mem _ hk)
    exact ⟨i :: ns, rfl⟩
theorem nodup_of_map {α β : Type} {f : α → β} {l : List α} (h : (l.map f).Nodup) : l.Nodup := by
  induction l with
  | nil => exact List.nodup_nil
  | cons a l ih =>
    rw [List.map_cons, List.nodup_cons] at h
    rw [List.nodup_cons]
    exact ⟨fun z => h.1 (List.mem_map_of_mem (f := f) z), ih h.2⟩
theorem flat_le {α β : Type} {f : α → List β} {m : Nat} : ∀ {l : List α}, (∀ x ∈ l, (f x).length ≤ m) → (l.flatMap f).length ≤ m * l.length
  | [], _ => Nat.zero_le _
  | a :: l, h => by
    rw [List.flatMap_cons, List.length_append, List.length_cons, Nat.mul_add]
    have h1 := h a List.mem_cons_self
    have h2 := flat_le (l := l) fun x hx => h x (List.mem_cons_of_mem _ hx)
    omega
theorem on_drawer {bs : List Bar} {x : Option Int} {xs : List (Option Int)} {st : List Bool} {e : Pl} (h : e ∈ onw bs x xs st) : 0 ≤ e.1 ∧ e.1 < st.length ∧ e.1 ∈ freeL bs st ∧ e.2 = flip st e.1 ∧ agr x e.1 = true := by
  have h1 := (List.mem_filter.mp h).1
  have h2 := List.mem_filter.mp h1
  obtain ⟨d, hd, rfl⟩ := List.mem_map.mp h2.1
  have h3 := free_in hd
  exact ⟨h3.1, h3.2, hd, rfl, h2.2⟩
structure spSure (C : Addr) (vs : List V) (H : Hp) (Q : VK) (_ : XK) : Prop where
  h : ∃ (c l : Addr) (bs : List Bar) (n : Nat) (xs : List (Option Int)), vs = [.ref c, .ref l] ∧ CabOk C H c n bs ∧ SeenAt H l xs ∧ xs.length ≤ 60 ∧ (∀ x ∈ xs, okTh n x) ∧
    ((canF bs xs (shutS n) = false ∧ ∀ H', Same H H' → Q .non H') ∨ (canF bs xs (shutS n) = true ∧ ∀ t H', Same H H' → H' t = some (.tup ((sureL bs xs [shutS n]).map thV)) → Q (.ref t) H'))
section
variable {P : Program} {w : World} {K : PySem.W.Frag} {mg : Str → Option Value} {base : Heap}
abbrev nYsp : List Str := ["cabinet", "seen", "standings", "told", "onward", "pulls", "drawers", "pull", "standing", "drawer", "_", "beyond"]
theorem scYsp : FnScope nYsp ["cabinet", "seen"] (defScope s_sure_pulls) := ⟨rfl, rfl, rfl, by decide +kernel, rfl, by decide +kernel, by decide +kernel⟩
theorem ok_surePulls {f f1 f2 f3 f4 C : Addr} {fd fd1 fd2 fd3 fd4 : FuncData} (F : Fun K "sure_pulls" "sure_pulls" s_sure_pulls f fd) (T : Bt mg) (CP : CabP P w K mg base C)
    (G1 : FnOk P w K mg base CX0 1 f1 fd1 ["cabinet"] (spCkCab C)) (g1 : mg "check_cabinet" = some (.ref f1)) (k1 : PySem.W.keepIn K (.ref f1) = true) (b1 : Binds K fd1 ["cabinet"] [])
    (G2 : FnOk P w K mg base CX0 3 f2 fd2 ["cabinet", "seen"] (spCkSeen0 C)) (g2 : mg "check_seen" = some (.ref f2)) (k2 : PySem.W.keepIn K (.ref f2) = true) (b2 : Binds K fd2 ["cabinet", "seen"] [])
    (G3 : FnOk P w K mg base CX0 1 f3 fd3 ["drawers"] spFirst) (g3 : mg "first_standing" = some (.ref f3)) (k3 : PySem.W.keepIn K (.ref f3) = true) (b3 : Binds K fd3 ["drawers"] [])
    (G4 : FnOk P w K mg base CX0 16 f4 fd4 ["cabinet", "seen"] (spOnward C)) (g4 : mg "pulls_onward" = some (.ref f4)) (k4 : PySem.W.keepIn K (.ref f4) = true) (b4 : Binds K fd4 ["cabinet", "seen"] []) :
    FnOk P w K mg base CX0 18 f fd ["cabinet", "seen"] (spSure C) := by
  refine F.ok scYsp (fun vs H Q E h => ?_) (fun cdv A outer s H vs Q E hr h => ?_)
  · obtain ⟨c, l, bs, n, xs, rfl, _⟩ := h.h
    rfl
  · obtain ⟨c, l, bs, n, xs, rfl, B, S, l60, ok, k⟩ := h.h
    have hu := hu_of hr
    obtain ⟨tc, ⟨dx, hc⟩, n7⟩ := B.cab
    have n1 : 1 ≤ n := by
      obtain ⟨_, _, _, _, _, _, q, _⟩ := B.h
      omega
    obtain ⟨pD, gD, fdD, hpD, GD, bD⟩ := CP.d
    refine ⟨_, pss_cons (ps_expr (pe_call G1 (hr.mono (by decide)) rfl g1 k1 b1 .nil pass0 (pa_cons (pv 0) pa_nil)))
      (pss_cons (ps_expr (pe_call G2 (hr.mono (by decide)) rfl g2 k2 b2 .nil pass0 (pa_cons (pv 0) (pa_cons (pv 1) pa_nil))))
      (pss_cons (ps_set (i := 2) scYsp.nd rfl (Or.inl rfl) (pe_lst (pa_cons (pe_call G3 (hr.mono (by decide)) rfl g3 k3 b3 .nil pass0 (pa_cons (pe_prop (pv 0) CP.cl hpD GD (hr.mono (by decide)) bD .nil pass0 rfl) pa_nil)) pa_nil)))
      (pss_cons (ps_set (i := 3) scYsp.nd rfl (Or.inl rfl) (pe_lst pa_nil))
      (pss_cons (ps_for PassesOwn.never rfl (pi_list (pe_call G4 (hr.mono (by decide)) rfl g4 k4 b4 .nil pass0 (pa_cons (pv 0) (pa_cons (pv 1) pa_nil)))) (pg_name (i := 4) scYsp.nd rfl (Or.inr rfl))
        (pss_cons (ps_setLc2 (i := 5) (own := [("pull", 7), ("standing", 8)]) (vs1 := [7]) (g := gName 8) (g1 := gName 7) (tt := tYes) (tt1 := tYes) (by rfl) scYsp.nd rfl rfl (by rfl) (pi_list (pv 2)) (blkOk_by (N := nYsp) (sc := defScope s_sure_pulls) (by decide +kernel)) (by decide)
          (fun _ _ _ _ _ => pg_name (i := 8) scYsp.nd rfl (Or.inl rfl)) (fun _ _ _ _ _ => pts_nil)
          (fun _ _ _ _ _ => pi_listK (K := K) rfl (pe_dget2 hu (pv 4) (pv 8) (pe_lst pa_nil) ⟨rfl, rfl, rfl, rfl⟩))
          (fun _ _ _ _ _ => pg_name (i := 7) scYsp.nd rfl (Or.inl rfl)) (fun _ _ _ _ _ => pts_nil) (fun _ _ _ _ _ => pv 7))
        (pss_cons (ps_if (pt_not (pt_truth (pv 5) (fun _ => rfl))) (pss_one (ps_ret pe_non)) pss_nil)
        (pss_cons (ps_set (i := 6) scYsp.nd rfl (Or.inl rfl) (pe_callB (cr_setSI rfl) (by rfl) T.sorted (by decide +kernel) (pa_cons
          (pe_scW (own := [("drawer", 9), ("_", 10)]) (g := gTup K 2 (gCons (gName 9) (gCons (gName 10) gNil))) (tt := tYes) (by rfl) scYsp.nd (pi_list (pv 5)) (blkOk_by (N := nYsp) (sc := defScope s_sure_pulls) (by decide +kernel))
            (fun _ _ _ _ _ => pg_tupK (K := K) rfl rfl (pgs_cons (pg_name (i := 9) scYsp.nd rfl (Or.inl rfl)) (pgs_cons (pg_name (i := 10) scYsp.nd rfl (Or.inl rfl)) pgs_nil))) (fun _ _ _ _ _ => pts_nil) (fun _ _ _ _ _ => pv 9)) pa_nil)))
        (C8.pss_cut (ps_expr (pe_bm PySem.F.plainAttrs_list PySem.F.slot_list_append PySem.F.type_list_append mt_append (pv 3) (pa_cons
          (pe_ifExp (pt_cmpR op_eq (pe_callB call_len_seq (by rfl) T.len PySem.boot_len (pa_cons (pv 6) pa_nil)) pe_int (nomark _)) (pe_ix ix_list (pv 6) pe_int (fun _ _ => rfl)) pe_non) pa_nil)))
        (pss_one (ps_set (i := 2) scYsp.nd rfl (Or.inl rfl) (pe_callB (cr_setSS rfl) (by rfl) T.sorted (by decide +kernel) (pa_cons
          (pe_scW (own := [("_", 10), ("beyond", 11)]) (g := gTup K 2 (gCons (gName 10) (gCons (gName 11) gNil))) (tt := tYes) (by rfl) scYsp.nd (pi_list (pv 5)) (blkOk_by (N := nYsp) (sc := defScope s_sure_pulls) (by decide +kernel))
            (fun _ _ _ _ _ => pg_tupK (K := K) rfl rfl (pgs_cons (pg_name (i := 10) scYsp.nd rfl (Or.inl rfl)) (pgs_cons (pg_name (i := 11) scYsp.nd rfl (Or.inl rfl)) pgs_nil))) (fun _ _ _ _ _ => pts_nil) (fun _ _ _ _ _ => pv 11)) pa_nil)))))))))
      (pss_one (ps_ret (pe_tupleOf (by rfl) T.tuple (pv 3)))))))), ?_⟩
    refine ⟨_, rfl, ⟨⟨c, _, tc, rfl, ⟨dx, hc⟩, ?_⟩⟩⟩
    refine ⟨_, rfl, _, rfl, ⟨⟨c, l, xs, n, tc, rfl, ⟨dx, hc⟩, S, l60, ok, fun H0 s0 => ?_⟩⟩⟩
    refine ⟨_, rfl, c, dx, _, rfl, s0 _ _ hc, ⟨⟨c, dx, _, tc, rfl, s0 _ _ hc, ⟨⟨n, rfl, n1, by omega, ?_⟩⟩⟩⟩⟩
    refine ⟨(by show 1 ≤ sizeLine; decide), fun sl nsl => ?_⟩
    obtain ⟨sA, fA⟩ := new_at (o := .lst [V.str (sstr (shutS n))]) nsl
    generalize upd H0 sl (.lst [V.str (sstr (shutS n))]) = HA at sA fA ⊢
    refine ⟨(by show 0 ≤ sizeLine; decide), fun ro nro => ?_⟩
    obtain ⟨s1, f1⟩ := new_at (o := .lst []) nro
    have nsr : sl ≠ ro := ne_of_none fA nro
    have fA1 := s1 _ _ fA
    generalize upd HA ro (.lst []) = H1 at s1 f1 fA1 ⊢
    have s01 := (s0.trans sA).trans s1
    refine ⟨_, rfl, _, rfl, ⟨⟨c, l, bs, n, xs, rfl, B.same s01, S.same s01, l60, fun q ds rs H2 hq s2 hds dlen dd RR => ?_⟩⟩⟩
    have nq : q ≠ ro := (ne_of_none f1 hq).symm
    have hro2 := s2 _ _ f1
    refine ⟨q, rfl, ⟨_, SqL.of hds⟩, ?_⟩
    have toHid : ∀ b o, b ≠ ro → H2 b = some o → (hid ro H2) b = some o := fun b o hb e => by
      unfold hid
      rw [if_neg hb]
      exact e
    have back : ∀ H', Same (hid ro H2) (hid ro H') → Same H H' := fun H' s b o e => hid_same _ _ (s _ _ (toHid _ _ (ne_of_none (sA _ _ (s0 b o e)) nro) (s2 _ _ (s01 b o e))))
    have hqq : ∀ H', Same (hid ro H2) (hid ro H') → H' q = some (.lst (ds.map V.ref)) := fun H' s => hid_same _ _ (s _ _ (toHid _ _ nq hds))
    have hfew := RR.few
    by_cases hcan : canF bs xs (shutS n) = true
    · have kn := (k.resolve_left fun z => by rw [hcan] at z; cases z.1).2
      refine for_list (K := K) (a := q) (xs := ds.map V.ref) (fun i σ H' => ∃ (sl : Addr) (SS : List (List Bool)) (r : List (Option Int)) (u4 u5 u6 : Option V), σ = [some (.ref c), some (.ref l), some (.ref sl), some (.ref ro), u4, u5, u6, none, none, none, none, none] ∧ Same (hid ro H2) (hid ro H') ∧ H' ro = some (.lst (r.map thV)) ∧ r.length = i ∧ sl ≠ ro ∧
          H' sl = some (.lst (SS.map fun st => V.str (sstr st))) ∧ SS.Nodup ∧ SS ≠ [] ∧ (∀ st ∈ SS, st ∈ rs ∧ canF bs (xs.drop i) st = true) ∧ sureL bs xs [shutS n] = r ++ sureL bs (xs.drop i) SS)
        ⟨sl, [shutS n], [], _, _, _, rfl, Same.refl _, hro2, rfl, nsr, s2 _ _ fA1, List.nodup_cons.mpr ⟨(by intro z; cases z), List.nodup_nil⟩, (by intro z; cases z), fun st hst => by rw [List.mem_singleton.mp hst]; exact ⟨RR.root, hcan⟩, rfl⟩ (fun i σ H' _ ⟨_, _, _, _, _, _, _, z, _⟩ => SqL.of (hqq H' z)) ?_ ?_
      · rintro i x σ H3 hx ⟨sl, SS, r, u4, u5, u6, rfl, s3, hr3, rl, nsr, hsl, ndS, neS, hS, hle⟩
        rw [List.getElem?_map] at hx
        cases ed : ds[i]? with
        | none => rw [ed] at hx; cases hx
        | some d =>
          rw [ed] at hx
          cases hx
          have hil : i < xs.length := by
            have := (List.getElem?_eq_some_iff.mp ed).1
            omega
          have edr : xs.drop i = xs[i] :: xs.drop (i + 1) := List.drop_eq_getElem_cons hil
          rw [edr] at hS hle
          have A2 := dd i d ed
          rw [edr] at A2
          generalize xs[i] = x0 at hS hle A2
          generalize xs.drop (i + 1) = sx at hS hle A2 ⊢
          obtain ⟨fd', hd3, pp⟩ := ((A2.hide hro2).same s3).same hid_same
          have fewS : SS.length ≤ 128 := Nat.le_trans (sub_len ndS fun st h => (hS st h).1) hfew
          have onl : ∀ st ∈ SS, (onw bs x0 sx st).length ≤ 7 := fun st h => by
            have := (RR.clo (by omega)).fewP st (hS st h).1
            unfold onw agP
            exact Nat.le_trans (List.length_filter_le _ _) (Nat.le_trans (List.length_filter_le _ _) this)
          refine ⟨_, rfl, sl, rfl, ⟨_, SqL.of hsl⟩, fun D hD => ?_⟩
          refine lc2_by (walk_lst (K := K) (a := sl) (l := SS) (f := fun st => V.str (sstr st))) (fun j H' => Same H3 H' ∧ ∃ ts : List (Addr × Pl), H' D = some (.lst (ts.map fun t => V.ref t.1)) ∧ ts.map (·.2) = (SS.take j).flatMap (onw bs x0 sx) ∧ ∀ t ∈ ts, H' t.1 = some (plO t.2))
            ⟨same_upd hD, [], upd_same, rfl, fun t ht => by cases ht⟩ (fun j H' _ z => SqL.of (z.1 _ _ hsl)) ?_ ?_
          · rintro j y H4 H4' hj ⟨s4, ts, hD4, e4, h4⟩ ⟨rfl, st, est, rfl⟩
            have hm := List.mem_of_getElem? est
            have hin : st ∈ rs.filter (canF bs (x0 :: sx)) := List.mem_filter.mpr (hS st hm)
            obtain ⟨l1, e1, pl⟩ := pp st hin
            obtain ⟨ts1, hl, ets, hts⟩ := pl.h
            have ets : ts1.map (·.2) = onw bs x0 sx st := ets
            have dg := DGet.k (k := .inr (sstr st)) (s4 _ _ hd3)
            rw [tab_val, if_pos hin, e1] at dg
            refine ⟨rfl, tYes_of (iteT ?_)⟩
            refine ⟨_, rfl, d, rfl, .inl ⟨_, .inl (s4 _ _ hd3)⟩, _, rfl, (by show 0 ≤ sizeLine; decide), fun e0 ne0 => ?_⟩
            have s5 := same_upd (o := .lst []) ne0
            have dg5 : DGet (upd H4' e0 (.lst [])) d (kV (.inr (sstr st))) (some (.ref l1)) := by
              have dg5 := DGet.k (k := .inr (sstr st)) (s5 _ _ (s4 _ _ hd3))
              rw [tab_val, if_pos hin, e1] at dg5
              exact dg5
            generalize upd H4' e0 (.lst []) = H5 at s5 dg5 ⊢
            have s45 := s4.trans s5
            refine ⟨_, dg5, l1, rfl, ⟨_, SqL.of (s45 _ _ hl)⟩, ?_⟩
            have tkl : SS.take (j + 1) = SS.take j ++ [st] := by
              obtain ⟨h1, h2⟩ := List.getElem?_eq_some_iff.mp est
              rw [List.take_succ_eq_append_getElem h1, h2]
            have bound : ((SS.take j).flatMap (onw bs x0 sx)).length ≤ 896 := by
              have h1 := flat_le (f := onw bs x0 sx) (m := 7) (l := SS.take j) fun z hz => onl z (List.mem_of_mem_take hz)
              have h2 : (SS.take j).length ≤ SS.length := by rw [List.length_take]; omega
              omega
            refine lc_in (walk_lst (K := K) (a := l1) (l := ts1) (f := fun t => V.ref t.1)) (fun m H' => Same H3 H' ∧ ∃ ts : List (Addr × Pl), H' D = some (.lst (ts.map fun t => V.ref t.1)) ∧ ts.map (·.2) = (SS.take j).flatMap (onw bs x0 sx) ++ (ts1.take m).map (·.2) ∧ ∀ t ∈ ts, H' t.1 = some (plO t.2))
              ⟨s45, ts, s5 _ _ hD4, by rw [e4, List.take_zero, List.map_nil, List.append_nil], fun t ht => s5 _ _ (h4 t ht)⟩ (fun m H' _ z => SqL.of (z.1 _ _ hl)) ?_ ?_
            · rintro m y H6 H6' hm2 ⟨s6, ts, hD6, e6, h6⟩ ⟨rfl, t, et, rfl⟩
              have htm := List.mem_of_getElem? et
              refine ⟨rfl, tYes_of (iteT ?_)⟩
              have l6 := congrArg List.length e6
              have lt1 : ts1.length ≤ 7 := by
                have := congrArg List.length ets
                rw [List.length_map] at this
                have := onl st hm
                omega
              rw [List.length_map, List.length_append, List.length_map, List.length_take] at l6
              refine ⟨_, rfl, _, hD6, by rw [List.length_map]; exact small1000 (by omega), fun b o e => ?_, ts ++ [t], ?_, ?_, fun u hu => ?_⟩
              · rw [upd_ne (ne_of_none e hD)]
                exact s6 b o e
              · rw [upd_same, List.map_append]
                rfl
              · obtain ⟨h1, h2⟩ := List.getElem?_eq_some_iff.mp et
                rw [List.map_append, e6, List.take_succ_eq_append_getElem h1, h2, List.map_append, List.append_assoc]
              · rcases List.mem_append.mp hu with h | h
                · have e := h6 u h
                  rw [upd_ne (ne_of e hD6 (plO_lst _ _))]
                  exact e
                · rw [List.mem_singleton.mp h]
                  have e := s6 _ _ (hts t htm)
                  rw [upd_ne (ne_of e hD6 (plO_lst _ _))]
                  exact e
            · rintro H6 ⟨s6, ts, hD6, e6, h6⟩
              refine ⟨s6, ts, hD6, ?_, h6⟩
              rw [e6, List.take_length, ets, tkl, List.flatMap_append, List.flatMap_singleton]
          · rintro H4 ⟨s4, ts, hD4, e4, h4⟩
            rw [List.take_length] at e4
            have e4 : ts.map (·.2) = allOn bs x0 sx SS := e4
            have nDr : D ≠ ro := (ne_of_none hr3 hD).symm
            have neT : ts ≠ [] := by
              intro z
              subst z
              cases SS with
              | nil => exact neS rfl
              | cons st SS =>
                have hc := (hS st List.mem_cons_self).2
                rw [can_onw] at hc
                have e4 : [] = onw bs x0 sx st ++ SS.flatMap (onw bs x0 sx) := e4
                cases q : onw bs x0 sx st with
                | nil => rw [q] at hc; cases hc
                | cons a b => rw [q] at e4; cases e4
            have lts : ts.length ≤ 896 := by
              have h1 := flat_le (f := onw bs x0 sx) (m := 7) (l := SS) onl
              have h2 := congrArg List.length e4
              rw [List.length_map] at h2
              unfold allOn at h2
              omega
            have memT : ∀ e, e ∈ ts.map (·.2) → ∃ st ∈ SS, e ∈ onw bs x0 sx st := fun e h => by
              rw [e4] at h
              exact allOn_mem.mp h
            refine ⟨_, rfl, _, .inl ⟨_, SqL.of hD4, rfl⟩, ?_⟩
            have et : ((ts.map fun t => V.ref t.1).isEmpty) = false := by
              cases ts with
              | nil => exact absurd rfl neT
              | cons a b => rfl
            rw [et]
            refine iteF ?_
            refine ⟨_, rfl, D, rfl, ⟨_, SqL.of hD4⟩, fun D5 nD5 => ?_⟩
            refine sc_pick (walk_lst (K := K) (a := D) (l := ts) (f := fun t => V.ref t.1)) ts rfl (by omega) (fun _ => true) (fun t => (.inl t.2.1 : Key)) nD5 (fun H' s => s.seq (SqL.of hD4)) ?_ ?_
            · rintro m y t H5 H5' Tk Nk et s5 ⟨rfl, t', et', rfl⟩ kT kF
              rw [et] at et'
              cases et'
              refine ⟨t.1, _, rfl, SqT.of' (s5 _ _ (h4 t (List.mem_of_getElem? et))), rfl, _, _, rfl, _, _, rfl, rfl, rfl, tYes_of (iteT ?_)⟩
              exact ⟨_, rfl, kT _ rfl (Same.refl _)⟩
            · intro H5 L s5 ndL memL hL
              obtain ⟨ns, rfl⟩ := keys_inl fun k hk => by
                obtain ⟨t, _, _, e⟩ := (memL k).mp hk
                exact ⟨t.2.1, e.symm⟩
              have ndn : ns.Nodup := nodup_of_map ndL
              have memN : ∀ d, d ∈ ns ↔ ∃ e ∈ ts.map (·.2), e.1 = d := fun d => by
                have h0 : d ∈ ns ↔ (.inl d : Key) ∈ ns.map Sum.inl := by
                  rw [List.mem_map]
                  exact ⟨fun h => ⟨d, h, rfl⟩, fun ⟨a, h, e⟩ => by injection e with e; rw [← e]; exact h⟩
                rw [h0, memL]
                constructor
                · rintro ⟨t, ht, _, e⟩
                  injection e with e
                  exact ⟨t.2, List.mem_map_of_mem (f := (·.2)) ht, e⟩
                · rintro ⟨e, he, rfl⟩
                  obtain ⟨t, ht, rfl⟩ := List.mem_map.mp he
                  exact ⟨t, ht, rfl, rfl⟩
              have fewN : ns.length ≤ 7 := by
                have h1 := sub_len (D := drs 7) ndn fun d hd => by
                  obtain ⟨e, he, rfl⟩ := (memN d).mp hd
                  obtain ⟨st, hst, ho⟩ := memT e he
                  have h2 := on_drawer ho
                  have h3 := RR.len st (hS st hst).1
                  unfold drs
                  exact List.mem_map.mpr ⟨e.1.toNat, List.mem_range.mpr (by omega), by omega⟩
                rw [drs_len] at h1
                exact h1
              refine ⟨D5, ns, rfl, hL, by omega, fun ns' N5 pn so nN5 => ?_⟩
              obtain ⟨s6, f6⟩ := new_at (o := .lst (ns'.map V.int)) nN5
              generalize upd H5 N5 (.lst (ns'.map V.int)) = H6 at s6 f6 ⊢
              have s36 := (s4.trans s5).trans s6
              have hr6 := s36 _ _ hr3
              have memN' : ∀ d, d ∈ ns' ↔ ∃ e ∈ allOn bs x0 sx SS, e.1 = d := fun d => by rw [pn.mem_iff, memN, e4]
              have neA : allOn bs x0 sx SS ≠ [] := by
                rw [← e4]
                cases ts with
                | nil => exact absurd rfl neT
                | cons a b => intro z; cases z
              have hD6 := (s5.trans s6) _ _ hD4
              have h46 : ∀ t ∈ ts, H6 t.1 = some (plO t.2) := fun t ht => (s5.trans s6) _ _ (h4 t ht)
              have s36h : Same (hid ro H3) (hid ro H6) := hid_same' s36
              refine ⟨fun σ' H' => σ' = [some (.ref c), some (.ref l), some (.ref sl), some (.ref ro), some (.ref d), some (.ref D), some (.ref N5), none, none, none, none, none] ∧ H' = upd H6 ro (.lst ((r ++ [told1 (allOn bs x0 sx SS)]).map thV)), ?_, ?_⟩
              · refine ⟨_, rfl, .inl ⟨rfl, _, .inl (.inl hr6)⟩, ?_⟩
                refine ⟨_, rfl, N5, _, rfl, .inl (SqL.of f6), rfl, _, rfl, ?_⟩
                have put : ∀ o, told1 (allOn bs x0 sx SS) = o → upd H6 ro (.lst (r.map thV ++ [thV o])) = upd H6 ro (.lst ((r ++ [told1 (allOn bs x0 sx SS)]).map thV)) := fun o e => by
                  rw [e, List.map_append]
                  rfl
                match ns', so, memN', f6 with
                | [], _, memN', _ =>
                  exfalso
                  obtain ⟨e, es, q⟩ := List.exists_cons_of_ne_nil neA
                  have := (memN' e.1).mpr ⟨e, by rw [q]; exact List.mem_cons_self, rfl⟩
                  cases this
                | [d1], _, memN', f6 =>
                  refine iteT ?_
                  refine ⟨_, rfl, N5, _, 0, .int d1, rfl, rfl, SqL.of f6, atI_nat (j := 0) rfl, ?_⟩
                  refine ⟨ro, _, _, rfl, rfl, hr6, by rw [List.length_map]; exact small1000 (by omega), ?_⟩
                  refine ⟨rfl, put (some d1) (told_one neA fun y hy => ?_)⟩
                  exact List.mem_singleton.mp ((memN' y.1).mpr ⟨y, hy, rfl⟩)
                | d1 :: d2 :: more, _, memN', f6 =>
                  refine iteF ?_
                  refine ⟨ro, _, _, rfl, rfl, hr6, by rw [List.length_map]; exact small1000 (by omega), ?_⟩
                  refine ⟨rfl, put none ?_⟩
                  obtain ⟨a, ha, ea⟩ := (memN' d1).mp List.mem_cons_self
                  obtain ⟨b, hb, eb⟩ := (memN' d2).mp (List.mem_cons_of_mem _ List.mem_cons_self)
                  refine told_two ha hb fun z => ?_
                  have nd' := pn.nodup_iff.mpr ndn
                  rw [List.nodup_cons] at nd'
                  exact nd'.1 (by rw [← ea, z, eb]; exact List.mem_cons_self)
              · rintro σ' H' ⟨rfl, rfl⟩
                have bro : ∀ b o, b ≠ ro → H6 b = some o → (upd H6 ro (.lst ((r ++ [told1 (allOn bs x0 sx SS)]).map thV))) b = some o := fun b o hb e => by
                  rw [upd_ne hb]
                  exact e
                have hr7 : (upd H6 ro (.lst ((r ++ [told1 (allOn bs x0 sx SS)]).map thV))) ro = some (.lst ((r ++ [told1 (allOn bs x0 sx SS)]).map thV)) := upd_same
                have hD7 := bro _ _ nDr hD6
                have h47 : ∀ t ∈ ts, (upd H6 ro (.lst ((r ++ [told1 (allOn bs x0 sx SS)]).map thV))) t.1 = some (plO t.2) := fun t ht => bro _ _ (ne_of (h46 t ht) hr6 (plO_lst _ _)) (h46 t ht)
                have s37h : Same (hid ro H3) (hid ro (upd H6 ro (.lst ((r ++ [told1 (allOn bs x0 sx SS)]).map thV)))) := s36h.trans (hid_mono bro)
                generalize upd H6 ro (.lst ((r ++ [told1 (allOn bs x0 sx SS)]).map thV)) = H7 at hr7 hD7 h47 s37h ⊢
                refine ⟨_, rfl, D, rfl, ⟨_, SqL.of hD7⟩, fun D8 nD8 => ?_⟩
                refine sc_pick (walk_lst (K := K) (a := D) (l := ts) (f := fun t => V.ref t.1)) ts rfl (by omega) (fun _ => true) (fun t => (.inr (sstr t.2.2) : Key)) nD8 (fun H' s => s.seq (SqL.of hD7)) ?_ ?_
                · rintro m y t H8 H8' Tk Nk et s8 ⟨rfl, t', et', rfl⟩ kT kF
                  rw [et] at et'
                  cases et'
                  refine ⟨t.1, _, rfl, SqT.of' (s8 _ _ (h47 t (List.mem_of_getElem? et))), rfl, _, _, rfl, _, _, rfl, rfl, rfl, tYes_of (iteT ?_)⟩
                  exact ⟨_, rfl, kT _ rfl (Same.refl _)⟩
                · intro H8 L2 s8 ndL2 memL2 hL2
                  obtain ⟨S2, rfl⟩ := keys_inr fun k hk => by
                    obtain ⟨t, _, _, e⟩ := (memL2 k).mp hk
                    exact ⟨t.2.2, e.symm⟩
                  have nd2 : S2.Nodup := nodup_of_map (nodup_of_map ndL2)
                  have mem2 : ∀ b, b ∈ S2 ↔ b ∈ (allOn bs x0 sx SS).map (·.2) := fun b => by
                    have h0 : b ∈ S2 ↔ (.inr (sstr b) : Key) ∈ (S2.map sstr).map Sum.inr := by
                      rw [List.map_map, List.mem_map]
                      exact ⟨fun h => ⟨b, h, rfl⟩, fun ⟨a, h, e⟩ => by
                        have e : (.inr (sstr a) : Key) = .inr (sstr b) := e
                        injection e with e
                        rw [← sstr_inj e]
                        exact h⟩
                    rw [h0, memL2, ← e4, List.map_map, List.mem_map]
                    constructor
                    · rintro ⟨t, ht, _, e⟩
                      injection e with e
                      exact ⟨t, ht, sstr_inj e⟩
                    · rintro ⟨t, ht, e⟩
                      exact ⟨t, ht, rfl, by rw [← e]; rfl⟩
                  refine ⟨D8, S2.map sstr, rfl, hL2, fun ys N9 pm so9 nN9 => ?_⟩
                  obtain ⟨S3, rfl, p3⟩ := perm_stA pm
                  obtain ⟨s9, f9⟩ := new_at (o := .lst ((S3.map sstr).map V.str)) nN9
                  generalize upd H8 N9 (.lst ((S3.map sstr).map V.str)) = H9 at s9 f9 ⊢
                  have s79 := s8.trans s9
                  have mem3 : ∀ b, b ∈ S3 ↔ b ∈ (allOn bs x0 sx SS).map (·.2) := fun b => by rw [p3.mem_iff, mem2]
                  refine ⟨N9, S3, r ++ [told1 (allOn bs x0 sx SS)], _, _, _, rfl, (s3.trans s37h).trans (hid_same' s79), s79 _ _ hr7, by rw [List.length_append, rl]; rfl, (ne_of_none (s8 _ _ hr7) nN9).symm, ?_, p3.nodup_iff.mpr nd2, fun z => ?_, fun st hst => ?_, ?_⟩
                  · rw [f9, List.map_map]
                    rfl
                  · obtain ⟨e, es, q⟩ := List.exists_cons_of_ne_nil neA
                    have := (mem3 e.2).mpr (by rw [q]; exact List.mem_cons_self)
                    rw [z] at this
                    cases this
                  · obtain ⟨e, he, rfl⟩ := List.mem_map.mp ((mem3 st).mp hst)
                    obtain ⟨s0', hs0, ho⟩ := allOn_mem.mp he
                    exact ⟨RR.allIn s0' (hS s0' hs0).1 e (agP_sub (List.mem_filter.mp ho).1), on_can ho⟩
                  · rw [hle, List.append_assoc]
                    show r ++ (told1 (allOn bs x0 sx SS) :: sureL bs sx ((allOn bs x0 sx SS).map (·.2))) = r ++ (told1 (allOn bs x0 sx SS) :: sureL bs sx S3)
                    rw [sure_congr (S' := (allOn bs x0 sx SS).map (·.2)) mem3]
      · rintro σ H3 ⟨sl, SS, r, u4, u5, u6, rfl, s3, hr3, rl, nsr, hsl, ndS, neS, hS, hle⟩
        have e0 : xs.drop (ds.map V.ref).length = [] := by
          rw [List.length_map, dlen, List.drop_length]
        rw [e0] at hle
        have hle : sureL bs xs [shutS n] = r := by rw [hle]; exact List.append_nil r
        refine ⟨_, rfl, .inl ⟨ro, _, rfl, SqL.of hr3, fun t nt => ?_⟩⟩
        refine kn t _ ((back H3 s3).trans (same_upd nt)) ?_
        rw [upd_same, hle]
    · have hcan' : canF bs xs (shutS n) = false := by simpa using hcan
      have kn := (k.resolve_right fun z => by rw [hcan'] at z; cases z.1).2
      obtain ⟨x0, xr, rfl⟩ : ∃ x0 xr, xs = x0 :: xr := by
        cases xs with
        | nil => cases hcan'
        | cons a b => exact ⟨a, b, rfl⟩
      refine for_list (K := K) (a := q) (xs := ds.map V.ref) (fun i σ H' => i = 0 ∧ H' = H2 ∧ ∃ (u4 u5 u6 : Option V), σ = [some (.ref c), some (.ref l), some (.ref sl), some (.ref ro), u4, u5, u6, none, none, none, none, none])
        ⟨rfl, rfl, _, _, _, rfl⟩ (fun i σ H' _ ⟨_, e, _⟩ => by rw [e]; exact SqL.of hds) ?_ ?_
      · rintro i x σ H3 hx ⟨rfl, rfl, u4, u5, u6, rfl⟩
        rw [List.getElem?_map] at hx
        cases ed : ds[0]? with
        | none => rw [ed] at hx; cases hx
        | some d =>
          rw [ed] at hx
          cases hx
          obtain ⟨fd', hd3, pp⟩ := dd 0 d ed
          rw [List.drop_zero] at hd3
          have hsl := s2 _ _ fA1
          refine ⟨_, rfl, sl, rfl, ⟨_, SqL.of hsl⟩, fun D hD => ?_⟩
          refine lc2_by (walk_lst (K := K) (a := sl) (l := [shutS n]) (f := fun st => V.str (sstr st))) (fun j H' => Same H3 H' ∧ H' D = some (.lst []))
            ⟨same_upd hD, upd_same⟩ (fun j H' _ z => SqL.of (z.1 _ _ hsl)) ?_ ?_
          · rintro j y H4 H4' hj ⟨s4, hD4⟩ ⟨rfl, st, est, rfl⟩
            have est : st = shutS n := List.mem_singleton.mp (List.mem_of_getElem? est)
            subst est
            refine ⟨rfl, tYes_of (iteT ?_)⟩
            refine ⟨_, rfl, d, rfl, .inl ⟨_, .inl (s4 _ _ hd3)⟩, _, rfl, (by show 0 ≤ sizeLine; decide), fun e0 ne0 => ?_⟩
            obtain ⟨s5, f5⟩ := new_at (o := .lst []) ne0
            generalize upd H4' e0 (.lst []) = H5 at s5 f5 ⊢
            have dg := DGet.k (k := .inr (sstr (shutS n))) (s5 _ _ (s4 _ _ hd3))
            rw [tab_val, if_neg fun z => hcan (List.mem_filter.mp z).2] at dg
            refine ⟨_, dg, e0, rfl, ⟨_, SqL.of f5⟩, ?_⟩
            refine lc_in (walk_lst (K := K) (a := e0) (l := ([] : List Nat)) (f := fun _ => V.non)) (fun m H' => Same H3 H' ∧ Same H5 H' ∧ H' D = some (.lst [])) ⟨s4.trans s5, Same.refl _, s5 _ _ hD4⟩ (fun m H' _ z => SqL.of (z.2.1 _ _ f5)) ?_ ?_
            · rintro m y H6 H6' hm2 _ ⟨_, z, ez, _⟩
              cases ez
            · rintro H6 ⟨s6, _, hD6⟩
              exact ⟨s6, hD6⟩
          · rintro H4 ⟨s4, hD4⟩
            refine ⟨_, rfl, _, .inl ⟨_, SqL.of hD4, rfl⟩, ?_⟩
            refine iteT ?_
            exact kn _ ((back _ (Same.refl _)).trans s4)
      · rintro σ H3 ⟨h0, _⟩
        exfalso
        rw [List.length_map, dlen] at h0
        cases h0
end
end DL

set_option Elab.async false
set_option maxRecDepth 100000
set_option maxHeartbeats 1000000
namespace DL
open PySem L2 HT TL RZ
/-! ### rows that agree, one by one -/
def RowA (bs : List Bar) : List (Option Int) → List Bool → List Int → Prop
  | [], _, ds => ds = []
  | x :: xs, st, ds => ∃ d r, ds = d :: r ∧ d ∈ freeL bs st ∧ agr x d = true ∧ RowA bs xs (flip st d) r
theorem RowA.len {bs : List Bar} : ∀ {xs : List (Option Int)} {st : List Bool} {ds : List Int}, RowA bs xs st ds → ds.length = xs.length
  | [], _, _, h => by
    have h : _ = [] := h
    rw [h]
    rfl
  | x :: xs, st, ds, h => by
    obtain ⟨d, r, rfl, _, _, h⟩ := h
    rw [List.length_cons, List.length_cons, h.len]
theorem mem_allP {bs : List Bar} {x : Option Int} {st : List Bool} {e : Pl} : e ∈ agP x (allP bs) st ↔ e.1 ∈ freeL bs st ∧ e.2 = flip st e.1 ∧ agr x e.1 = true := by
  unfold agP allP
  rw [List.mem_filter, List.mem_map]
  constructor
  · rintro ⟨⟨d, hd, rfl⟩, h⟩
    exact ⟨hd, rfl, h⟩
  · rintro ⟨h1, h2, h3⟩
    exact ⟨⟨e.1, h1, by rw [← h2]⟩, h3⟩
theorem mem_onw {bs : List Bar} {x : Option Int} {xs : List (Option Int)} {st : List Bool} {e : Pl} : e ∈ onw bs x xs st ↔ e.1 ∈ freeL bs st ∧ e.2 = flip st e.1 ∧ agr x e.1 = true ∧ canF bs xs e.2 = true := by
  unfold onw
  rw [List.mem_filter, mem_allP, and_assoc, and_assoc]
theorem can_iff {bs : List Bar} : ∀ {xs : List (Option Int)} {st : List Bool}, canF bs xs st = true ↔ ∃ ds, RowA bs xs st ds
  | [], st => ⟨fun _ => ⟨[], rfl⟩, fun _ => rfl⟩
  | x :: xs, st => by
    show (agP x (allP bs) st).any (fun e => canF bs xs e.2) = true ↔ _
    rw [List.any_eq_true]
    constructor
    · rintro ⟨e, he, hc⟩
      obtain ⟨h1, h2, h3⟩ := mem_allP.mp he
      obtain ⟨r, hr⟩ := can_iff.mp hc
      exact ⟨e.1 :: r, e.1, r, rfl, h1, h3, by rw [← h2]; exact hr⟩
    · rintro ⟨ds, d, r, rfl, h1, h3, hr⟩
      exact ⟨(d, flip st d), mem_allP.mpr ⟨h1, rfl, h3⟩, can_iff.mpr ⟨r, hr⟩⟩
theorem on_row {bs : List Bar} {x : Option Int} {xs : List (Option Int)} {st : List Bool} {e : Pl} (h : e ∈ onw bs x xs st) : ∃ r, RowA bs xs e.2 r ∧ RowA bs (x :: xs) st (e.1 :: r) := by
  obtain ⟨h1, h2, h3, h4⟩ := mem_onw.mp h
  obtain ⟨r, hr⟩ := can_iff.mp h4
  exact ⟨r, hr, e.1, r, rfl, h1, h3, by rw [← h2]; exact hr⟩
theorem row_on {bs : List Bar} {x : Option Int} {xs : List (Option Int)} {st : List Bool} {ds : List Int} (h : RowA bs (x :: xs) st ds) : ∃ e r, e ∈ onw bs x xs st ∧ ds = e.1 :: r ∧ RowA bs xs e.2 r := by
  obtain ⟨d, r, rfl, h1, h3, hr⟩ := h
  exact ⟨(d, flip st d), r, mem_onw.mpr ⟨h1, rfl, h3, can_iff.mpr ⟨r, hr⟩⟩, rfl, hr⟩
/-- each place agrees, each pull goes -/
theorem RowA.at' {bs : List Bar} : ∀ {xs : List (Option Int)} {st : List Bool} {ds : List Int}, RowA bs xs st ds → ∀ {k : Nat} {x : Option Int} {d : Int}, xs[k]? = some x → ds[k]? = some d → agr x d = true
  | [], _, _, h, k, x, d, e, _ => by cases e
  | y :: xs, st, ds, h, k, x, d, e, e2 => by
    obtain ⟨d0, r, rfl, h1, h2, hr⟩ := h
    cases k with
    | zero =>
      cases e
      cases e2
      exact h2
    | succ k => exact hr.at' (k := k) e e2
def runF (st : List Bool) (ds : List Int) : List Bool := ds.foldl flip st
theorem RowA.split {bs : List Bar} : ∀ {xs : List (Option Int)} {st : List Bool} {ds : List Int}, RowA bs xs st ds → ∀ k, RowA bs (xs.drop k) (runF st (ds.take k)) (ds.drop k)
  | xs, st, ds, h, 0 => h
  | [], st, ds, h, k + 1 => by
    have h : ds = [] := h
    subst h
    exact rfl
  | x :: xs, st, ds, h, k + 1 => by
    obtain ⟨d, r, rfl, h1, h2, hr⟩ := h
    exact hr.split k
theorem run_len (st : List Bool) (ds : List Int) : (runF st ds).length = st.length := by
  unfold runF
  induction ds generalizing st with
  | nil => rfl
  | cons d ds ih => rw [List.foldl_cons, ih, flip_len]
theorem RowA.free {bs : List Bar} {xs : List (Option Int)} {st : List Bool} {ds : List Int} (h : RowA bs xs st ds) {k : Nat} {d : Int} (e : ds[k]? = some d) : d ∈ freeL bs (runF st (ds.take k)) := by
  obtain ⟨h1, h2⟩ := List.getElem?_eq_some_iff.mp e
  have hs := h.split k
  have hk : k < xs.length := by rw [← h.len]; exact h1
  rw [List.drop_eq_getElem_cons hk, List.drop_eq_getElem_cons h1, h2] at hs
  obtain ⟨d', r, e', h3, _⟩ := hs
  injection e' with e1 e2
  rw [e1]
  exact h3
/-- what is sure stands in all rows -/
theorem sure_iff {bs : List Bar} : ∀ {xs : List (Option Int)} {S : List (List Bool)} {k : Nat} {d : Int}, S ≠ [] → (∀ st ∈ S, canF bs xs st = true) → k < xs.length →
    ((sureL bs xs S)[k]? = some (some d) ↔ ∀ st ∈ S, ∀ ds, RowA bs xs st ds → ds[k]? = some d)
  | [], _, k, _, _, _, hk => absurd hk (Nat.not_lt_zero k)
  | x :: xs, S, k, d, ne, hc, hk => by
    have neA : ∀ st ∈ S, ∃ e, e ∈ onw bs x xs st := fun st h => by
      obtain ⟨ds, hr⟩ := can_iff.mp (hc st h)
      obtain ⟨e, r, he, _⟩ := row_on hr
      exact ⟨e, he⟩
    cases k with
    | zero =>
      show some (told1 (allOn bs x xs S)) = some (some d) ↔ _
      constructor
      · intro h st hst ds hr
        injection h with h
        obtain ⟨_, all⟩ := told_of h
        obtain ⟨e, r, he, rfl, _⟩ := row_on hr
        have := all e (allOn_mem.mpr ⟨st, hst, he⟩)
        rw [← this]
        rfl
      · intro h
        congr 1
        refine told_one (fun z => ?_) fun y hy => ?_
        · obtain ⟨st, ss, q⟩ := List.exists_cons_of_ne_nil ne
          have hst : st ∈ S := by rw [q]; exact List.mem_cons_self
          obtain ⟨e, he⟩ := neA st hst
          have := allOn_mem.mpr ⟨st, hst, he⟩
          rw [z] at this
          cases this
        · obtain ⟨st, hst, he⟩ := allOn_mem.mp hy
          obtain ⟨r, _, hr⟩ := on_row he
          have := h st hst _ hr
          injection this
    | succ k =>
      show (sureL bs xs ((allOn bs x xs S).map (·.2)))[k]? = some (some d) ↔ _
      rw [sure_iff (S := (allOn bs x xs S).map (·.2))]
      · constructor
        · intro h st hst ds hr
          obtain ⟨e, r, he, rfl, hr2⟩ := row_on hr
          exact h e.2 (List.mem_map_of_mem (f := (·.2)) (allOn_mem.mpr ⟨st, hst, he⟩)) r hr2
        · intro h b hb ds hr
          obtain ⟨e, he, rfl⟩ := List.mem_map.mp hb
          obtain ⟨st, hst, he⟩ := allOn_mem.mp he
          obtain ⟨a1, a2, a3, _⟩ := mem_onw.mp he
          exact h st hst (e.1 :: ds) ⟨e.1, ds, rfl, a1, a3, by rw [← a2]; exact hr⟩
      · intro z
        obtain ⟨st, ss, q⟩ := List.exists_cons_of_ne_nil ne
        have hst : st ∈ S := by rw [q]; exact List.mem_cons_self
        obtain ⟨e, he⟩ := neA st hst
        have := List.mem_map_of_mem (f := (·.2)) (allOn_mem.mpr ⟨st, hst, he⟩)
        rw [z] at this
        cases this
      · intro b hb
        obtain ⟨e, he, rfl⟩ := List.mem_map.mp hb
        obtain ⟨st, hst, he⟩ := allOn_mem.mp he
        exact on_can he
      · simpa using hk
/-! ### the rows as a list, in their order -/
def rowsL (bs : List Bar) : List (Option Int) → List Bool → List (List Int × List Bool)
  | [], st => [([], st)]
  | x :: xs, st => (agP x (allP bs) st).flatMap fun e => (rowsL bs xs e.2).map fun r => (e.1 :: r.1, r.2)
theorem mem_rowsL {bs : List Bar} : ∀ {xs : List (Option Int)} {st : List Bool} {r : List Int × List Bool}, r ∈ rowsL bs xs st ↔ RowA bs xs st r.1 ∧ r.2 = runF st r.1
  | [], st, r => by
    show r ∈ [([], st)] ↔ _
    rw [List.mem_singleton]
    constructor
    · rintro rfl
      exact ⟨rfl, rfl⟩
    · rintro ⟨h1, h2⟩
      have h1 : r.1 = [] := h1
      rw [h1] at h2
      exact Prod.ext h1 h2
  | x :: xs, st, r => by
    show r ∈ (agP x (allP bs) st).flatMap _ ↔ _
    rw [List.mem_flatMap]
    constructor
    · rintro ⟨e, he, hr⟩
      obtain ⟨q, hq, rfl⟩ := List.mem_map.mp hr
      obtain ⟨a1, a2, a3⟩ := mem_allP.mp he
      obtain ⟨b1, b2⟩ := mem_rowsL.mp hq
      refine ⟨⟨e.1, q.1, rfl, a1, a3, by rw [← a2]; exact b1⟩, ?_⟩
      show q.2 = runF (flip st e.1) q.1
      rw [b2, a2]
    · rintro ⟨⟨d, q, e1, a1, a3, hq⟩, h2⟩
      refine ⟨(d, flip st d), mem_allP.mpr ⟨a1, rfl, a3⟩, List.mem_map.mpr ⟨(q, r.2), mem_rowsL.mpr ⟨hq, ?_⟩, Prod.ext e1.symm rfl⟩⟩
      rw [h2, e1]
      rfl
theorem endsA_rows {bs : List Bar} : ∀ (xs : List (Option Int)) (L : List (List Bool)), endsA bs L xs = L.flatMap fun st => (rowsL bs xs st).map (·.2)
  | [], L => by
    show L = L.flatMap fun st => [st]
    induction L with
    | nil => rfl
    | cons a L ih => rw [List.flatMap_cons, ← ih]; rfl
  | x :: xs, L => by
    show endsA bs (L.flatMap (nxA bs x)) xs = _
    rw [endsA_rows xs, List.flatMap_assoc]
    congr 1
    funext st
    show ((agP x (allP bs) st).map (·.2)).flatMap _ = ((agP x (allP bs) st).flatMap _).map _
    rw [List.map_flatMap, List.flatMap_map]
    congr 1
    funext e
    rw [List.map_map]
    rfl
theorem ends_iff {bs : List Bar} {xs : List (Option Int)} {st b : List Bool} : b ∈ endsA bs [st] xs ↔ ∃ ds, RowA bs xs st ds ∧ b = runF st ds := by
  rw [endsA_rows, List.flatMap_cons, List.flatMap_nil, List.append_nil, List.mem_map]
  constructor
  · rintro ⟨r, hr, rfl⟩
    obtain ⟨h1, h2⟩ := mem_rowsL.mp hr
    exact ⟨r.1, h1, h2⟩
  · rintro ⟨ds, h1, h2⟩
    exact ⟨(ds, b), mem_rowsL.mpr ⟨h1, h2⟩, rfl⟩
theorem ends_none {bs : List Bar} {xs : List (Option Int)} {st : List Bool} : endsA bs [st] xs = [] ↔ ¬ ∃ ds, RowA bs xs st ds := by
  constructor
  · rintro h ⟨ds, hr⟩
    have := ends_iff.mpr ⟨ds, hr, rfl⟩
    rw [h] at this
    cases this
  · intro h
    cases q : endsA bs [st] xs with
    | nil => rfl
    | cons b l =>
      exfalso
      obtain ⟨ds, hr, _⟩ := ends_iff.mp (show b ∈ endsA bs [st] xs by rw [q]; exact List.mem_cons_self)
      exact h ⟨ds, hr⟩
/-- the least one is the first one of all -/
theorem least_head {bs : List Bar} : ∀ {xs : List (Option Int)} {st : List Bool}, canF bs xs st = true → ∃ e l, rowsL bs xs st = (leastR bs xs st, e) :: l
  | [], st, _ => ⟨st, [], rfl⟩
  | x :: xs, st, h => by
    obtain ⟨e, es, h1, h2, h3⟩ := least_step h
    have skip : ∀ (l : List Pl) (es : List Pl), l.filter (fun e => canF bs xs e.2) = e :: es → ∃ l', (l.flatMap fun e => (rowsL bs xs e.2).map fun r => (e.1 :: r.1, r.2)) = ((rowsL bs xs e.2).map fun r => (e.1 :: r.1, r.2)) ++ l' := by
      intro l
      induction l with
      | nil => intro es h; cases h
      | cons a l ih =>
        intro es h
        rw [List.filter_cons] at h
        by_cases q : canF bs xs a.2 = true
        · rw [if_pos q] at h
          injection h with h4 h5
          subst h4
          exact ⟨_, List.flatMap_cons⟩
        · rw [if_neg q] at h
          obtain ⟨l', hl⟩ := ih es h
          refine ⟨l', ?_⟩
          have e0 : rowsL bs xs a.2 = [] := by
            cases w : rowsL bs xs a.2 with
            | nil => rfl
            | cons r rs =>
              exfalso
              have := (mem_rowsL.mp (show r ∈ rowsL bs xs a.2 by rw [w]; exact List.mem_cons_self)).1
              exact q (can_iff.mpr ⟨_, this⟩)
          rw [List.flatMap_cons, e0, hl]
          rfl
    obtain ⟨l', hl⟩ := skip _ es h1
    obtain ⟨e', l2, h4⟩ := least_head h2
    refine ⟨e', l2.map (fun r => (e.1 :: r.1, r.2)) ++ l', ?_⟩
    show (agP x (allP bs) st).flatMap _ = _
    rw [hl, h4, h3]
    rfl
/-! ### the least one and the order of tuples -/
theorem drs_asc (n : Nat) : (drs n).Pairwise (· < ·) := by
  unfold drs
  rw [List.pairwise_map]
  exact List.pairwise_lt_range.imp fun {a b} h => by omega
end DL

set_option Elab.async false
set_option maxRecDepth 100000
set_option maxHeartbeats 2000000

set_option Elab.async false
set_option maxRecDepth 100000
set_option maxHeartbeats 1000000
namespace DL
open PySem L2 HT TL RZ
theorem set_row {bs : List Bar} : ∀ {xs : List (Option Int)} {k : Nat} {x : Option Int} {d : Int} {st : List Bool} {ds : List Int}, xs[k]? = some x → agr x d = true →
    (RowA bs (xs.take k ++ [some d] ++ xs.drop (k + 1)) st ds ↔ RowA bs xs st ds ∧ ds[k]? = some d)
  | [], k, x, d, st, ds, e, _ => by cases e
  | y :: xs, 0, x, d, st, ds, e, ha => by
    cases e
    show RowA bs (some d :: xs) st ds ↔ _
    constructor
    · rintro ⟨a, r, rfl, h1, h2, hr⟩
      have h2 : decide (d = a) = true := h2
      have h2 := of_decide_eq_true h2
      subst h2
      exact ⟨⟨d, r, rfl, h1, ha, hr⟩, rfl⟩
    · rintro ⟨⟨a, r, rfl, h1, h2, hr⟩, e⟩
      cases e
      exact ⟨_, r, rfl, h1, decide_eq_true rfl, hr⟩
  | y :: xs, k + 1, x, d, st, ds, e, ha => by
    show RowA bs (y :: (xs.take k ++ [some d] ++ xs.drop (k + 1))) st ds ↔ _
    constructor
    · rintro ⟨a, r, rfl, h1, h2, hr⟩
      obtain ⟨g1, g2⟩ := (set_row (k := k) e ha).mp hr
      exact ⟨⟨a, r, rfl, h1, h2, g1⟩, g2⟩
    · rintro ⟨⟨a, r, rfl, h1, h2, hr⟩, e2⟩
      exact ⟨a, r, rfl, h1, h2, (set_row (k := k) e ha).mpr ⟨hr, e2⟩⟩
theorem RowA.low {bs : List Bar} {xs : List (Option Int)} {st : List Bool} {ds : List Int} (h : RowA bs xs st ds) {k : Nat} {d : Int} (e : ds[k]? = some d) : 0 ≤ d ∧ d < st.length := by
  have := free_in (h.free e)
  rw [run_len] at this
  exact this
theorem sure_one {bs : List Bar} {xs : List (Option Int)} {st : List Bool} (hc : canF bs xs st = true) {k : Nat} (hk : k < xs.length) : ∃ o, (sureL bs xs [st])[k]? = some o ∧ ∀ d, o = some d ↔ ∀ ds, RowA bs xs st ds → ds[k]? = some d := by
  have hl : k < (sureL bs xs [st]).length := by rw [sure_len]; exact hk
  refine ⟨_, List.getElem?_eq_getElem hl, fun d => ?_⟩
  have := sure_iff (bs := bs) (S := [st]) (d := d) (by intro z; cases z) (fun s hs => by rw [List.mem_singleton.mp hs]; exact hc) hk
  rw [List.getElem?_eq_getElem hl] at this
  constructor
  · intro h ds hr
    exact this.mp (by rw [h]) st (List.mem_singleton.mpr rfl) ds hr
  · intro h
    have := this.mpr fun s hs ds hr => by
      rw [List.mem_singleton.mp hs] at hr
      exact h ds hr
    injection this
def oneOf : List Int → Option Int
  | [d] => some d
  | _ => none
/-- the drawers with which rows agree, at a place -/
def goodL (bs : List Bar) (n : Nat) (xs : List (Option Int)) (k : Nat) (x : Option Int) : List Int := ((drs n).filter (agr x)).filter fun d => decide (0 < (endsA bs [shutS n] (xs.take k ++ [some d] ++ xs.drop (k + 1))).length)
theorem mem_good {bs : List Bar} {n : Nat} {xs : List (Option Int)} {k : Nat} {x : Option Int} {d : Int} (e : xs[k]? = some x) : d ∈ goodL bs n xs k x ↔ ∃ ds, RowA bs xs (shutS n) ds ∧ ds[k]? = some d := by
  unfold goodL
  rw [List.mem_filter, List.mem_filter, decide_eq_true_eq]
  have pos : ∀ {l : List (List Bool)}, 0 < l.length ↔ l ≠ [] := fun {l} => by
    cases l with
    | nil => exact ⟨fun h => absurd h (Nat.lt_irrefl 0), fun h => absurd rfl h⟩
    | cons a l => exact ⟨fun _ z => (by cases z), fun _ => Nat.succ_pos _⟩
  rw [pos]
  constructor
  · rintro ⟨⟨h1, h2⟩, h3⟩
    have h3 : ∃ ds, RowA bs (xs.take k ++ [some d] ++ xs.drop (k + 1)) (shutS n) ds := Classical.byContradiction fun z => h3 (ends_none.mpr z)
    obtain ⟨ds, hr⟩ := h3
    exact ⟨ds, (set_row e h2).mp hr⟩
  · rintro ⟨ds, hr, ed⟩
    have ag := hr.at' e ed
    have lo := hr.low ed
    have hn : (shutS n).length = n := List.length_replicate
    rw [hn] at lo
    refine ⟨⟨?_, ag⟩, fun z => ends_none.mp z ⟨ds, (set_row e ag).mpr ⟨hr, ed⟩⟩⟩
    unfold drs
    exact List.mem_map.mpr ⟨d.toNat, List.mem_range.mpr (by omega), by omega⟩
theorem good_nodup (bs : List Bar) (n : Nat) (xs : List (Option Int)) (k : Nat) (x : Option Int) : (goodL bs n xs k x).Nodup := by
  unfold goodL
  refine List.Pairwise.sublist (List.filter_sublist.trans List.filter_sublist) ((drs_asc n).imp fun {a b} h => ?_)
  exact Int.ne_of_lt h
theorem sure_good {bs : List Bar} {n : Nat} {xs : List (Option Int)} (hc : canF bs xs (shutS n) = true) {k : Nat} {x : Option Int} (e : xs[k]? = some x) : (sureL bs xs [shutS n])[k]? = some (oneOf (goodL bs n xs k x)) := by
  have hk := (List.getElem?_eq_some_iff.mp e).1
  obtain ⟨o, h1, h2⟩ := sure_one hc hk
  rw [h1]
  congr 1
  obtain ⟨ds0, hr0⟩ := can_iff.mp hc
  have at0 : ∀ {ds : List Int}, RowA bs xs (shutS n) ds → ∃ d, ds[k]? = some d := fun {ds} hr => ⟨_, List.getElem?_eq_getElem (by rw [hr.len]; exact hk)⟩
  have mem := fun d => mem_good (bs := bs) (n := n) (d := d) e
  have nd := good_nodup bs n xs k x
  generalize goodL bs n xs k x = g at mem nd ⊢
  match g, mem, nd with
  | [], mem, _ =>
    obtain ⟨d, ed⟩ := at0 hr0
    have := (mem d).mpr ⟨ds0, hr0, ed⟩
    cases this
  | [d1], mem, _ =>
    refine (h2 d1).mpr fun ds hr => ?_
    obtain ⟨d, ed⟩ := at0 hr
    have := List.mem_singleton.mp ((mem d).mpr ⟨ds, hr, ed⟩)
    rw [ed, this]
  | d1 :: d2 :: more, mem, nd =>
    show o = none
    cases ho : o with
    | none => rfl
    | some d =>
      exfalso
      have all := (h2 d).mp ho
      obtain ⟨a, ha, ea⟩ := (mem d1).mp List.mem_cons_self
      obtain ⟨b, hb, eb⟩ := (mem d2).mp (List.mem_cons_of_mem _ List.mem_cons_self)
      have e1 := all a ha
      have e2 := all b hb
      rw [ea] at e1
      rw [eb] at e2
      injection e1 with e1
      injection e2 with e2
      rw [List.nodup_cons] at nd
      exact nd.1 (by rw [e1, ← e2]; exact List.mem_cons_self)
end DL

set_option Elab.async false
set_option maxRecDepth 100000
set_option maxHeartbeats 4000000
namespace DL
open PySem L2 HT TL RZ
theorem eqv_nil5 (ds : List PyData) : PyData.eqv (.list ds) (.list []) = ds.isEmpty := by
  cases ds with
  | nil => simp [PyData.eqv, PyData.eqvAll]
  | cons x l => simp [PyData.eqv, PyData.eqvAll]
def thD : Option Int → PyData
  | none => .none
  | some d => .int d
theorem dp_th {K : PySem.W.Frag} {H : Hp} (x : Option Int) : Dp K H (thV x) (thD x) := by
  cases x with
  | none => exact .non
  | some d => exact .int d
theorem dpAll_th {K : PySem.W.Frag} {H : Hp} : ∀ l : List (Option Int), DpAll K H (l.map thV) (l.map thD)
  | [] => .nil
  | x :: l => .cons (dp_th x) (dpAll_th l)
theorem dok_th (l : List (Option Int)) : ∀ d ∈ l.map thD, dok 1 d := fun d hd => by
  obtain ⟨x, _, rfl⟩ := List.mem_map.mp hd
  cases x with
  | none => exact ⟨by simp [thD, PyData.canLay0], by simp [thD, PyData.depth]⟩
  | some e => exact dok_int e
theorem but_none {r D : Addr} {o : HO} {H H' : Hp} (B : But r H H') (hr : H' r = some o) (h : H' D = none) : H D = none := by
  cases e : H D with
  | none => rfl
  | some u =>
    by_cases z : D = r
    · rw [z, hr] at h
      cases h
    · rw [B _ _ z e] at h
      cases h
theorem perm_mem {α : Type} [DecidableEq α] : ∀ {l m : List α}, l.Nodup → m.Nodup → (∀ x, x ∈ l ↔ x ∈ m) → l.Perm m
  | [], m, _, _, h => by
    cases m with
    | nil => exact .nil
    | cons b m => exact absurd ((h b).mpr List.mem_cons_self) (by intro z; cases z)
  | a :: l, m, nl, nm, h => by
    rw [List.nodup_cons] at nl
    have ha := (h a).mp List.mem_cons_self
    refine ((perm_mem nl.2 (nm.erase a) fun x => ?_).cons a).trans (List.perm_cons_erase ha).symm
    rw [nm.mem_erase_iff]
    constructor
    · intro hx
      exact ⟨fun e => nl.1 (e ▸ hx), (h x).mp (List.mem_cons_of_mem _ hx)⟩
    · rintro ⟨hne, hx⟩
      exact (List.mem_cons.mp ((h x).mpr hx)).resolve_left hne
theorem RowOk.at' {H : Hp} {r a : Addr} (R : RowOk H r a) : ∃ xs, H r = some (.lst xs) := by
  obtain ⟨_, _, _, z, _⟩ := R.h
  exact ⟨_, z⟩
theorem iteFS {x y : V} {A B : Prop} (h : x ≠ y) (b : B) : if decide (x = y) = true then A else B := by
  rw [if_neg (fun z => h (of_decide_eq_true z))]
  exact b
end DL

set_option Elab.async false
set_option maxRecDepth 100000
set_option maxHeartbeats 3200000
namespace DL
open PySem PySem.Spec PyProof.Rows L2
/-! ### set(xs), xs a list of ints or texts -/
/-- a set without members, new -/
abbrev bareS (w : World) : Obj := { cls := .type "set", dict := none, data := .set #[] 0 (.fresh 0 0 (!w.params.followText "set-order")) }
/-- L: what the first i of ks are, each once -/
structure MetW (ks : List Key) (i : Nat) (L : List Key) : Prop where
  nd : L.Nodup
  len : L.length ≤ i
  mem : ∀ k, k ∈ L ↔ k ∈ ks.take i
theorem MetW.zero (ks : List Key) : MetW ks 0 [] := ⟨List.nodup_nil, Nat.le_refl _, fun k => by rw [List.take_zero]⟩
theorem MetW.more {ks : List Key} {i : Nat} {L L2 : List Key} {k : Key} (m : MetW ks i L) (e : ks[i]? = some k) (a : Adds k L L2) : MetW ks (i + 1) L2 := by
  have etk : ks.take (i + 1) = ks.take i ++ [k] := by
    obtain ⟨h1, h2⟩ := List.getElem?_eq_some_iff.mp e
    rw [List.take_succ_eq_append_getElem h1, h2]
  by_cases q : k ∈ L
  · rw [a.old q]
    refine ⟨m.nd, Nat.le_succ_of_le m.len, fun j => ?_⟩
    rw [etk, List.mem_append, List.mem_singleton, m.mem j]
    exact ⟨.inl, fun h => h.elim id fun z => by rw [z]; exact (m.mem k).mp q⟩
  · have p := a.new q
    refine ⟨p.nodup_iff.mpr (List.nodup_cons.mpr ⟨q, m.nd⟩), by rw [p.length_eq, List.length_cons]; exact Nat.succ_le_succ m.len, fun j => ?_⟩
    rw [etk, List.mem_append, List.mem_singleton, p.mem_iff, List.mem_cons, m.mem j]
    exact Or.comm
section
variable {P : Program} {w : World} {A : Around} {E : Value → Shared → Prop} {s : Shared}
theorem pour_w {It : Addr} {fp wr : List Addr} {G : Array GenState → Array GenState → Prop} {n : Nat} {Pv : Nat → Value → Prop} {St : Nat → Shared → Prop} {R : Result → Shared → Prop}
    (Wk : WalksS P w A.in1 It fp wr G n Pv St) {D : Addr} (out : D ∉ fp) (ks : List Key) (hn : n = ks.length) (room : ks.length + 1 < scanBound) (hv : ∀ i v, Pv i v → ∃ k, ks[i]? = some k ∧ RelV (kV k) v) :
    ∀ (m i : Nat) (s : Shared), n - i = m → i ≤ n → St i s → (∃ L, SetW P w s.heap D L ∧ MetW ks i L) →
      (∀ s' L, Moved (D :: wr) G s s' → SetW P w s'.heap D L → MetW ks n L → R (.ok (.ret .none)) s') → codeAny (model P w) A (.builtin "set.update.loop" ⟨[.ref D, .ref It], []⟩) R s := by
  have outW : D ∉ wr := fun z => out (Wk.sub _ z)
  have wide : ∀ b ∈ wr, b ∈ D :: wr := fun b z => List.mem_cons_of_mem _ z
  intro m
  induction m with
  | zero =>
    intro i s em ei st ⟨L, S, g⟩ hR
    obtain rfl : i = n := by omega
    refine codeAny_builtin F.entry_set_update_loop ?_ ; rw [Around.under_plainId F.plain_set_update_loop _]
    refine wpAny_bind (m := pyNext (.ref It)) (Wk.done s _ _ st fun s' mv => ?_)
    exact wpAny_pure (hR s' L (mv.mono wide) (S.keep fun o e => mv.heap D o outW e) g)
  | succ m ih =>
    intro i s em ei st ⟨L, S, g⟩ hR
    have lt : i < n := by omega
    refine codeAny_builtin F.entry_set_update_loop ?_ ; rw [Around.under_plainId F.plain_set_update_loop _]
    refine wpAny_bind (m := pyNext (.ref It)) (Wk.item i s _ _ lt st fun v s' pv st' mv => ?_)
    obtain ⟨k, ek, rk⟩ := hv i v pv
    have S1 : SetW P w s'.heap D L := S.keep fun o e => mv.heap D o outW e
    show wpAny _ A.in1 (holding [v] (setAdd D v) >>= _) _ _ s'
    refine wpAny_bind (wpAny_holding ?_)
    unfold setAdd
    refine wpAny_holding (wpAny_bind ((mixKind P w).pyHash (kV_is rk) ?_))
    refine put_w (s := { s' with toks := s'.toks + 1 }) S1 rk (by have := g.len; omega) fun b h' L2 sb hL S2 => ?_
    have same : ∀ c o, c ≠ D → s'.heap.get? c = some o → h'.get? c = some o := fun c o ne e => (sb.2 c ne).trans e
    refine wpAny_pure ⟨plainId_quiet F.plain_set_update_loop _, ih (i + 1) _ (by omega) lt (Wk.frame _ s' _ _ st' (Nat.le_add_right _ _) fun c hc o e => same c o (fun z => out (z ▸ hc)) e) ⟨L2, S2, g.more ek hL⟩ fun s2 L3 mv2 S3 g3 => ?_⟩
    exact hR s2 L3 (Moved.trans Wk.gtrans ((mv.mono wide).then_heap (Nat.le_add_right _ _) fun c o hc e => same c o (fun z => hc (by rw [z]; exact List.mem_cons_self)) e) mv2) S3 g3
theorem call_set_w {l : Addr} {items : Array Value} (ks : List Key) {Q : Value → Shared → Prop} (hh : A.handled = none) (hl : s.heap.IsList l items) (hv : Vals (ks.map kV) items.toList) (room : ks.length + 1 < scanBound)
    (h : ∀ (h' : Heap) (tk : Nat) L, SetW P w h' s.heap.objs.size L → MetW ks ks.length L → (∀ b o, s.heap.get? b = some o → h'.get? b = some o) → Q (.ref s.heap.objs.size) { s with heap := h', toks := tk }) :
    wpAny (model P w) A (call (.type "set") [.ref l]) Q E s := by
  have size : items.size = ks.length := by
    have q := Vals.length hv
    simpa using q.symm
  obtain ⟨c, tl, hmro⟩ := F.called_set.mro
  have hmade := F.called_set.made ; have hsub := F.called_set.sub
  refine wpAny_call (codeAny_of_tree ?_)
  show wpAny _ _ (callAny (.type "set") _) _ _ _
  refine wpAny_pure ⟨Code.quiet_builtin _ (by decide +kernel), codeAny_builtin F.entry_type_call ?_⟩ ; rw [Around.under_plain (weight_type_call_type "set" [.ref l] []) rfl]
  have h1 := F.called_set.notType ; have h2 := F.called_set.canCreate ; have hct := F.typeCall_set_1 (.ref l)
  repeat (any_goals (first | assumption | wp_step))
  generalize eN : s.heap.push (bareS w) = hN
  have sN : hN.objs.size = s.heap.objs.size + 1 := by rw [← eN]; exact Heap.size_push ..
  have kN : ∀ b o, s.heap.get? b = some o → hN.get? b = some o := fun b o e => by rw [← eN]; exact Heap.get?_push_of_some _ e
  have gN : hN.get? s.heap.objs.size = some (bareS w) := by rw [← eN]; exact Heap.get?_push_size _ rfl
  refine codeAny_mono (code_set_led1 (.ref l) (E := E) (Q₁ := fun obj s₁ => obj = .ref s.heap.objs.size ∧ s₁ = { s with heap := hN }) ⟨rfl, by rw [eN]⟩) fun r s₁ hr => ?_
  match r, hr with
  | .error e, hr => exact hr
  | .ok (.ret obj), hr =>
    obtain ⟨rfl, rfl⟩ := hr
    have hT : Shared.TypeIs { s with heap := hN } (.ref s.heap.objs.size) "set" := ⟨_, gN, rfl⟩
    have hli := F.called_set.init.lookup ; have hbi := F.called_set.init.bind (.ref s.heap.objs.size)
    repeat (any_goals (first | assumption | wp_step))
    refine codeAny_mono (codeAny_call_builtin (R := wants (fun r s₂ => r = .none ∧ ∃ h' tk L, s₂ = { s with heap := h', toks := tk } ∧ SetW P w h' s.heap.objs.size L ∧ MetW ks ks.length L ∧ (∀ b o, s.heap.get? b = some o → h'.get? b = some o)) E)
        F.called_set.init.plain F.entry_set_init (check_set_init_1 hT ?_)) fun r₂ s₂ hr₂ => ?_
    · obtain ⟨⟨ocls, odict, odata, oslots⟩, hol, hcl, nl, hdl⟩ := hl
      simp only at hcl hdl
      subst hcl; subst hdl
      have gl : hN.get? l = some { cls := .type "list", dict := odict, data := .seq items nl, slots := oslots } := kN _ _ hol
      have c1 := F.sub_list_set ; have c2 := F.sub_list_frozenset ; have c3 : (Value.type "list" == Value.type "dict") = false := by decide
      have lN : hN.IsList l items := ⟨_, gl, rfl, nl, rfl⟩
      unfold Builtin.«set.__init__» noKeywords Builtin.Frozenset.updateFrom
      generalize hPI : pyIter = PI
      wp_walk
      subst hPI
      refine wpAny_pyIter_list lN (wpAny_bind (wpAny_runValue ?_))
      have ltl : l < s.heap.objs.size := Heap.lt_size hol
      have calm : A.in1.in1.in1.handled = none := by simp [hh]
      have neI : l ≠ hN.objs.size := by rw [sN]; exact Nat.ne_of_lt (Nat.lt_succ_of_lt ltl)
      have out : s.heap.objs.size ∉ [hN.objs.size, l] := by
        rw [sN]
        simp only [List.mem_cons, List.not_mem_nil, or_false, not_or]
        exact ⟨Nat.ne_of_lt (Nat.lt_succ_self _), Nat.ne_of_gt ltl⟩
      refine pour_w ((Walks.list calm _ l neI items).toS) out ks size room (fun i v ev => ?_) (items.size - 0) 0 _ (by omega) (Nat.zero_le _) ⟨⟨_, Heap.get?_push_size _ rfl, rfl, rfl⟩, (lN.push _)⟩ ⟨[], ?_, MetW.zero ks⟩ ?_
      · have q : items.toList[i]? = some v := by rw [Array.getElem?_toList]; exact ev
        have lt : i < items.size := (Array.getElem?_eq_some_iff.mp ev).1
        obtain ⟨k, ek⟩ : ∃ k, ks[i]? = some k := ⟨_, List.getElem?_eq_getElem (by omega)⟩
        refine ⟨k, ek, ?_⟩
        obtain ⟨u, h1, h2⟩ := Vals.get (x := kV k) hv (by rw [List.getElem?_map, ek]; rfl)
        rw [q] at h1
        rw [Option.some.inj h1]
        exact h2
      · refine SetW.keep (h := s.heap.push (bareS w)) (setW_fresh w) fun o e => ?_
        exact Heap.get?_push_of_some _ (by rw [← eN]; exact e)
      · intro s' L mv S' g'
        obtain ⟨h', g2, d', tk', os'⟩ := s'
        obtain rfl : g2 = s.gens := mv.gens
        obtain rfl : d' = s.drawn := mv.drawn
        obtain rfl : os' = s.os := mv.os
        rw [size] at g'
        refine wpAny_pure (wpAny_pure ⟨rfl, h', tk', L, rfl, S', g', fun b o e => ?_⟩)
        have lt := Heap.lt_size e
        refine mv.heap b o (fun z => ?_) (Heap.get?_push_of_some _ (kN b o e))
        rcases List.mem_cons.mp z with z | z
        · exact Nat.lt_irrefl _ (z ▸ lt)
        · have e2 : b = s.heap.objs.size + 1 := (List.mem_singleton.mp z).trans sN
          exact Nat.lt_irrefl _ (Nat.lt_of_succ_lt (e2 ▸ lt))
    · match r₂, hr₂ with
      | .error e, hr₂ => exact hr₂
      | .ok (.ret r), hr₂ =>
        obtain ⟨rfl, h', tk, L, rfl, S', g', k'⟩ := hr₂
        repeat (any_goals (first | assumption | wp_step))
        exact h _ _ _ S' g' k'
end
section
variable {X : Cx}
/-- set(xs), xs a list of ints and texts -/
def rSetL (K : PySem.W.Frag) (P : Program) (w : World) : List V → Hp → VK → Prop := fun xs H Q => ∃ (l : Addr) (ks : List Key), xs = [V.ref l] ∧ SqL K H l (ks.map kV) ∧ ks.length + 1 < scanBound ∧
  ∀ a L, H a = none → L.Nodup → (∀ k, k ∈ L ↔ k ∈ ks) → Q (.ref a) (upd H a (SetWO P w a L))
theorem cr_setL (hc : X.calm = true) : CallR X (.type "set") (rSetL X.K X.prog X.w) := by
  intro pins s σ H xs us Q I r h
  obtain ⟨l, ks, rfl, hl, room, q⟩ := h
  rw [Vals.ref1 r]
  obtain ⟨its, rv, pl, _⟩ := I.list hl
  refine call_set_w (P := X.prog) (w := X.w) ks (I.ok.hd hc) pl.isList (by simpa using rv) room fun h' tk L S g k => ?_
  refine ⟨.ref s.heap.objs.size, upd H s.heap.objs.size (SetWO X.prog X.w s.heap.objs.size L), I.laid (t' := tk) k (Nat.le_refl _) (setWO_ok S), rfl, q _ L (I.hok.fresh (Nat.le_refl _)) g.nd fun k => ?_⟩
  rw [g.mem k, List.take_length]
end
end DL

set_option Elab.async false
set_option maxRecDepth 100000
set_option maxHeartbeats 1000000
namespace DL
open PySem L2 HT TL RZ
/-! ### rows level by level -/
abbrev Rw := List Int × List Bool
def extR (bs : List Bar) (r : Rw) : List Rw := (freeL bs r.2).map fun d => (r.1 ++ [d], flip r.2 d)
theorem agP_none (bs : List Bar) (st : List Bool) : agP none (allP bs) st = allP bs st := List.filter_eq_self.mpr fun _ _ => rfl
theorem rowsL_snoc {bs : List Bar} : ∀ (xs : List (Option Int)) (st : List Bool), rowsL bs (xs ++ [none]) st = (rowsL bs xs st).flatMap (extR bs)
  | [], st => by
    show (agP none (allP bs) st).flatMap (fun e => [(e.1 :: [], e.2)]) = [(([] : List Int), st)].flatMap (extR bs)
    rw [agP_none, List.flatMap_cons, List.flatMap_nil, List.append_nil]
    unfold allP extR
    rw [List.flatMap_map]
    show (freeL bs st).flatMap (fun d => [([d], flip st d)]) = _
    rw [← List.map_eq_flatMap]
    rfl
  | x :: xs, st => by
    show (agP x (allP bs) st).flatMap (fun e => (rowsL bs (xs ++ [none]) e.2).map fun r => (e.1 :: r.1, r.2)) = ((agP x (allP bs) st).flatMap _).flatMap (extR bs)
    rw [List.flatMap_assoc]
    congr 1
    funext e
    rw [rowsL_snoc xs e.2, List.map_flatMap, List.flatMap_map]
    congr 1
    funext r
    show ((freeL bs r.2).map _).map _ = (freeL bs r.2).map _
    rw [List.map_map]
    rfl
def lvR (bs : List Bar) (n m : Nat) : List Rw := rowsL bs (List.replicate m none) (shutS n)
theorem lvR_zero (bs : List Bar) (n : Nat) : lvR bs n 0 = [([], shutS n)] := rfl
theorem lvR_succ (bs : List Bar) (n m : Nat) : lvR bs n (m + 1) = (lvR bs n m).flatMap (extR bs) := by
  unfold lvR
  rw [List.replicate_succ', rowsL_snoc]
theorem lvR_row {bs : List Bar} {n m : Nat} {r : Rw} (h : r ∈ lvR bs n m) : r.1.length = m ∧ r.2.length = n ∧ ∀ d ∈ r.1, 0 ≤ d ∧ d < n := by
  obtain ⟨h1, h2⟩ := mem_rowsL.mp h
  have hn : (shutS n).length = n := List.length_replicate
  refine ⟨by rw [h1.len, List.length_replicate], by rw [h2, run_len, hn], fun d hd => ?_⟩
  obtain ⟨k, e⟩ := List.getElem?_of_mem hd
  have := h1.low e
  rw [hn] at this
  exact this
theorem ext_le {bs : List Bar} {n : Nat} {r : Rw} (h : r.2.length = n) : (extR bs r).length ≤ n := by
  unfold extR
  rw [List.length_map, ← h]
  exact free_len bs r.2
theorem lvR_le (bs : List Bar) (n : Nat) : ∀ m, (lvR bs n m).length ≤ n ^ m
  | 0 => Nat.le_refl 1
  | m + 1 => by
    rw [lvR_succ, Nat.pow_succ, Nat.mul_comm]
    exact Nat.le_trans (flat_le fun r hr => ext_le (lvR_row hr).2.1) (Nat.mul_le_mul_left n (lvR_le bs n m))
theorem lvR_few {bs : List Bar} {n m : Nat} (h : (n ≤ 4 ∧ m ≤ 3) ∨ (n ≤ 3 ∧ m ≤ 6)) : (lvR bs n m).length ≤ 729 := by
  refine Nat.le_trans (lvR_le bs n m) ?_
  rcases h with ⟨h1, h2⟩ | ⟨h1, h2⟩
  · exact Nat.le_trans (Nat.pow_le_pow_left h1 m) (Nat.le_trans (Nat.pow_le_pow_right (n := 4) (by decide) h2) (by decide))
  · exact Nat.le_trans (Nat.pow_le_pow_left h1 m) (Nat.le_trans (Nat.pow_le_pow_right (n := 3) (by decide) h2) (by decide))
/-! ### the rows that agree are picked from all -/
def agrAll : List (Option Int) → List Int → Bool
  | [], _ => true
  | x :: xs, d :: ds => agr x d && agrAll xs ds
  | _ :: _, [] => false
theorem rows_pick {bs : List Bar} : ∀ (xs : List (Option Int)) (st : List Bool), rowsL bs xs st = (rowsL bs (List.replicate xs.length none) st).filter fun r => agrAll xs r.1
  | [], st => by
    show [([], st)] = [(([] : List Int), st)].filter fun r => true
    rfl
  | x :: xs, st => by
    show (agP x (allP bs) st).flatMap _ = ((agP none (allP bs) st).flatMap _).filter _
    rw [agP_none]
    show ((allP bs st).filter fun e => agr x e.1).flatMap (fun e => (rowsL bs xs e.2).map fun r => (e.1 :: r.1, r.2)) = ((allP bs st).flatMap fun e => (rowsL bs (List.replicate xs.length none) e.2).map fun r => (e.1 :: r.1, r.2)).filter fun r => agrAll (x :: xs) r.1
    have hx : ∀ e : Pl, ((rowsL bs (List.replicate xs.length none) e.2).map fun r => ((e.1 :: r.1, r.2) : Rw)).filter (fun r => agrAll (x :: xs) r.1) = if agr x e.1 = true then (rowsL bs xs e.2).map (fun r => (e.1 :: r.1, r.2)) else [] := fun e => by
      rw [List.filter_map]
      by_cases q : agr x e.1 = true
      · rw [if_pos q, rows_pick xs e.2]
        congr 1
        refine List.filter_congr fun r _ => ?_
        show (agr x e.1 && agrAll xs r.1) = _
        rw [q]
        rfl
      · rw [if_neg q]
        have : (rowsL bs (List.replicate xs.length none) e.2).filter ((fun r : Rw => agrAll (x :: xs) r.1) ∘ fun r => (e.1 :: r.1, r.2)) = [] := by
          refine List.filter_eq_nil_iff.mpr fun r _ z => q ?_
          have z : (agr x e.1 && agrAll xs r.1) = true := z
          rw [Bool.and_eq_true] at z
          exact z.1
        rw [this]
        rfl
    generalize allP bs st = L
    induction L with
    | nil => rfl
    | cons e L ih =>
      rw [List.flatMap_cons, List.filter_append, hx, ← ih, List.filter_cons]
      by_cases q : agr x e.1 = true
      · rw [if_pos q, if_pos q, List.flatMap_cons]
      · rw [if_neg q, if_neg q]
        rfl
def agrAt (xs : List (Option Int)) (ds : List Int) (k : Nat) : Bool := agr (xs.getD k none) (ds.getD k 0)
theorem agr_range : ∀ (xs : List (Option Int)) (ds : List Int), ds.length = xs.length → ((List.range xs.length).map (agrAt xs ds)).all id = agrAll xs ds
  | [], _, _ => rfl
  | x :: xs, [], h => by cases h
  | x :: xs, d :: ds, h => by
    have ih := agr_range xs ds (by simpa using h)
    rw [List.length_cons, List.range_succ_eq_map, List.map_cons, List.all_cons, List.map_map]
    have e1 : (agrAt (x :: xs) (d :: ds)) ∘ Nat.succ = agrAt xs ds := by
      funext k
      rfl
    rw [e1, ih]
    rfl
theorem rows_of {bs : List Bar} {n : Nat} (xs : List (Option Int)) : rowsL bs xs (shutS n) = (lvR bs n xs.length).filter fun r => agrAll xs r.1 := rows_pick xs _
theorem ends_of {bs : List Bar} {n : Nat} (xs : List (Option Int)) : endsA bs [shutS n] xs = (rowsL bs xs (shutS n)).map (·.2) := by
  rw [endsA_rows, List.flatMap_cons, List.flatMap_nil, List.append_nil]
theorem can_rows {bs : List Bar} {xs : List (Option Int)} {st : List Bool} : canF bs xs st = !(rowsL bs xs st).isEmpty := by
  rw [Bool.eq_iff_iff, can_iff]
  cases q : rowsL bs xs st with
  | nil =>
    constructor
    · rintro ⟨ds, h⟩
      have this : (ds, runF st ds) ∈ rowsL bs xs st := mem_rowsL.mpr ⟨h, rfl⟩
      rw [q] at this
      cases this
    · intro h
      cases h
  | cons r l => exact ⟨fun _ => rfl, fun _ => ⟨r.1, (mem_rowsL.mp (by rw [q]; exact List.mem_cons_self)).1⟩⟩
theorem oneOf_perm {a b : List Int} (h : a.Perm b) : oneOf a = oneOf b := by
  match a, b, h with
  | [], b, h =>
    rw [List.nil_perm.mp h]
  | [d], b, h =>
    rw [List.singleton_perm.mp h]
  | d :: e :: l, b, h =>
    have hl := h.length_eq
    match b, hl with
    | [], hl => cases hl
    | [y], hl => simp at hl
    | y :: z :: l', _ => rfl
/-- what is sure, as the law finds it -/
theorem sure_list {bs : List Bar} {n : Nat} {xs : List (Option Int)} (hc : canF bs xs (shutS n) = true) {ys : List (Option Int)} (hl : ys.length = xs.length) (h : ∀ (k : Nat) (x : Option Int), xs[k]? = some x → ys[k]? = some (oneOf (goodL bs n xs k x))) : sureL bs xs [shutS n] = ys := by
  refine List.ext_getElem? fun k => ?_
  have hs := sure_len bs xs [shutS n]
  rcases Nat.lt_or_ge k xs.length with lt | ge
  · have e : xs[k]? = some xs[k] := List.getElem?_eq_getElem lt
    rw [sure_good hc e, h k _ e]
  · rw [List.getElem?_eq_none (by omega), List.getElem?_eq_none (by omega)]
theorem good_rows {bs : List Bar} {n : Nat} {xs : List (Option Int)} {k : Nat} {x : Option Int} (e : xs[k]? = some x) (d : Int) : d ∈ goodL bs n xs k x ↔ ∃ r ∈ rowsL bs xs (shutS n), r.1[k]? = some d := by
  rw [mem_good e]
  constructor
  · rintro ⟨ds, h1, h2⟩
    exact ⟨(ds, runF (shutS n) ds), mem_rowsL.mpr ⟨h1, rfl⟩, h2⟩
  · rintro ⟨r, h1, h2⟩
    exact ⟨r.1, (mem_rowsL.mp h1).1, h2⟩
/-! ### rows in the heap -/
/-- at t: a row and its end -/
def RowAt (H : Hp) (r : Rw) (t : Addr) : Prop := ∃ u, H t = some (.tup [.ref u, .str (sstr r.2)]) ∧ H u = some (.tup (r.1.map V.int))
theorem RowAt.keep {H H' : Hp} {r : Rw} {t : Addr} (h : RowAt H r t) (k : ∀ b o, LstTup o → (∀ xs, o ≠ .lst xs) → H b = some o → H' b = some o) : RowAt H' r t := by
  obtain ⟨u, h1, h2⟩ := h
  exact ⟨u, k _ _ True.intro (fun xs z => by cases z) h1, k _ _ True.intro (fun xs z => by cases z) h2⟩
theorem RowAt.same {H H' : Hp} {r : Rw} {t : Addr} (h : RowAt H r t) (s : Same H H') : RowAt H' r t := h.keep fun b o _ _ e => s b o e
theorem RowAt.updL {H : Hp} {r : Rw} {t D : Addr} {xs : List V} {o : HO} (h : RowAt H r t) (hD : H D = some (.lst xs)) : RowAt (upd H D o) r t := h.keep fun b u _ n e => by
  rw [upd_ne (ne_of e hD (n xs))]
  exact e
theorem RowAt.but {H H' : Hp} {r : Rw} {t D : Addr} {xs : List V} (h : RowAt H r t) (hD : H D = some (.lst xs)) (B : But D H H') : RowAt H' r t := h.keep fun b u _ n e => B _ _ (ne_of e hD (n xs)) e
structure RowsAt (H : Hp) (l : Addr) (rs : List Rw) : Prop where
  h : ∃ ts : List (Addr × Rw), H l = some (.lst (ts.map fun t => V.ref t.1)) ∧ ts.map (·.2) = rs ∧ ∀ t ∈ ts, RowAt H t.2 t.1
theorem RowsAt.same {H H' : Hp} {l : Addr} {rs : List Rw} (h : RowsAt H l rs) (s : Same H H') : RowsAt H' l rs := by
  obtain ⟨ts, a, b, c⟩ := h.h
  exact ⟨⟨ts, s _ _ a, b, fun t ht => (c t ht).same s⟩⟩
theorem RowsAt.but {H H' : Hp} {l D : Addr} {xs : List V} {rs : List Rw} (h : RowsAt H l rs) (hD : H D = some (.lst xs)) (ne : l ≠ D) (B : But D H H') : RowsAt H' l rs := by
  obtain ⟨ts, a, b, c⟩ := h.h
  exact ⟨⟨ts, B _ _ ne a, b, fun t ht => (c t ht).but hD B⟩⟩
def rwD (r : Rw) : PyData := .tuple [.tuple (r.1.map PyData.int), .str (sstr r.2)]
theorem dok_rwD (r : Rw) : dok 3 (rwD r) := dok_tuple fun d hd => by
  rcases List.mem_cons.mp hd with rfl | hd
  · exact dok_tuple (dok_ints _)
  · rw [List.mem_singleton.mp hd]
    exact ⟨(dok_str (sstr_ok _)).1, Nat.le_trans (dok_str (sstr_ok _)).2 (by decide)⟩
theorem RowAt.data {K : PySem.W.Frag} {H : Hp} {r : Rw} {t : Addr} (h : RowAt H r t) : Dp K H (.ref t) (rwD r) := by
  obtain ⟨u, h1, h2⟩ := h
  exact .tup (SqT.of h1) (.cons (.tup (SqT.of h2) (dpAll_ints _)) (.cons (.str _) .nil))
theorem rws_data {K : PySem.W.Frag} {H : Hp} : ∀ {ts : List (Addr × Rw)}, (∀ t ∈ ts, RowAt H t.2 t.1) → DpAll K H (ts.map fun t => V.ref t.1) (ts.map fun t => rwD t.2)
  | [], _ => .nil
  | t :: ts, h => .cons (h t List.mem_cons_self).data (rws_data fun u hu => h u (List.mem_cons_of_mem _ hu))
theorem RowsAt.data {K : PySem.W.Frag} {H : Hp} {l : Addr} {rs : List Rw} (h : RowsAt H l rs) : Dp K H (.ref l) (.list (rs.map rwD)) := by
  obtain ⟨ts, a, b, c⟩ := h.h
  rw [← b, List.map_map]
  exact .lst (SqL.of a) (rws_data c)
theorem dok_rwsD (rs : List Rw) : dok 4 (.list (rs.map rwD)) := dok_list fun d hd => by
  obtain ⟨r, _, rfl⟩ := List.mem_map.mp hd
  exact dok_rwD r
theorem RowsAt.get {H : Hp} {l : Addr} {rs : List Rw} (h : RowsAt H l rs) : ∃ xs, H l = some (.lst xs) ∧ xs.length = rs.length ∧ ∀ {k : Nat} {r : Rw}, rs[k]? = some r → ∃ t, xs[k]? = some (.ref t) ∧ RowAt H r t := by
  obtain ⟨ts, a, b, c⟩ := h.h
  refine ⟨_, a, by rw [List.length_map, ← b, List.length_map], fun {k r} e => ?_⟩
  rw [← b, List.getElem?_map] at e
  cases q : ts[k]? with
  | none => rw [q] at e; cases e
  | some t =>
    rw [q] at e
    cases e
    exact ⟨t.1, by rw [List.getElem?_map, q]; rfl, c t (List.mem_of_getElem? q)⟩
/-- a comprehension whose elements are rows -/
theorem lc_rows {α : Type} {J : It} {n : Nat} {G : Hp → Prop} {Y : Nat → Hp → V → Hp → Prop} (wk : Walk J n G Y) (l : List α) (hl : l.length = n) (hn : n ≤ 3000) (p : α → Bool) (v : α → Rw) {g : TG} {tt : TT} {te : TE} {vs : List Nat} {σ : L2.St} {H1 : Hp} {D : Addr} {Qd : Hp → Prop}
    (hD : H1 D = none) (hG : ∀ H, Same H1 H → G H)
    (hs : ∀ i x z H H' (Tk : V → Hp → Prop) (Nk : Hp → Prop), l[i]? = some z → Same H1 H → Y i H x H' → (∀ (t : Addr) H4, p z = true → Same H H4 → RowAt H4 (v z) t → Tk (.ref t) H4) → (∀ H4, p z = false → Same H H4 → Nk H4) →
      g x (wipe σ vs) H' fun σ2 H2 => wipe σ2 vs = wipe σ vs ∧ tt σ2 H2 fun b H3 => if b = true then te σ2 H3 Tk else Nk H3)
    (hd : ∀ H, Same H1 H → RowsAt H D ((l.filter p).map v) → Qd H) :
    ∃ W : Nat → Nat → Hp → Prop, (∃ m, W 0 m (upd H1 D (.lst []))) ∧ ∀ i m H, W i m H →
      (J.stop i H ∧ Qd H) ∨ (J.go i H ∧ ∃ Nx : Hp → Prop, (∀ H', Nx H' → ∃ m', m' < m ∧ W (i + 1) m' H') ∧ ∀ x H', J.yld i H x H' → g x (wipe σ vs) H' fun σ2 H2 => wipe σ2 vs = wipe σ vs ∧ tt σ2 H2 fun b H3 =>
        if b = true then te σ2 H3 fun y H4 => ∃ acc, H4 D = some (.lst acc) ∧ acc.length < sizeLine ∧ Nx (upd H4 D (.lst (acc ++ [y]))) else Nx H3) := by
  refine lc_it wk (fun i H' => Same H1 H' ∧ RowsAt H' D (((l.take i).filter p).map v)) ⟨same_upd hD, ⟨[], upd_same, rfl, fun t ht => by cases ht⟩⟩ (fun i H' _ q => hG H' q.1) ?_ ?_
  · rintro i x H H' hi ⟨s1, ⟨ts, hD1, et, ht⟩⟩ y
    have hi' : i < l.length := by omega
    have ez : l[i]? = some l[i] := List.getElem?_eq_getElem hi'
    have etk : l.take (i + 1) = l.take i ++ [l[i]] := List.take_succ_eq_append_getElem hi'
    refine hs i x l[i] H H' _ _ ez s1 y (fun t H4 hp s4 f4 => ?_) (fun H4 hp s4 => ?_)
    · have hD4 := s4 _ _ hD1
      refine ⟨_, hD4, ?_, fun b o e => ?_, ⟨ts ++ [(t, v l[i])], ?_, ?_, fun u hu => ?_⟩⟩
      · have h0 := congrArg List.length et
        rw [List.length_map, List.length_map] at h0
        have h1 := List.length_filter_le p (l.take i)
        rw [List.length_take] at h1
        rw [List.length_map]
        have h2 : (3000 : Nat) < sizeLine := by decide
        omega
      · rw [upd_ne (ne_of_none e hD)]
        exact s4 _ _ (s1 b o e)
      · rw [upd_same, List.map_append]
        rfl
      · rw [List.map_append, et, etk, List.filter_append, List.filter_cons_of_pos hp, List.map_append]
        rfl
      · rcases List.mem_append.mp hu with h | h
        · exact ((ht u h).same s4).updL hD4
        · rw [List.mem_singleton.mp h]
          exact f4.updL hD4
    · refine ⟨s1.trans s4, ⟨ts, s4 _ _ hD1, ?_, fun u hu => (ht u hu).same s4⟩⟩
      rw [etk, List.filter_append, List.filter_cons_of_neg (by rw [hp]; exact Bool.false_ne_true), List.filter_nil, List.append_nil]
      exact et
  · rintro H ⟨s1, R⟩
    rw [← hl, List.take_length] at R
    exact hd H s1 R
theorem op_catAK {X : Cx} {K : PySem.W.Frag} (hK : X.K = K) : OpR X (binaryOp .Add) (rCatA K) := by subst hK; exact op_catA
theorem cat_one {K : PySem.W.Frag} {H : Hp} {u w : Addr} {ns : List Int} {d : Int} {Q : VK} (hu : H u = some (.tup (ns.map V.int))) (hw : H w = some (.tup [V.int d])) (hz : ns.length + 1 ≤ sizeLine) (q : ∀ u' H', Same H H' → H' u' = some (.tup ((ns ++ [d]).map V.int)) → Q (.ref u') H') : rCatA K (.ref u) (.ref w) H Q := by
  refine ⟨u, w, _, _, rfl, rfl, SqT.of hu, SqT.of hw, by rw [List.length_map]; exact hz, fun e => ?_, fun _ e => (by cases e), fun _ _ p hp => ?_⟩
  · have e2 : ns = [] := List.map_eq_nil_iff.mp e
    subst e2
    exact q w H (Same.refl _) hw
  · refine q p _ (same_upd hp) ?_
    rw [upd_same, List.map_append]
    rfl
/-- rows put behind rows -/
theorem RowsAt.extend {H : Hp} {l b : Addr} {rs qs : List Rw} (h : RowsAt H l rs) (h2 : RowsAt H b qs) : ∃ xs zs, H l = some (.lst xs) ∧ H b = some (.lst zs) ∧ xs.length = rs.length ∧ zs.length = qs.length ∧ RowsAt (upd H l (.lst (xs ++ zs))) l (rs ++ qs) := by
  obtain ⟨ts, a1, a2, a3⟩ := h.h
  obtain ⟨us, b1, b2, b3⟩ := h2.h
  refine ⟨_, _, a1, b1, by rw [List.length_map, ← a2, List.length_map], by rw [List.length_map, ← b2, List.length_map], ⟨ts ++ us, ?_, by rw [List.map_append, a2, b2], fun t ht => ?_⟩⟩
  · rw [upd_same, List.map_append]
  · rcases List.mem_append.mp ht with h | h
    · exact (a3 t h).updL a1
    · exact (b3 t h).updL a1
end DL

set_option Elab.async false
set_option maxRecDepth 100000
set_option maxHeartbeats 4000000
namespace DL
open PySem L2 HT TL RZ
def spLaw34 (K : PySem.W.Frag) : Sp := fun vs H Q _ => ∃ (a : Addr) (ns : List Int), vs = [.ref a] ∧ SqL K H a (ns.map V.int) ∧ ns.length ≤ 63 ∧ ∀ H', Q (.bl true) H'
theorem ix_at_nat {n j : Nat} (hj : j < n) : ixN n (j : Int) = some j := by unfold ixN ; rw [if_pos (by omega), if_pos (by omega)] ; simp
theorem pick_47 {N : Nat} (h : N ≤ 4) : ∃ m : Nat, atI [V.int 4, V.int 7] (if decide ((N : Int) < 4) = true then 1 else 0) = some (.int m) ∧ 1 ≤ m ∧ m ≤ 7 ∧ ((N ≤ 4 ∧ m ≤ 4) ∨ (N ≤ 3 ∧ m ≤ 7)) := by
  by_cases q : (N : Int) < 4
  · rw [if_pos (decide_eq_true q)]
    exact ⟨7, atI_nat (j := 1) rfl, by decide, by decide, .inr ⟨by omega, by decide⟩⟩
  · rw [if_neg (fun z => q (of_decide_eq_true z))]
    exact ⟨4, atI_nat (j := 0) rfl, by decide, by decide, .inl ⟨h, by decide⟩⟩
section
variable {P : Program} {w : World} {K : PySem.W.Frag} {mg : Str → Option Value} {base : Heap}
abbrev nLaw : List Str := ["_law_script", "_law_row", "_law_d", "_law_cabinet", "_law_rows", "_law_turn", "_law_wider", "_law_told", "_law_standing", "_law_seen", "_law_at", "_law_some", "_law_due", "_law_drawers", "_law_drawer", "_law_one", "_law_end"]
theorem scLaw : FnScope nLaw ["_law_script"] (defScope s_law) := ⟨rfl, rfl, rfl, by decide +kernel, rfl, by decide +kernel, by decide +kernel⟩
theorem ok_law {f fT fP fM fF fMv fA fB fC fD C : Addr} {fd dT dP dM dF dMv dA dB dC dD : FuncData} (F : Fun K "law" "law" s_law f fd) (T : Bt mg) (zA : mg "all" = none) (zS : mg "set" = none)
    (GT : FnOk P w K mg base CX0 1 fT dT ["_law_row", "_law_many"] (spTaken K)) (gT : mg "_law_taken" = some (.ref fT)) (kT : PySem.W.keepIn K (.ref fT) = true) (bT : Binds K dT ["_law_row", "_law_many"] [])
    (GP : FnOk P w K mg base CX0 2 fP dP ["_law_row", "_law_most"] (spParts K)) (gP : mg "_law_parts" = some (.ref fP)) (kP : PySem.W.keepIn K (.ref fP) = true) (bP : Binds K dP ["_law_row", "_law_most"] [])
    (GM : FnOk P w K mg base CX0 7 fM dM ["_law_d"] (spMade C)) (gM : mg "_law_made" = some (.ref fM)) (kM : PySem.W.keepIn K (.ref fM) = true) (bM : Binds K dM ["_law_d"] [])
    (GF : FnOk P w K mg base CX0 2 fF dF ["_law_d", "_law_standing"] spLawFree) (gF : mg "_law_free" = some (.ref fF)) (kF : PySem.W.keepIn K (.ref fF) = true) (bF : Binds K dF ["_law_d", "_law_standing"] [])
    (GMv : FnOk P w K mg base CX0 1 fMv dMv ["_law_standing", "_law_drawer"] spMoved) (gMv : mg "_law_moved" = some (.ref fMv)) (kMv : PySem.W.keepIn K (.ref fMv) = true) (bMv : Binds K dMv ["_law_standing", "_law_drawer"] [])
    (GA : FnOk P w K mg base CX0 18 fA dA ["cabinet", "seen"] (spFitsMany C)) (gA : mg "fits_many" = some (.ref fA)) (kA : PySem.W.keepIn K (.ref fA) = true) (bA : Binds K dA ["cabinet", "seen"] [])
    (GB : FnOk P w K mg base CX0 18 fB dB ["cabinet", "seen"] (spStands C)) (gB : mg "stands_after" = some (.ref fB)) (kB : PySem.W.keepIn K (.ref fB) = true) (bB : Binds K dB ["cabinet", "seen"] [])
    (GC : FnOk P w K mg base CX0 18 fC dC ["cabinet", "seen"] (spFirstFit C)) (gC : mg "first_fit" = some (.ref fC)) (kC : PySem.W.keepIn K (.ref fC) = true) (bC : Binds K dC ["cabinet", "seen"] [])
    (GD : FnOk P w K mg base CX0 18 fD dD ["cabinet", "seen"] (spSure C)) (gD : mg "sure_pulls" = some (.ref fD)) (kD : PySem.W.keepIn K (.ref fD) = true) (bD : Binds K dD ["cabinet", "seen"] []) :
    FnOk P w K mg base CX0 20 f fd ["_law_script"] (spLaw34 K) := by
  refine F.ok scLaw (fun vs H Q E h => ?_) (fun cdv A outer s H vs Q E hr h => ?_)
  · obtain ⟨a, ns, rfl, _⟩ := h
    rfl
  · obtain ⟨a, ns, rfl, hS, hlen, k⟩ := h
    have hu : _ + 64 < cLine := hr.units
    refine ⟨_, pss_cons (ps_set (i := 1) scLaw.nd rfl (Or.inr rfl) (pe_lst (pa_cons (pv 0) (pa_cons pe_int (pa_cons pe_int (pa_cons pe_int pa_nil))))))
      (pss_cons (ps_set (i := 2) scLaw.nd rfl (Or.inl rfl) (pe_call GP (hr.mono (by decide)) rfl gP kP bP .nil pass0 (pa_cons (pv 1) (pa_cons pe_int pa_nil))))
      (pss_cons (ps_par (i := 3) (j := 4) (by rfl) scLaw.nd rfl rfl (by decide) rfl rfl (pa_cons (pe_call GM (hr.mono (by decide)) rfl gM kM bM .nil pass0 (pa_cons (pv 2) pa_nil)) (pa_cons (pe_lst (pa_cons (pe_tup (pa_cons (pe_tup pa_nil) (pa_cons (pe_op op_mul_str pe_str (pe_ix ix_list (pv 2) pe_int (fun _ _ => rfl))) pa_nil))) pa_nil)) pa_nil)) (by rfl))
      (pss_cons (ps_for PassesOwn.never rfl (pi_range1 (by rfl) T.range (pa_cons (pe_call GT (hr.mono (by decide)) rfl gT kT bT .nil pass0 (pa_cons (pv 1) (pa_cons (pe_ix ix_list (pe_lst (pa_cons pe_int (pa_cons pe_int pa_nil))) (pe_callTy call_int1 (by rfl) T.int (by decide +kernel) (pa_cons (pe_cmpR op_lt (pe_ix ix_list (pv 2) pe_int (fun _ _ => rfl)) pe_int (nomark _)) pa_nil)) (fun _ _ => rfl)) pa_nil))) pa_nil)) (pg_name (i := 5) scLaw.nd rfl (Or.inl rfl))
        (pss_cons (ps_set (i := 6) scLaw.nd rfl (Or.inl rfl) (pe_lst pa_nil))
        (pss_cons (ps_for PassesOwn.never rfl (pi_list (pv 4)) (pg_tup (by rfl) (pgs_cons (pg_name (i := 7) scLaw.nd rfl (Or.inr rfl)) (pgs_cons (pg_name (i := 8) scLaw.nd rfl (Or.inr rfl)) pgs_nil)))
          (pss_one (ps_expr (pe_bm PySem.F.plainAttrs_list PySem.F.slot_list_extend PySem.F.type_list_extend mt_extend (pv 6) (pa_cons
            (pe_lc (own := [("_law_drawer", 14)]) (g := gName 14) (tt := tYes) (by rfl) scLaw.nd (pi_list (pe_call GF (hr.mono (by decide)) rfl gF kF bF .nil pass0 (pa_cons (pv 2) (pa_cons (pv 8) pa_nil)))) (blkOk_by (N := nLaw) (sc := defScope s_law) (by decide +kernel)) (fun _ _ _ _ _ => pg_name (i := 14) scLaw.nd rfl (Or.inl rfl)) (fun _ _ _ _ _ => pts_nil)
              (fun _ _ _ _ _ => pe_tup (pa_cons (pe_op (op_catAK (K := K) rfl) (pv 7) (pe_tup (pa_cons (pv 14) pa_nil))) (pa_cons (pe_call GMv (hr.mono (by decide)) rfl gMv kMv bMv .nil pass0 (pa_cons (pv 8) (pa_cons (pv 14) pa_nil))) pa_nil)))) pa_nil)))))
        (pss_one (ps_set (i := 4) scLaw.nd rfl (Or.inl rfl) (pe_ifExp (pt_cmpR (op_neD hu) (pv 6) (pe_lst pa_nil) (nomark _)) (pv 6) (pv 4)))))))
      (pss_cons (ps_for PassesOwn.never rfl (pi_range1 (by rfl) T.range (pa_cons pe_int pa_nil)) (pg_name (i := 5) scLaw.nd rfl (Or.inl rfl))
        (pss_cons (ps_set (i := 7) scLaw.nd rfl (Or.inr rfl) (pe_ix ix_tup (pe_ix ix_list (pv 4) (pe_call GT (hr.mono (by decide)) rfl gT kT bT .nil pass0 (pa_cons (pv 1) (pa_cons (pe_callB call_len_seq (by rfl) T.len (by decide +kernel) (pa_cons (pv 4) pa_nil)) pa_nil))) (fun _ _ => rfl)) pe_int (fun _ _ => rfl)))
        (pss_cons (ps_set (i := 9) scLaw.nd rfl (Or.inr rfl) (pe_lc (own := [("_law_drawer", 14)]) (g := gName 14) (tt := tYes) (by rfl) scLaw.nd (pi_tup (pv 7)) (blkOk_by (N := nLaw) (sc := defScope s_law) (by decide +kernel)) (fun _ _ _ _ _ => pg_name (i := 14) scLaw.nd rfl (Or.inl rfl)) (fun _ _ _ _ _ => pts_nil)
          (fun _ _ _ _ _ => pe_ifExp (pt_cmpR op_eq (pe_call GT (hr.mono (by decide)) rfl gT kT bT .nil pass0 (pa_cons (pv 1) (pa_cons pe_int pa_nil))) pe_int (nomark _)) (pv 14) pe_non)))
        (C8.pss_cut (ps_if (PW.pt (pw_and (pt_cmpR (op_neD hu) (pv 9) (pe_lst pa_nil) (nomark _)) (pw_and1 (pt_cmpR op_eq (pe_call GT (hr.mono (by decide)) rfl gT kT bT .nil pass0 (pa_cons (pv 1) (pa_cons pe_int pa_nil))) pe_int (nomark _)))))
          (pss_one (ps_asg (pe_call GT (hr.mono (by decide)) rfl gT kT bT .nil pass0 (pa_cons (pv 1) (pa_cons (pe_ix ix_list (pv 2) pe_int (fun _ _ => rfl)) pa_nil))) (pg_sub (pv 9) (pe_call GT (hr.mono (by decide)) rfl gT kT bT .nil pass0 (pa_cons (pv 1) (pa_cons (pe_callB call_len_seq (by rfl) T.len (by decide +kernel) (pa_cons (pv 9) pa_nil)) pa_nil))) set_list))) pss_nil)
        (pss_cons (ps_setLc (i := 11) (own := [("_law_one", 15), ("_law_end", 16)]) (g := gTup K 2 (gCons (gName 15) (gCons (gName 16) gNil))) (by rfl) scLaw.nd rfl rfl (by rfl) (pi_list (pv 4)) (blkOk_by (N := nLaw) (sc := defScope s_law) (by decide +kernel))
            (fun _ _ _ _ _ => pg_tupK (K := K) rfl rfl (pgs_cons (pg_name (i := 15) scLaw.nd rfl (by first | exact Or.inl rfl | exact Or.inr rfl)) (pgs_cons (pg_name (i := 16) scLaw.nd rfl (by first | exact Or.inl rfl | exact Or.inr rfl)) pgs_nil)))
            (fun _ _ _ _ _ => pts_one (pt_val (pe_callB (cr_allK (K := K) rfl rfl) (by rfl) zA boot_all_ (pa_cons
              (by exact (pe_lc (own := [("_law_at", 10)]) (g := gName 10) (tt := tYes) (by rfl) scLaw.nd (pi_range1 (by rfl) T.range (pa_cons (pe_callB (call_len_seqK (K := K) rfl) (by rfl) T.len (by decide +kernel) (pa_cons (pv 9) pa_nil)) pa_nil)) (blkOk_by (N := nLaw) (by rfl)) (fun _ _ _ _ _ => pg_name (i := 10) scLaw.nd rfl (by first | exact Or.inl rfl | exact Or.inr rfl)) (fun _ _ _ _ _ => pts_nil)
                (fun _ _ _ _ _ => pe_cmpR (op_in_seqK (K := K) rfl) (pe_ix (ix_listK (K := K) rfl) (pv 9) (pv 10) (fun _ _ => rfl)) (pe_lst (pa_cons pe_non (pa_cons (pe_ix (ix_tupK (K := K) rfl) (pv 15) (pv 10) (fun _ _ => rfl)) pa_nil))) (by rfl)))) pa_nil))))
            (fun _ _ _ _ _ => pe_tup (pa_cons (pv 15) (pa_cons (pv 16) pa_nil))))
        (C8.pss_cut (ps_if (pt_cmpR op_eq (pe_call GT (hr.mono (by decide)) rfl gT kT bT .nil pass0 (pa_cons (pv 1) (pa_cons pe_int pa_nil))) pe_int (nomark _)) (pss_one (ps_set (i := 9) scLaw.nd rfl (Or.inr rfl) (pe_tupleOf (by rfl) T.tuple (pv 9)))) pss_nil)
        (C8.pss_cut (ps_if (PW.pt (pw_or (pt_cmpR op_ne (pe_call GA (hr.mono (by decide)) rfl gA kA bA .nil pass0 (pa_cons (pv 3) (pa_cons (pv 9) pa_nil))) (pe_callB call_len_seq (by rfl) T.len (by decide +kernel) (pa_cons (pv 11) pa_nil)) (nomark _))
          (pw_or1 (pt_cmpR (op_neD hu) (pe_call GB (hr.mono (by decide)) rfl gB kB bB .nil pass0 (pa_cons (pv 3) (pa_cons (pv 9) pa_nil))) (pe_callB (cr_setSS rfl) (by rfl) T.sorted (by decide +kernel) (pa_cons (pe_callTy (cr_setL rfl) (by rfl) zS (by decide +kernel) (pa_cons
            (pe_lc (own := [("_law_one", 15), ("_law_end", 16)]) (g := gTup K 2 (gCons (gName 15) (gCons (gName 16) gNil))) (tt := tYes) (by rfl) scLaw.nd (pi_list (pv 11)) (blkOk_by (N := nLaw) (sc := defScope s_law) (by decide +kernel))
              (fun _ _ _ _ _ => pg_tupK (K := K) rfl rfl (pgs_cons (pg_name (i := 15) scLaw.nd rfl (Or.inl rfl)) (pgs_cons (pg_name (i := 16) scLaw.nd rfl (Or.inl rfl)) pgs_nil))) (fun _ _ _ _ _ => pts_nil) (fun _ _ _ _ _ => pv 16)) pa_nil)) pa_nil)) (nomark _))))) (pss_one (ps_ret pe_bl)) pss_nil)
        (C8.pss_cut (ps_if (pt_cmpR (op_neD hu) (pe_call GC (hr.mono (by decide)) rfl gC kC bC .nil pass0 (pa_cons (pv 3) (pa_cons (pv 9) pa_nil))) (pe_ifExp (pt_cmpR (op_neD hu) (pv 11) (pe_lst pa_nil) (nomark _)) (pe_ix ix_tup (pe_ix ix_list (pv 11) pe_int (fun _ _ => rfl)) pe_int (fun _ _ => rfl)) pe_non) (nomark _)) (pss_one (ps_ret pe_bl)) pss_nil)
        (pss_cons (ps_set (i := 12) scLaw.nd rfl (Or.inl rfl) (pe_lst pa_nil))
        (pss_cons (ps_for PassesOwn.never rfl (pi_range1 (by rfl) T.range (pa_cons (pe_callB call_len_seq (by rfl) T.len (by decide +kernel) (pa_cons (pv 9) pa_nil)) pa_nil)) (pg_name (i := 10) scLaw.nd rfl (Or.inr rfl))
          (pss_cons (ps_set (i := 13) scLaw.nd rfl (Or.inl rfl) (pe_callB (cr_setSI rfl) (by rfl) T.sorted (by decide +kernel) (pa_cons (pe_callTy (cr_setL rfl) (by rfl) zS (by decide +kernel) (pa_cons
            (pe_lc (own := [("_law_one", 15), ("_law_end", 16)]) (g := gTup K 2 (gCons (gName 15) (gCons (gName 16) gNil))) (tt := tYes) (by rfl) scLaw.nd (pi_list (pv 11)) (blkOk_by (N := nLaw) (sc := defScope s_law) (by decide +kernel))
              (fun _ _ _ _ _ => pg_tupK (K := K) rfl rfl (pgs_cons (pg_name (i := 15) scLaw.nd rfl (Or.inl rfl)) (pgs_cons (pg_name (i := 16) scLaw.nd rfl (Or.inl rfl)) pgs_nil))) (fun _ _ _ _ _ => pts_nil) (fun _ _ _ _ _ => pe_ix (ix_tupK (K := K) rfl) (pv 15) (pv 10) (fun _ _ => rfl))) pa_nil)) pa_nil)))
          (pss_one (ps_expr (pe_bm PySem.F.plainAttrs_list PySem.F.slot_list_append PySem.F.type_list_append mt_append (pv 12) (pa_cons (pe_ifExp (pt_cmpR op_eq (pe_callB call_len_seq (by rfl) T.len (by decide +kernel) (pa_cons (pv 13) pa_nil)) pe_int (nomark _)) (pe_ix ix_list (pv 13) pe_int (fun _ _ => rfl)) pe_non) pa_nil))))))
        (pss_one (ps_if (pt_cmpR (op_neD hu) (pe_call GD (hr.mono (by decide)) rfl gD kD bD .nil pass0 (pa_cons (pv 3) (pa_cons (pv 9) pa_nil))) (pe_ifExp (pt_cmpR (op_neD hu) (pv 11) (pe_lst pa_nil) (nomark _)) (pe_tupleOf (by rfl) T.tuple (pv 12)) pe_non) (nomark _)) (pss_one (ps_ret pe_bl)) pss_nil))))))))))))
      (pss_one (ps_ret pe_bl)))))), ?_⟩
    refine ⟨_, rfl, (by show 4 ≤ sizeLine; decide), fun r hr0 => ?_⟩
    have R0 : RowOk (upd H r (.lst [.ref a, .int 0, .int 934, .int 0])) r a := ⟨⟨0, 934, 0, upd_same, by decide, by decide, by decide, by decide⟩⟩
    have S0 : SqL K (upd H r (.lst [.ref a, .int 0, .int 934, .int 0])) a (ns.map V.int) := (same_upd hr0).seq hS
    generalize (upd H r (.lst [.ref a, .int 0, .int 934, .int 0])) = H0 at R0 S0 ⊢
    refine ⟨_, rfl, ⟨⟨r, a, ns, 4, rfl, R0, S0, by decide, by decide, fun p t n ks0 H2 hp0 ht0 n1 n4 hp hB O h13 R2 B2 => ?_⟩⟩⟩
    obtain ⟨N, rfl⟩ : ∃ N : Nat, n = N := ⟨n.toNat, by omega⟩
    refine ⟨_, rfl, ⟨⟨p, t, N, ks0, [], rfl, hp, n1, by omega, hB, O, fun c H3 hc0 hcab s3 => ?_⟩⟩⟩
    have R3 := R2.same s3
    have S3 : SqL K H3 a (ns.map V.int) := (B2.trans (sbut s3)).seqR R0 S0
    have L3 : Lay C r p c H3 N (ks0.map (·.2)) := Lay.mk' R0 hp0 (s3 _ _ hp) hcab hB s3 O n1 (by omega) h13
    generalize (ks0.map (·.2)) = bs at L3
    clear hp hB O h13 hcab hc0 ht0 hp0 R2 B2
    have hshut : (shutS N).length = N := List.length_replicate
    have SC : ∀ {H'}, But r H3 H' → SqL K H' a (ns.map V.int) := fun B => B.seqR R3 S3
    have LC : ∀ {H'}, But r H3 H' → Lay C r p c H' N bs := fun B => L3.but R3 B
    have n4' : N ≤ 4 := by omega
    obtain ⟨_, _, _, hR3, _⟩ := id R3.h
    -- the first row
    refine ⟨(by show 0 ≤ sizeLine; decide), fun u0 nu0 => ?_⟩
    obtain ⟨s4, f4⟩ := new_at (o := .tup []) nu0
    generalize upd H3 u0 (.tup []) = H4 at s4 f4 ⊢
    obtain ⟨xs3, hx3, hx3'⟩ := (LC (sbut s4)).at0 K
    refine ⟨_, rfl, p, _, 0, .int N, rfl, rfl, hx3, hx3', "s", (N : Int), rfl, rfl, mulOk_one (by decide +kernel) (by omega) (by omega), ?_⟩
    rw [mul_shut (by omega) (by omega)]
    refine ⟨(by show 2 ≤ sizeLine; decide), fun t0 nt0 => ?_⟩
    obtain ⟨s5, f5⟩ := new_at (o := .tup [.ref u0, .str (sstr (shutS N))]) nt0
    generalize upd H4 t0 (.tup [.ref u0, .str (sstr (shutS N))]) = H5 at s5 f5 ⊢
    refine ⟨(by show 1 ≤ sizeLine; decide), fun l0 nl0 => ?_⟩
    obtain ⟨s6, f6⟩ := new_at (o := .lst [.ref t0]) nl0
    have s35 := s4.trans s5
    have nl0r : l0 ≠ r := (ne_of_none (s35 _ _ hR3) nl0).symm
    have s36 := s35.trans s6
    have first : RowsAt (upd H5 l0 (.lst [.ref t0])) l0 (lvR bs N 0) := ⟨[(t0, ([], shutS N))], f6, rfl, fun t ht => by
      rw [List.mem_singleton.mp ht]
      exact ⟨u0, s6 _ _ f5, s6 _ _ (s5 _ _ f4)⟩⟩
    generalize upd H5 l0 (.lst [.ref t0]) = H6 at s6 f6 s36 first ⊢
    refine ⟨_, _, rfl, ?_⟩
    -- how many levels
    refine ⟨_, rfl, (by show 2 ≤ sizeLine; decide), fun la nla => ?_⟩
    obtain ⟨s7, f7⟩ := new_at (o := .lst [.int 4, .int 7]) nla
    have nlar : la ≠ r := (ne_of_none (s36 _ _ hR3) nla).symm
    have s37 := s36.trans s7
    have first7 := first.same s7
    generalize upd H6 la (.lst [.int 4, .int 7]) = H7 at s7 f7 s37 first7 ⊢
    obtain ⟨xs7, hx7, hx7'⟩ := (LC (sbut s37)).at0 K
    obtain ⟨mm, hmm, m1, m7, mN⟩ := pick_47 n4'
    refine ⟨_, rfl, p, _, 0, .int N, rfl, rfl, hx7, hx7', N, 4, rfl, rfl, .inr ⟨_, rfl, ?_⟩⟩
    refine ⟨la, _, _, .int mm, rfl, rfl, SqL.of f7, hmm, ?_⟩
    refine ⟨⟨r, a, ns, mm, rfl, R3.same s37, SC (sbut s37), by omega, by omega, fun tt H8 q0 q1 R8 B8 => ?_⟩⟩
    obtain ⟨tn, rfl⟩ : ∃ tn : Nat, tt = tn := ⟨tt.toNat, by omega⟩
    refine ⟨_, rfl, by omega, by omega, ?_⟩
    rw [Int.toNat_natCast]
    have few : ∀ m, m ≤ tn → (lvR bs N m).length ≤ 729 := fun m hm => lvR_few (by omega)
    have rows8 : RowsAt H8 l0 (lvR bs N 0) := by
      obtain ⟨_, _, _, z, _⟩ := id (R3.same s37).h
      exact first7.but z nl0r B8
    have B38 : But r H3 H8 := (sbut s37).trans B8
    clear first first7 f7 hmm s7 nla hx7 hx7' s6 f6 s5 f5 s4 f4 B8 s36 s35 nl0 nt0 nu0 hx3 hx3' s37 nlar H4 H5 H6 H7
    refine for_range (lo := 0) (n := tn) (fun i σ H' => ∃ (lr : Addr) (m : Nat) (v5 v6 v7 v8 : Option V), σ = [some (.ref a), some (.ref r), some (.ref p), some (.ref c), some (.ref lr), v5, v6, v7, v8, none, none, none, none, none, none, none, none] ∧ RowOk H' r a ∧ But r H3 H' ∧ lr ≠ r ∧ m ≤ i ∧ RowsAt H' lr (lvR bs N m) ∧ lvR bs N m ≠ [])
      ⟨l0, 0, _, _, _, _, rfl, R8, B38, nl0r, Nat.le_refl _, rows8, by rw [lvR_zero]; exact List.cons_ne_nil _ _⟩ ?_ ?_
    · clear rows8 R8 B38 H8
      rintro i σ J0 hi ⟨lr, m, v5, v6, v7, v8, rfl, R1, B1, nlr, hm, rows1, ne1⟩
      refine ⟨(by show 0 ≤ sizeLine; decide), fun wl nwl => ?_⟩
      have nwr : wl ≠ r := by
        obtain ⟨_, _, _, z, _⟩ := id R1.h
        exact (ne_of_none z nwl).symm
      have nw3 : H3 wl = none := by
        obtain ⟨_, _, _, z, _⟩ := id R1.h
        exact but_none B1 z nwl
      obtain ⟨xs1, hlr0, xl, get1⟩ := rows1.get
      have nlw : lr ≠ wl := ne_of_none hlr0 nwl
      obtain ⟨sw, fw⟩ := new_at (o := .lst []) nwl
      have few1 := few m (by omega)
      have dims := fun (rr : Rw) (h : rr ∈ lvR bs N m) => lvR_row h
      refine ⟨_, rfl, lr, rfl, ⟨_, SqL.of (sw _ _ hlr0)⟩, ?_⟩
      refine for_list (K := K) (a := lr) (xs := xs1) (fun j σ H' => ∃ v7 v8 : Option V, σ = [some (.ref a), some (.ref r), some (.ref p), some (.ref c), some (.ref lr), some (.int (0 + (i : Nat))), some (.ref wl), v7, v8, none, none, none, none, none, none, none, none] ∧ RowOk H' r a ∧ But r H3 H' ∧ H' lr = some (.lst xs1) ∧
          RowsAt H' lr (lvR bs N m) ∧ RowsAt H' wl (((lvR bs N m).take j).flatMap (extR bs)))
        ⟨_, _, rfl, R1.same sw, B1.trans (sbut sw), sw _ _ hlr0, rows1.same sw, ⟨[], fw, rfl, fun t ht => by cases ht⟩⟩ (fun j σ H' _ ⟨_, _, _, _, _, h, _⟩ => SqL.of h) ?_ ?_
      · rintro j x σ J1 hx ⟨w7, w8, rfl, R2, B2, hlr, rows2, wid⟩
        obtain ⟨xs1', hlr', xl', get2⟩ := rows2.get
        obtain rfl : xs1' = xs1 := by
          rw [hlr] at hlr'
          injection hlr' with z
          injection z with z
          exact z.symm
        have hj : j < (lvR bs N m).length := by
          rw [← xl]
          exact (List.getElem?_eq_some_iff.mp hx).1
        obtain ⟨rr, err⟩ : ∃ rr, (lvR bs N m)[j]? = some rr := ⟨_, List.getElem?_eq_getElem hj⟩
        obtain ⟨tA, etA, u, hu1, hu2⟩ := get2 err
        rw [hx] at etA
        injection etA with etA
        subst etA
        have hmem := List.mem_of_getElem? err
        obtain ⟨dl, dst, dlow⟩ := dims rr hmem
        have hst7 : rr.2.length ≤ 7 := by omega
        refine ⟨tA, _, rfl, SqT.of' hu1, rfl, _, _, rfl, _, _, rfl, rfl, ?_⟩
        obtain ⟨ys, hwl, yl, _⟩ := wid.get
        refine ⟨_, rfl, .inl ⟨rfl, _, .inl (.inl hwl)⟩, ?_⟩
        refine ⟨_, rfl, _, rfl, ⟨⟨p, bs, rr.2, rfl, by rw [dst]; exact (LC B2).dr, fun q J2 hq s2 h2 => ?_⟩⟩⟩
        refine ⟨q, rfl, ⟨_, SqL.of h2⟩, fun D nD => ?_⟩
        refine lc_rows (walk_list (K := K) (a := q) (xs := (freeL bs rr.2).map V.int)) (freeL bs rr.2) (by rw [List.length_map]) (by rw [List.length_map]; have := free_len bs rr.2; omega) (fun _ => true) (fun d => ((rr.1 ++ [d], flip rr.2 d) : Rw)) nD (fun H' s => SqL.of (s _ _ h2)) ?_ ?_
        · rintro i' x d H' H'' Tk Nk ed s ⟨rfl, ex⟩ kT kF
          rw [List.getElem?_map, ed] at ex
          cases ex
          obtain ⟨d0, d1⟩ := free_in (List.mem_of_getElem? ed)
          refine ⟨rfl, tYes_of (iteT ?_)⟩
          refine ⟨_, rfl, _, rfl, (by show 1 ≤ sizeLine; decide), fun w1 nw1 => ?_⟩
          have hu3 := (s2.trans s) _ _ hu2
          obtain ⟨s3', f3⟩ := new_at (o := .tup [V.int d]) nw1
          generalize upd H'' w1 (.tup [V.int d]) = K1 at s3' f3 ⊢
          have hu3' := s3' _ _ hu3
          refine cat_one hu3' f3 (Nat.le_of_lt (small1000 (n := rr.1.length + 1) (by omega))) fun u' K2 s4 hu' => ?_
          refine ⟨_, rfl, _, rfl, ⟨⟨rr.2, d, rfl, hst7, d0, d1, fun K3 s5 => ?_⟩⟩⟩
          refine ⟨(by show 2 ≤ sizeLine; decide), fun tt ntt => ?_⟩
          obtain ⟨s6, f6⟩ := new_at (o := .tup [.ref u', .str (sstr (flip rr.2 d))]) ntt
          exact kT tt _ rfl (((s3'.trans s4).trans s5).trans s6) ⟨u', f6, s6 _ _ (s5 _ _ hu')⟩
        · intro J3 s3' rowsD
          have wid3 := (wid.same s2).same s3'
          rw [List.filter_eq_self.mpr fun _ _ => rfl] at rowsD
          obtain ⟨ya, za, hya, hza, lya, lza, ext⟩ := wid3.extend rowsD
          have sz : ya.length + za.length ≤ sizeLine := by
            have h1 := flat_le (f := extR bs) (m := N) (l := (lvR bs N m).take j) fun x hx => ext_le (dims x (List.mem_of_mem_take hx)).2.1
            rw [List.length_take] at h1
            have h2 : N * min j (lvR bs N m).length ≤ 4 * 729 := Nat.mul_le_mul n4' (by omega)
            rw [List.length_map] at lza
            have h3 := free_len bs rr.2
            exact Nat.le_trans (m := 10000) (by omega) (by decide)
          refine ⟨wl, D, ya, za, rfl, rfl, hya, hza, sz, ?_⟩
          have R3' := (R2.same s2).same s3'
          have B3' := (B2.trans (sbut s2)).trans (sbut s3')
          refine ⟨_, _, rfl, ?_, fun b o hb e => ?_, ?_, ?_, ?_⟩
          · obtain ⟨i', m', e', q1, q2⟩ := R3'.h
            exact ⟨⟨i', m', e', by rw [upd_ne nwr.symm]; exact q1, q2⟩⟩
          · rw [upd_ne (ne_of_none e nw3)]
            exact B3' b o hb e
          · rw [upd_ne nlw]
            exact s3' _ _ (s2 _ _ hlr)
          · exact ((rows2.same s2).same s3').but hya nlw but_upd
          · obtain ⟨h1, h2⟩ := List.getElem?_eq_some_iff.mp err
            rw [List.take_succ_eq_append_getElem h1, h2, List.flatMap_append, List.flatMap_cons, List.flatMap_nil, List.append_nil]
            exact ext
      · rintro σ J1 ⟨w7, w8, rfl, R2, B2, hlr, rows2, wid⟩
        rw [xl, List.take_length, ← lvR_succ] at wid
        refine ⟨_, rfl, (by show 0 ≤ sizeLine; decide), fun e0 ne0 => ?_⟩
        obtain ⟨s2, f2⟩ := new_at (o := .lst []) ne0
        refine ⟨_, _, (wid.same s2).data, .lst (SqL.of f2) .nil, dok_shaped (dok_rwsD _) (by decide), dok_shaped (dok_list (k := 1) (ds := []) fun d hd => by cases hd) (by decide), _, rfl, ?_⟩
        rw [eqv_nil5]
        have R3' := R2.same s2
        have B3' := B2.trans (sbut s2)
        have rows3 := rows2.same s2
        have wid3 := wid.same s2
        generalize upd J1 e0 (.lst []) = J2 at R3' B3' rows3 wid3 ⊢
        cases el : lvR bs N (m + 1) with
        | nil => exact iteF ⟨_, rfl, lr, m, _, _, _, _, rfl, R3', B3', nlr, by omega, rows3, ne1⟩
        | cons y l =>
          refine iteT ⟨_, rfl, wl, m + 1, _, _, _, _, rfl, R3', B3', nwr, by omega, wid3, ?_⟩
          rw [el]
          exact List.cons_ne_nil _ _
    · clear rows8 R8 B38 H8
      rintro σ J0 ⟨lr, m, v5, v6, v7, v8, rfl, R1, B1, nlr, hm, rows1, ne1⟩
      have few1 := few m hm
      have dims := fun (rr : Rw) (h : rr ∈ lvR bs N m) => lvR_row h
      have m6 : m ≤ 6 := by omega
      obtain ⟨xs1, hlr0, xl, g1⟩ := rows1.get
      clear g1
      have pos1 : 1 ≤ (lvR bs N m).length := by
        cases el : lvR bs N m with
        | nil => exact absurd el ne1
        | cons y l => exact Nat.succ_pos _
      refine ⟨_, rfl, by omega, by omega, ?_⟩
      refine for_range (lo := 0) (n := 3) (fun i σ H' => ∃ v5 v6 v7 v8 v9 v10 v11 v12 v13 : Option V, σ = [some (.ref a), some (.ref r), some (.ref p), some (.ref c), some (.ref lr), v5, v6, v7, v8, v9, v10, v11, v12, v13, none, none, none] ∧ RowOk H' r a ∧ But r H3 H' ∧ H' lr = some (.lst xs1) ∧ RowsAt H' lr (lvR bs N m))
        ⟨_, _, _, _, _, _, _, _, _, rfl, R1, B1, hlr0, rows1⟩ ?_ fun σ H' ⟨_, _, _, _, _, _, _, _, _, _, _, _, _, _⟩ => k _
      clear R1 B1 hlr0 rows1 J0
      rintro i σ J0 hi ⟨v5, v6, v7, v8, v9, v10, v11, v12, v13, rfl, R1, B1, hlr, rows1⟩
      -- which row is looked at
      refine ⟨_, rfl, _, rfl, ⟨_, rfl, lr, _, rfl, .inl (SqL.of hlr), ?_⟩⟩
      refine ⟨⟨r, a, ns, _, rfl, R1, SC B1, by omega, by omega, fun v J1 v0 v1 R2 B2 => ?_⟩⟩
      obtain ⟨kk, rfl⟩ : ∃ kk : Nat, v = kk := ⟨v.toNat, by omega⟩
      have hkk : kk < xs1.length := by omega
      obtain ⟨rr, err⟩ : ∃ rr, (lvR bs N m)[kk]? = some rr := ⟨_, List.getElem?_eq_getElem (by omega)⟩
      have hr1 : ∃ z, J0 r = some (.lst z) := R1.at'
      obtain ⟨zr, hr1⟩ := hr1
      have hlr1 := B2 _ _ nlr hlr
      have rows2 := rows1.but hr1 nlr B2
      obtain ⟨xs2, hlr2, _, get2⟩ := rows2.get
      obtain rfl : xs2 = xs1 := by
        rw [hlr1] at hlr2
        injection hlr2 with z
        injection z with z
        exact z.symm
      obtain ⟨tA, etA, u, hu1, hu2⟩ := get2 err
      obtain ⟨dl, dst, dlow⟩ := dims rr (List.mem_of_getElem? err)
      refine ⟨lr, _, _, .ref tA, rfl, rfl, SqL.of hlr1, atI_nat etA, ?_⟩
      refine ⟨tA, _, 0, .ref u, rfl, rfl, SqT.of' hu1, atI_nat (j := 0) rfl, ?_⟩
      have B12 := B1.trans B2
      clear get2 hlr2 hu1 etA
      -- what was seen
      refine ⟨_, rfl, u, rfl, ⟨_, SqT.of' hu2⟩, fun D nD => ?_⟩
      have nDr : D ≠ r := by
        obtain ⟨_, _, _, z, _⟩ := id R2.h
        exact (ne_of_none z nD).symm
      have nD3 : H3 D = none := by
        obtain ⟨_, _, _, z, _⟩ := id R2.h
        exact but_none B12 z nD
      have nDl : lr ≠ D := ne_of_none hlr1 nD
      refine lc_it (walk_tup (K := K) (a := u) (xs := rr.1.map V.int)) (fun i H' => RowOk H' r a ∧ But r H3 H' ∧ H' lr = some (.lst xs2) ∧ RowsAt H' lr (lvR bs N m) ∧ H' u = some (.tup (rr.1.map V.int)) ∧ ∃ xs : List (Option Int), xs.length = i ∧ (∀ x ∈ xs, okTh N x) ∧ H' D = some (.lst (xs.map thV)))
        ⟨R2.same (same_upd nD), B12.trans (sbut (same_upd nD)), same_upd nD _ _ hlr1, rows2.same (same_upd nD), same_upd nD _ _ hu2, [], rfl, fun x hx => (by cases hx), upd_same⟩ (fun i H' _ z => SqT.of' z.2.2.2.2.1) ?_ ?_
      · rintro i' x H' H'' hi' ⟨R4, B4, hlr4, rows4, hu4, xs, xle, okx, hDx⟩ ⟨rfl, ex⟩
        rw [List.getElem?_map] at ex
        cases ed : rr.1[i']? with
        | none => rw [ed] at ex; cases ex
        | some d =>
          rw [ed] at ex
          cases ex
          rw [List.length_map, dl] at hi'
          have put : ∀ (y : Option Int) (J5 : Hp), RowOk J5 r a → But r H'' J5 → okTh N y → ∃ acc, J5 D = some (.lst acc) ∧ acc.length < sizeLine ∧ RowOk (upd J5 D (.lst (acc ++ [thV y]))) r a ∧ But r H3 (upd J5 D (.lst (acc ++ [thV y]))) ∧ (upd J5 D (.lst (acc ++ [thV y]))) lr = some (.lst xs2) ∧ RowsAt (upd J5 D (.lst (acc ++ [thV y]))) lr (lvR bs N m) ∧
              (upd J5 D (.lst (acc ++ [thV y]))) u = some (.tup (rr.1.map V.int)) ∧ ∃ xs : List (Option Int), xs.length = i' + 1 ∧ (∀ x ∈ xs, okTh N x) ∧ (upd J5 D (.lst (acc ++ [thV y]))) D = some (.lst (xs.map thV)) := fun y J5 R5 B5 hy => by
            obtain ⟨zr, hrz⟩ := R4.at'
            have hD5 := B5 _ _ nDr hDx
            refine ⟨_, hD5, by rw [List.length_map]; exact small1000 (by omega), ?_, fun b o hb e => ?_, ?_, ?_, ?_, xs ++ [y], by rw [List.length_append, xle]; rfl, fun z hz => ?_, by rw [upd_same, List.map_append]; rfl⟩
            · obtain ⟨i', m', e', q1, q2⟩ := R5.h
              exact ⟨⟨i', m', e', by rw [upd_ne nDr.symm]; exact q1, q2⟩⟩
            · rw [upd_ne (ne_of_none e nD3)]
              exact B5 b o hb (B4 b o hb e)
            · rw [upd_ne nDl]
              exact B5 _ _ nlr hlr4
            · exact (rows4.but hrz nlr B5).but hD5 nDl but_upd
            · have hu5 := B5.tup hrz hu4
              rw [upd_ne (ne_of hu5 hD5 (by intro z; cases z))]
              exact hu5
            · rcases List.mem_append.mp hz with h | h
              · exact okx z h
              · rw [List.mem_singleton.mp h]
                exact hy
          refine ⟨rfl, tYes_of (iteT ?_)⟩
          refine ⟨_, rfl, ⟨⟨r, a, ns, 2, rfl, R4, SC B4, by decide, by decide, fun v J5 v0 v1 R5 B5 => ?_⟩⟩⟩
          refine ⟨rfl, _, rfl, ?_⟩
          by_cases z : v = 0
          · rw [decide_eq_true (by rw [z])]
            exact iteT ⟨_, rfl, put (some d) J5 R5 B5 (dlow d (List.mem_of_getElem? ed))⟩
          · rw [decide_eq_false (fun q => z (by injection q))]
            exact iteF (put none J5 R5 B5 trivial)
      · rintro J2 ⟨R4, B4, hlr4, rows4, hu4, xs0, xl0, okx0, hD4⟩
        rw [List.length_map, dl] at xl0
        clear rows2 hlr1 hu2 B12 R2 B2 hlr R1 B1 rows1 nD hr1 J1 J0
        refine ⟨fun σ H' => ∃ xs : List (Option Int), σ = [some (.ref a), some (.ref r), some (.ref p), some (.ref c), some (.ref lr), some (.int (0 + (i : Nat))), v6, some (.ref u), v8, some (.ref D), v10, v11, v12, v13, none, none, none] ∧ RowOk H' r a ∧ But r H3 H' ∧ H' lr = some (.lst xs2) ∧ RowsAt H' lr (lvR bs N m) ∧ xs.length = m ∧ (∀ x ∈ xs, okTh N x) ∧ H' D = some (.lst (xs.map thV)), ?_, ?_⟩
        · refine ⟨_, rfl, (by show 0 ≤ sizeLine; decide), fun e0 ne0 => ?_⟩
          obtain ⟨s5, f5⟩ := new_at (o := .lst []) ne0
          refine ⟨_, _, .lst (SqL.of (s5 _ _ hD4)) (dpAll_th _), .lst (SqL.of f5) .nil, dok_shaped (dok_list (dok_th _)) (by decide), dok_shaped (dok_list (k := 1) (ds := []) fun d hd => by cases hd) (by decide), _, rfl, ?_⟩
          rw [eqv_nil5]
          have R5 := R4.same s5
          have B5 := B4.trans (sbut s5)
          have hlr5 := s5 _ _ hlr4
          have rows5 := rows4.same s5
          have hD5 := s5 _ _ hD4
          generalize upd J2 e0 (.lst []) = J3 at R5 B5 hlr5 rows5 hD5 ⊢
          cases ex : xs0 with
          | nil =>
            rw [ex] at hD5 xl0
            exact iteF (iteF ⟨_, rfl, R5, B5, hlr5, rows5, xl0, (fun x hx => by cases hx), hD5⟩)
          | cons x0 xr =>
            rw [← ex]
            have et : ((xs0.map thD).isEmpty) = false := by rw [ex]; rfl
            have m1' : 1 ≤ m := by rw [← xl0, ex]; exact Nat.succ_pos _
            rw [et]
            refine iteT ?_
            refine ⟨_, rfl, ⟨⟨r, a, ns, 5, rfl, R5, SC B5, by decide, by decide, fun v J5 v0 v1 R6 B6 => ?_⟩⟩⟩
            obtain ⟨zr, hrz⟩ := R5.at'
            have B36 := B5.trans B6
            have hlr6 := B6 _ _ nlr hlr5
            have rows6 := rows5.but hrz nlr B6
            have hD6 := B6 _ _ nDr hD5
            refine ⟨rfl, _, rfl, ?_⟩
            by_cases z : v = 0
            · rw [decide_eq_true (by rw [z])]
              refine iteT ?_
              obtain ⟨xs7, hx7, hx7'⟩ := (LC B36).at0 K
              refine ⟨_, rfl, _, rfl, p, _, 0, .int N, rfl, rfl, hx7, hx7', ?_⟩
              refine ⟨⟨r, a, ns, _, rfl, R6, SC B36, by omega, by omega, fun g J6 g0 g1 R7 B7 => ?_⟩⟩
              have B37 := B36.trans B7
              have hD7 := B7 _ _ nDr hD6
              obtain ⟨zr6, hrz6⟩ := R6.at'
              refine ⟨_, rfl, _, rfl, ⟨_, rfl, D, _, rfl, .inl (SqL.of hD7), ?_⟩⟩
              refine ⟨⟨r, a, ns, _, rfl, R7, SC B37, by rw [List.length_map]; omega, by rw [List.length_map]; omega, fun h J7 h0 h1 R8 B8 => ?_⟩⟩
              obtain ⟨hh, rfl⟩ : ∃ hh : Nat, h = hh := ⟨h.toNat, by omega⟩
              rw [List.length_map] at h1
              have hD8 := B8 _ _ nDr hD7
              obtain ⟨zr7, hrz7⟩ := R7.at'
              have rows8 := (rows6.but hrz6 nlr B7).but hrz7 nlr B8
              refine ⟨D, _, _, hh, rfl, rfl, hD8, ix_at_nat (by rw [List.length_map]; omega), ?_⟩
              refine ⟨xs0.set hh (some g), rfl, ?_, fun b o hb e => ?_, ?_, rows8.but hD8 nDl but_upd, by rw [List.length_set, xl0], fun x hx => ?_, ?_⟩
              · obtain ⟨i', m', e', q1, q2⟩ := R8.h
                exact ⟨⟨i', m', e', by rw [upd_ne nDr.symm]; exact q1, q2⟩⟩
              · rw [upd_ne (ne_of_none e nD3)]
                exact B8 b o hb (B37 b o hb e)
              · rw [upd_ne nDl]
                exact B8 _ _ nlr (B7 _ _ nlr hlr6)
              · rcases List.mem_or_eq_of_mem_set hx with h | h
                · exact okx0 x h
                · rw [h]
                  exact ⟨g0, g1⟩
              · rw [upd_same, List.map_set]
                rfl
            · rw [decide_eq_false (fun q => z (by injection q))]
              exact iteF ⟨_, rfl, R6, B36, hlr6, rows6, xl0, okx0, hD6⟩
        clear rows4 hD4 hlr4 R4 B4 hu4 J2 okx0 xl0 xs0
        rintro σ J1 ⟨xs, rfl, R1, B1, hlr, rows1, xsl, okx, hD1⟩
        -- those that agree
        refine ⟨_, rfl, lr, rfl, ⟨_, SqL.of hlr⟩, fun sm nsm => ?_⟩
        have nsmr : sm ≠ r := by
          obtain ⟨_, _, _, z, _⟩ := id R1.h
          exact (ne_of_none z nsm).symm
        refine lc_rows (walk_list (K := K) (a := lr) (xs := xs2)) (lvR bs N m) (by rw [xl]) (by rw [xl]; omega) (fun q => agrAll xs q.1) (fun q => q) nsm (fun H' s => SqL.of (s _ _ hlr)) ?_ ?_
        · rintro kk x rr H' H'' Tk Nk err s ⟨rfl, ex⟩ kT kF
          obtain ⟨xs3, hlr3, _, get3⟩ := (rows1.same s).get
          obtain rfl : xs3 = xs2 := by
            rw [s _ _ hlr] at hlr3
            injection hlr3 with z
            injection z with z
            exact z.symm
          obtain ⟨tA, etA, w1, hw1, hw2⟩ := get3 err
          rw [ex] at etA
          injection etA with etA
          subst etA
          obtain ⟨dl, dst, dlow⟩ := dims rr (List.mem_of_getElem? err)
          refine ⟨tA, _, rfl, SqT.of' hw1, rfl, _, _, rfl, _, _, rfl, rfl, rfl, ?_⟩
          refine ⟨_, rfl, D, _, rfl, .inl (SqL.of (s _ _ hD1)), ?_⟩
          rw [List.length_map]
          refine ⟨_, rfl, by omega, by omega, fun D2 nD2 => ?_⟩
          rw [Int.toNat_natCast]
          refine lc_pick (walk_range (lo := 0) (n := xs.length)) (List.range xs.length) List.length_range (by omega) (fun _ => true) (fun z => V.bl (agrAt xs rr.1 z)) nD2 (fun _ _ => trivial) ?_ ?_
          · rintro z x' z' H4 H4' Tk2 Nk2 ez s4 ⟨rfl, ex'⟩ kT2 kF2
            have hz : z < xs.length := by
              have := (List.getElem?_eq_some_iff.mp ez).1
              rw [List.length_range] at this
              exact this
            obtain rfl : z' = z := by
              have := (List.getElem?_eq_some_iff.mp ez).2
              rw [List.getElem_range] at this
              exact this.symm
            obtain rfl : x' = V.int (z' : Nat) := by
              rw [ex']
              show V.int ((0 : Int) + (z' : Nat)) = V.int (z' : Nat)
              rw [Int.zero_add]
            refine ⟨rfl, tYes_of (iteT ?_)⟩
            have e1 : xs[z']? = some (xs.getD z' none) := by
              rw [List.getD_eq_getElem?_getD, List.getElem?_eq_getElem hz]
              rfl
            have e2 : rr.1[z']? = some (rr.1.getD z' 0) := by
              rw [List.getD_eq_getElem?_getD, List.getElem?_eq_getElem (by omega)]
              rfl
            refine ⟨_, rfl, _, rfl, D, _, _, thV (xs.getD z' none), rfl, rfl, SqL.of (s4 _ _ (s _ _ hD1)), atI_nat (by rw [List.getElem?_map, e1]; rfl), ?_⟩
            refine ⟨_, rfl, _, rfl, w1, _, _, .int (rr.1.getD z' 0), rfl, rfl, SqT.of' (s4 _ _ hw2), atI_nat (by rw [List.getElem?_map, e2]; rfl), (by show 2 ≤ sizeLine; decide), fun lw nlw => ?_⟩
            refine ⟨lw, _, rfl, .inl (SqL.of upd_same), ?_, rfl, ?_⟩
            · cases xs.getD z' none <;> rfl
            · have e3 : (V.bl (if false = true then !inV (thV (xs.getD z' none)) [.non, .int (rr.1.getD z' 0)] else inV (thV (xs.getD z' none)) [.non, .int (rr.1.getD z' 0)])) = V.bl (agrAt xs rr.1 z') := by
                rw [if_neg Bool.false_ne_true, inV_agr]
                rfl
              rw [e3]
              exact kT2 _ rfl (same_upd nlw)
          · intro J5 s5 hD2
            rw [List.filter_eq_self.mpr fun _ _ => rfl] at hD2
            refine ⟨D2, (List.range xs.length).map (agrAt xs rr.1), rfl, SqL.of (by rw [hD2, List.map_map]; rfl), _, rfl, ?_⟩
            rw [agr_range xs rr.1 (by omega)]
            cases e : agrAll xs rr.1 with
            | true =>
              refine iteT ?_
              refine ⟨_, rfl, _, rfl, (by show 2 ≤ sizeLine; decide), fun t1 nt1 => ?_⟩
              exact kT t1 _ e (s5.trans (same_upd nt1)) ⟨w1, upd_same, (same_upd nt1) _ _ (s5 _ _ hw2)⟩
            | false => exact iteF (kF _ e s5)
        intro J2 s2 some2
        have eR : ((lvR bs N m).filter fun q => agrAll xs q.1).map (fun q : Rw => q) = rowsL bs xs (shutS N) := by
          rw [List.map_id', rows_of xs, xsl]
        rw [eR] at some2
        have R2 := R1.same s2
        have B2 := B1.trans (sbut s2)
        have hlr2 := s2 _ _ hlr
        have rows2 := rows1.same s2
        have hD2 := s2 _ _ hD1
        clear rows1 hlr R1 B1 hD1 nsm s2 J1
        -- a list or a tuple
        refine ⟨fun σ H' => ∃ l : Addr, σ = [some (.ref a), some (.ref r), some (.ref p), some (.ref c), some (.ref lr), some (.int (0 + (i : Nat))), v6, some (.ref u), v8, some (.ref l), v10, some (.ref sm), v12, v13, none, none, none] ∧ RowOk H' r a ∧ But r H3 H' ∧ H' lr = some (.lst xs2) ∧ RowsAt H' lr (lvR bs N m) ∧ SeenAt H' l xs ∧ RowsAt H' sm (rowsL bs xs (shutS N)), ?_, ?_⟩
        · refine ⟨_, rfl, ⟨⟨r, a, ns, 2, rfl, R2, SC B2, by decide, by decide, fun v J5 v0 v1 R6 B6 => ?_⟩⟩⟩
          obtain ⟨zr, hrz⟩ := R2.at'
          have B36 := B2.trans B6
          have hlr6 := B6 _ _ nlr hlr2
          have rows6 := rows2.but hrz nlr B6
          have some6 := some2.but hrz nsmr B6
          have hD6 := B6 _ _ nDr hD2
          refine ⟨rfl, _, rfl, ?_⟩
          by_cases z : v = 0
          · rw [decide_eq_true (by rw [z])]
            refine iteT ⟨_, rfl, .inl ⟨D, _, rfl, SqL.of hD6, fun q nq => ?_⟩⟩
            have sq := same_upd (o := .tup (xs.map thV)) nq
            exact ⟨q, rfl, R6.same sq, B36.trans (sbut sq), sq _ _ hlr6, rows6.same sq, .inr upd_same, some6.same sq⟩
          · rw [decide_eq_false (fun q => z (by injection q))]
            exact iteF ⟨D, rfl, R6, B36, hlr6, rows6, .inl hD6, some6⟩
        clear some2 hD2 rows2 hlr2 R2 B2 J2
        rintro σ J1 ⟨l, rfl, R1, B1, hlr, rows1, seen1, some1⟩
        -- how many, and where they lead
        have xs60 : xs.length ≤ 60 := by omega
        have rfew : (rowsL bs xs (shutS N)).length ≤ 729 := by
          rw [rows_of xs, xsl]
          exact Nat.le_trans (List.length_filter_le _ _) few1
        have seenS : ∀ {H1 H2 : Hp}, SeenAt H1 l xs → Same H1 H2 → SeenAt H2 l xs := fun h s => h.imp (s _ _) (s _ _)
        refine ⟨fun σ H' => σ = [some (.ref a), some (.ref r), some (.ref p), some (.ref c), some (.ref lr), some (.int (0 + (i : Nat))), v6, some (.ref u), v8, some (.ref l), v10, some (.ref sm), v12, v13, none, none, none] ∧ RowOk H' r a ∧ But r H3 H' ∧ H' lr = some (.lst xs2) ∧ RowsAt H' lr (lvR bs N m) ∧ SeenAt H' l xs ∧ RowsAt H' sm (rowsL bs xs (shutS N)), ?_, ?_⟩
        · refine ⟨_, rfl, _, rfl, ⟨⟨c, l, bs, N, xs, rfl, (LC B1).cab, seen1, xs60, okx, fun J2 s2 => ?_⟩⟩⟩
          obtain ⟨ys, hsm, yl, gety⟩ := (some1.same s2).get
          refine ⟨_, rfl, sm, _, rfl, .inl (SqL.of hsm), ?_⟩
          refine ⟨rfl, _, rfl, iteNS (by rw [ends_of, List.length_map, yl]) ?_⟩
          refine ⟨_, rfl, _, rfl, ⟨⟨c, l, bs, N, xs, rfl, (LC (B1.trans (sbut s2))).cab, seenS seen1 s2, xs60, okx, fun sa J3 ks2 ys2 s3' nd2 mem2 pm2 so2 hsa => ?_⟩⟩⟩
          refine ⟨_, rfl, sm, rfl, ⟨_, SqL.of (s3' _ _ hsm)⟩, fun D2 nD2 => ?_⟩
          refine lc_pick (walk_list (K := K) (a := sm) (xs := ys)) (rowsL bs xs (shutS N)) (by rw [yl]) (by rw [yl]; omega) (fun _ => true) (fun q => V.str (sstr q.2)) nD2 (fun H' s => SqL.of (s _ _ (s3' _ _ hsm))) ?_ ?_
          · rintro kk x rr H' H'' Tk Nk err s ⟨rfl, ex⟩ kT kF
            obtain ⟨tA, etA, w1, hw1, hw2⟩ := gety err
            rw [ex] at etA
            injection etA with etA
            subst etA
            exact ⟨tA, _, rfl, SqT.of' (s _ _ (s3' _ _ hw1)), rfl, _, _, rfl, _, _, rfl, rfl, rfl, tYes_of (iteT ⟨_, rfl, kT _ rfl (Same.refl _)⟩)⟩
          intro J4 s4 hD4
          rw [List.filter_eq_self.mpr fun _ _ => rfl] at hD4
          refine ⟨D2, (rowsL bs xs (shutS N)).map fun q => (Sum.inr (sstr q.2) : Key), rfl, SqL.of (by rw [hD4, List.map_map]; rfl), ?_, fun sa2 L nsa2 ndL memL => ?_⟩
          · rw [List.length_map]
            exact Nat.lt_of_le_of_lt (m := 1000) (by omega) (by decide)
          obtain ⟨bs', rfl⟩ := keys_inr (L := L) fun z hz => by
            obtain ⟨q, _, rfl⟩ := List.mem_map.mp ((memL z).mp hz)
            exact ⟨q.2, rfl⟩
          obtain ⟨s5, f5⟩ := new_at (o := SetWO P w sa2 ((bs'.map sstr).map Sum.inr)) nsa2
          refine ⟨sa2, bs'.map sstr, rfl, f5, fun ys' py hpy hsy hpn => ?_⟩
          have nd' : bs'.Nodup := nodup_of_map (nodup_of_map ndL)
          have mem' : ∀ b, b ∈ bs' ↔ b ∈ endsA bs [shutS N] xs := fun b => by
            rw [ends_of, List.mem_map]
            have h := memL (Sum.inr (sstr b))
            rw [List.mem_map, List.mem_map] at h
            constructor
            · intro hb
              obtain ⟨q, hq, e⟩ := h.mp ⟨_, List.mem_map_of_mem (f := sstr) hb, rfl⟩
              injection e with e
              exact ⟨q, hq, sstr_inj e⟩
            · rintro ⟨q, hq, rfl⟩
              obtain ⟨z, hz, e⟩ := h.mpr ⟨q, hq, rfl⟩
              injection e with e
              obtain ⟨b', hb', e2⟩ := List.mem_map.mp hz
              rw [← sstr_inj (e2.trans e)]
              exact hb'
          have pks : ks2.Perm bs' := perm_mem nd2 nd' fun b => by rw [mem2, mem']
          have eqy : ys2 = ys' := sorted_same so2 hsy ((pm2.trans (pks.map sstr)).trans hpy.symm)
          subst eqy
          have sy := same_upd (o := .lst (ys2.map V.str)) hpn
          have okY : dok 2 (.list (ys2.map PyData.str)) := dok_strs fun z hz => by
            obtain ⟨e, _, rfl⟩ := List.mem_map.mp (pm2.mem_iff.mp hz)
            exact sstr_ok _
          refine ⟨_, _, .lst (SqL.of (sy _ _ (s5 _ _ (s4 _ _ hsa)))) (dpAll_strs _), .lst (SqL.of upd_same) (dpAll_strs _), dok_shaped okY (by decide), dok_shaped okY (by decide), _, rfl, ?_⟩
          rw [eqv_self okY]
          have s1x := (((s2.trans s3').trans s4).trans s5).trans sy
          exact iteF ⟨rfl, R1.same s1x, B1.trans (sbut s1x), s1x _ _ hlr, rows1.same s1x, seenS seen1 s1x, some1.same s1x⟩
        clear some1 seen1 rows1 hlr R1 B1 J1
        rintro σ J1 ⟨rfl, R1, B1, hlr, rows1, seen1, some1⟩
        -- the first one
        refine ⟨fun σ H' => σ = [some (.ref a), some (.ref r), some (.ref p), some (.ref c), some (.ref lr), some (.int (0 + (i : Nat))), v6, some (.ref u), v8, some (.ref l), v10, some (.ref sm), v12, v13, none, none, none] ∧ RowOk H' r a ∧ But r H3 H' ∧ H' lr = some (.lst xs2) ∧ RowsAt H' lr (lvR bs N m) ∧ SeenAt H' l xs ∧ RowsAt H' sm (rowsL bs xs (shutS N)), ?_, ?_⟩
        · cases hc : canF bs xs (shutS N) with
          | false =>
            have hno : rowsL bs xs (shutS N) = [] := by
              have e := hc
              rw [can_rows] at e
              cases er : rowsL bs xs (shutS N) with
              | nil => rfl
              | cons y l => rw [er] at e; cases e
            refine ⟨_, rfl, _, rfl, ⟨⟨c, l, bs, N, xs, rfl, (LC B1).cab, seen1, xs60, okx, .inl ⟨hc, fun J2 s2 => ?_⟩⟩⟩⟩
            refine ⟨_, rfl, (by show 0 ≤ sizeLine; decide), fun e0 ne0 => ?_⟩
            have s3' := same_upd (o := .lst []) ne0
            refine ⟨_, _, ((some1.same s2).same s3').data, .lst (SqL.of upd_same) .nil, dok_shaped (dok_rwsD _) (by decide), dok_shaped (dok_list (k := 1) (ds := []) fun d hd => by cases hd) (by decide), _, rfl, ?_⟩
            rw [eqv_nil5, hno]
            refine iteF ⟨_, _, .non, .non, rfl, rfl, _, rfl, ?_⟩
            have s1x := s2.trans s3'
            refine iteF ⟨rfl, R1.same s1x, B1.trans (sbut s1x), s1x _ _ hlr, rows1.same s1x, seenS seen1 s1x, ?_⟩
            have some9 := some1.same s1x
            rw [hno] at some9
            exact some9
          | true =>
            obtain ⟨e1, lrest, el⟩ := least_head hc
            refine ⟨_, rfl, _, rfl, ⟨⟨c, l, bs, N, xs, rfl, (LC B1).cab, seen1, xs60, okx, .inr ⟨hc, fun ft J2 s2 hft => ?_⟩⟩⟩⟩
            refine ⟨_, rfl, (by show 0 ≤ sizeLine; decide), fun e0 ne0 => ?_⟩
            have s3' := same_upd (o := .lst []) ne0
            have some3 := (some1.same s2).same s3'
            refine ⟨_, _, some3.data, .lst (SqL.of upd_same) .nil, dok_shaped (dok_rwsD _) (by decide), dok_shaped (dok_list (k := 1) (ds := []) fun d hd => by cases hd) (by decide), _, rfl, ?_⟩
            rw [eqv_nil5]
            have et : ((rowsL bs xs (shutS N)).map rwD).isEmpty = false := by rw [el]; rfl
            rw [et]
            obtain ⟨ys, hsm, yl, gety⟩ := some3.get
            obtain ⟨tA, etA, w1, hw1, hw2⟩ := gety (k := 0) (by rw [el]; rfl)
            refine iteT ⟨_, rfl, sm, _, 0, .ref tA, rfl, rfl, SqL.of hsm, atI_nat (j := 0) etA, tA, _, 0, .ref w1, rfl, rfl, SqT.of' hw1, atI_nat (j := 0) rfl, ?_⟩
            have okD : dok 2 (.tuple ((leastR bs xs (shutS N)).map PyData.int)) := dok_tuple (dok_ints _)
            refine ⟨_, _, .tup (SqT.of' (s3' _ _ hft)) (dpAll_ints _), .tup (SqT.of' hw2) (dpAll_ints _), dok_shaped okD (by decide), dok_shaped okD (by decide), _, rfl, ?_⟩
            rw [eqv_self okD]
            have s1x := s2.trans s3'
            exact iteF ⟨rfl, R1.same s1x, B1.trans (sbut s1x), s1x _ _ hlr, rows1.same s1x, seenS seen1 s1x, some1.same s1x⟩
        clear some1 seen1 rows1 hlr R1 B1 J1
        rintro σ J1 ⟨rfl, R1, B1, hlr, rows1, seen1, some1⟩
        -- what is sure
        refine ⟨(by show 0 ≤ sizeLine; decide), fun du ndu => ?_⟩
        obtain ⟨sd, fd⟩ := new_at (o := .lst []) ndu
        have ndr : du ≠ r := by
          obtain ⟨_, _, _, z, _⟩ := id R1.h
          exact (ne_of_none z ndu).symm
        have nd3 : H3 du = none := by
          obtain ⟨_, _, _, z, _⟩ := id R1.h
          exact but_none B1 z ndu
        have ndl : lr ≠ du := ne_of_none hlr ndu
        have ndS : l ≠ du := seen1.elim (fun h => ne_of_none h ndu) (fun h => ne_of_none h ndu)
        have ndm : sm ≠ du := by
          obtain ⟨_, z, _⟩ := some1.get
          exact ne_of_none z ndu
        obtain ⟨due, hdue⟩ : ∃ due : Nat → Option Int, due = fun k => oneOf (goodL bs N xs k (xs.getD k none)) := ⟨_, rfl⟩
        have seen2 := seenS seen1 sd
        refine ⟨_, rfl, l, xs.map thV, rfl, seen2.imp SqL.of SqT.of', ?_⟩
        rw [List.length_map]
        refine ⟨_, rfl, by omega, by omega, ?_⟩
        rw [Int.toNat_natCast]
        refine for_range (lo := 0) (n := xs.length) (fun kk σ H' => ∃ v10 v13 : Option V, σ = [some (.ref a), some (.ref r), some (.ref p), some (.ref c), some (.ref lr), some (.int (0 + (i : Nat))), v6, some (.ref u), v8, some (.ref l), v10, some (.ref sm), some (.ref du), v13, none, none, none] ∧ RowOk H' r a ∧ But r H3 H' ∧ H' lr = some (.lst xs2) ∧ RowsAt H' lr (lvR bs N m) ∧ SeenAt H' l xs ∧
            RowsAt H' sm (rowsL bs xs (shutS N)) ∧ H' du = some (.lst (((List.range kk).map due).map thV)))
          ⟨_, _, rfl, R1.same sd, B1.trans (sbut sd), sd _ _ hlr, rows1.same sd, seen2, some1.same sd, fd⟩ ?_ ?_
        · clear seen2 sd fd ndu some1 seen1 rows1 hlr R1 B1 J1
          rintro kk σ J1 hkk ⟨v10, v13, rfl, R1, B1, hlr, rows1, seen1, some1, hdu⟩
          obtain ⟨ys, hsm, yl, gety⟩ := some1.get
          have exk : xs[kk]? = some (xs.getD kk none) := by
            rw [List.getD_eq_getElem?_getD, List.getElem?_eq_getElem hkk]
            rfl
          have lenR : ∀ q ∈ rowsL bs xs (shutS N), q.1.length = xs.length := fun q hq => (mem_rowsL.mp hq).1.len
          refine ⟨_, rfl, sm, rfl, ⟨_, SqL.of hsm⟩, fun D2 nD2 => ?_⟩
          refine lc_pick (walk_list (K := K) (a := sm) (xs := ys)) (rowsL bs xs (shutS N)) (by rw [yl]) (by rw [yl]; omega) (fun _ => true) (fun q => V.int (q.1.getD kk 0)) nD2 (fun H' s => SqL.of (s _ _ hsm)) ?_ ?_
          · rintro mm x rr H' H'' Tk Nk err s ⟨rfl, ex⟩ kT kF
            obtain ⟨tA, etA, w1, hw1, hw2⟩ := gety err
            rw [ex] at etA
            injection etA with etA
            subst etA
            have hl := lenR rr (List.mem_of_getElem? err)
            have e2 : rr.1[kk]? = some (rr.1.getD kk 0) := by
              rw [List.getD_eq_getElem?_getD, List.getElem?_eq_getElem (by omega)]
              rfl
            have em : ((0 : Int) + (kk : Nat)) = (kk : Nat) := Int.zero_add _
            refine ⟨tA, _, rfl, SqT.of' (s _ _ hw1), rfl, _, _, rfl, _, _, rfl, rfl, rfl, tYes_of (iteT ⟨_, rfl, _, rfl, w1, _, _, .int (rr.1.getD kk 0), rfl, rfl, SqT.of' (s _ _ hw2), ?_, kT _ rfl (Same.refl _)⟩)⟩
            rw [em]
            exact atI_nat (by rw [List.getElem?_map, e2]; rfl)
          intro J4 s4 hD4
          rw [List.filter_eq_self.mpr fun _ _ => rfl] at hD4
          refine ⟨D2, (rowsL bs xs (shutS N)).map fun q => (Sum.inl (q.1.getD kk 0) : Key), rfl, SqL.of (by rw [hD4, List.map_map]; rfl), ?_, fun sa2 L nsa2 ndL memL => ?_⟩
          · rw [List.length_map]
            exact Nat.lt_of_le_of_lt (m := 1000) (by omega) (by decide)
          obtain ⟨ns2, rfl⟩ := keys_inl (L := L) fun z hz => by
            obtain ⟨q, _, rfl⟩ := List.mem_map.mp ((memL z).mp hz)
            exact ⟨_, rfl⟩
          obtain ⟨s5, f5⟩ := new_at (o := SetWO P w sa2 (ns2.map Sum.inl)) nsa2
          have ndn : ns2.Nodup := nodup_of_map ndL
          have memn : ∀ d, d ∈ ns2 ↔ d ∈ goodL bs N xs kk (xs.getD kk none) := fun d => by
            rw [good_rows exk]
            have h := memL (Sum.inl d)
            rw [List.mem_map, List.mem_map] at h
            constructor
            · intro hd
              obtain ⟨q, hq, e⟩ := h.mp ⟨_, hd, rfl⟩
              injection e with e
              refine ⟨q, hq, ?_⟩
              rw [← e, List.getD_eq_getElem?_getD, List.getElem?_eq_getElem (by rw [lenR q hq]; exact hkk)]
              rfl
            · rintro ⟨q, hq, e⟩
              obtain ⟨z, hz, e2⟩ := h.mpr ⟨q, hq, by rw [List.getD_eq_getElem?_getD, e]; rfl⟩
              injection e2 with e2
              rw [← e2]
              exact hz
          have pgood : ns2.Perm (goodL bs N xs kk (xs.getD kk none)) := perm_mem ndn (good_nodup _ _ _ _ _) memn
          have gfew : (goodL bs N xs kk (xs.getD kk none)).length ≤ N := by
            unfold goodL
            have h1 := List.length_filter_le (agr (xs.getD kk none)) (drs N)
            rw [drs_len] at h1
            exact Nat.le_trans (List.length_filter_le _ _) h1
          refine ⟨sa2, ns2, rfl, f5, by rw [pgood.length_eq]; omega, fun ns3 q pq sq nq => ?_⟩
          have eone : oneOf ns3 = due kk := by
            rw [hdue]
            exact oneOf_perm (pq.trans pgood)
          obtain ⟨s6, f6⟩ := new_at (o := .lst (ns3.map V.int)) nq
          have s16 := (s4.trans s5).trans s6
          have hdu6 := s16 _ _ hdu
          have szd : (((List.range kk).map due).map thV).length < sizeLine := by
            rw [List.length_map, List.length_map, List.length_range]
            exact small1000 (by omega)
          have fin : ∀ (J6 : Hp), Same J1 J6 → ∀ o : Option Int, oneOf ns3 = o → RowOk (upd J6 du (.lst (((List.range kk).map due).map thV ++ [thV o]))) r a ∧ But r H3 (upd J6 du (.lst (((List.range kk).map due).map thV ++ [thV o]))) ∧ (upd J6 du (.lst (((List.range kk).map due).map thV ++ [thV o]))) lr = some (.lst xs2) ∧ RowsAt (upd J6 du (.lst (((List.range kk).map due).map thV ++ [thV o]))) lr (lvR bs N m) ∧
              SeenAt (upd J6 du (.lst (((List.range kk).map due).map thV ++ [thV o]))) l xs ∧ RowsAt (upd J6 du (.lst (((List.range kk).map due).map thV ++ [thV o]))) sm (rowsL bs xs (shutS N)) ∧ (upd J6 du (.lst (((List.range kk).map due).map thV ++ [thV o]))) du = some (.lst (((List.range (kk + 1)).map due).map thV)) := fun J6 s16 o eo => by
            have hdu6 := s16 _ _ hdu
            have R6 := R1.same s16
            have B6 := B1.trans (sbut s16)
            have hlr6 := s16 _ _ hlr
            have rows6 := rows1.same s16
            have seen6 := seenS seen1 s16
            have some6 := some1.same s16
            refine ⟨?_, fun b ob hb e => ?_, ?_, rows6.but hdu6 ndl but_upd, ?_, some6.but hdu6 ndm but_upd, ?_⟩
            · obtain ⟨i', m', e', q1, q2⟩ := R6.h
              exact ⟨⟨i', m', e', by rw [upd_ne ndr.symm]; exact q1, q2⟩⟩
            · rw [upd_ne (ne_of_none e nd3)]
              exact B6 b ob hb e
            · rw [upd_ne ndl]
              exact hlr6
            · exact seen6.imp (fun h => by rw [upd_ne ndS]; exact h) (fun h => by rw [upd_ne ndS]; exact h)
            · rw [upd_same, List.range_succ, List.map_append, List.map_append, ← eo, eone]
              rfl
          refine ⟨_, rfl, .inl ⟨rfl, _, .inl (.inl hdu6)⟩, ?_⟩
          refine ⟨_, rfl, q, _, rfl, .inl (SqL.of f6), rfl, _, rfl, ?_⟩
          match ns3, f6, s16, hdu6, fin with
          | [], f6, s16, hdu6, fin =>
            refine iteF ?_
            exact ⟨du, _, _, rfl, rfl, hdu6, szd, _, _, rfl, fin _ s16 none rfl⟩
          | [d1], f6, s16, hdu6, fin =>
            refine iteT ?_
            exact ⟨_, rfl, q, _, 0, .int d1, rfl, rfl, SqL.of f6, atI_nat (j := 0) rfl, du, _, _, rfl, rfl, hdu6, szd, _, _, rfl, fin _ s16 (some d1) rfl⟩
          | d1 :: d2 :: more, f6, s16, hdu6, fin =>
            refine iteFS (by rw [List.length_map]; intro z; injection z with z; simp at z; omega) ?_
            exact ⟨du, _, _, rfl, rfl, hdu6, szd, _, _, rfl, fin _ s16 none rfl⟩
        · clear seen2 sd fd ndu some1 seen1 rows1 hlr R1 B1 J1
          rintro σ J1 ⟨v10, v13, rfl, R1, B1, hlr, rows1, seen1, some1, hdu⟩
          cases hc : canF bs xs (shutS N) with
          | false =>
            have hno : rowsL bs xs (shutS N) = [] := by
              have e := hc
              rw [can_rows] at e
              cases er : rowsL bs xs (shutS N) with
              | nil => rfl
              | cons y l => rw [er] at e; cases e
            refine ⟨_, rfl, _, rfl, ⟨⟨c, l, bs, N, xs, rfl, (LC B1).cab, seen1, xs60, okx, .inl ⟨hc, fun J2 s2 => ?_⟩⟩⟩⟩
            refine ⟨_, rfl, (by show 0 ≤ sizeLine; decide), fun e0 ne0 => ?_⟩
            have s3' := same_upd (o := .lst []) ne0
            refine ⟨_, _, ((some1.same s2).same s3').data, .lst (SqL.of upd_same) .nil, dok_shaped (dok_rwsD _) (by decide), dok_shaped (dok_list (k := 1) (ds := []) fun d hd => by cases hd) (by decide), _, rfl, ?_⟩
            rw [eqv_nil5, hno]
            refine iteF ⟨_, _, .non, .non, rfl, rfl, _, rfl, ?_⟩
            have s1x := s2.trans s3'
            exact iteF ⟨_, _, _, _, _, _, _, _, _, rfl, R1.same s1x, B1.trans (sbut s1x), s1x _ _ hlr, rows1.same s1x⟩
          | true =>
            obtain ⟨e1, lrest, el⟩ := least_head hc
            refine ⟨_, rfl, _, rfl, ⟨⟨c, l, bs, N, xs, rfl, (LC B1).cab, seen1, xs60, okx, .inr ⟨hc, fun ft J2 s2 hft => ?_⟩⟩⟩⟩
            refine ⟨_, rfl, (by show 0 ≤ sizeLine; decide), fun e0 ne0 => ?_⟩
            have s3' := same_upd (o := .lst []) ne0
            refine ⟨_, _, ((some1.same s2).same s3').data, .lst (SqL.of upd_same) .nil, dok_shaped (dok_rwsD _) (by decide), dok_shaped (dok_list (k := 1) (ds := []) fun d hd => by cases hd) (by decide), _, rfl, ?_⟩
            rw [eqv_nil5]
            have et : ((rowsL bs xs (shutS N)).map rwD).isEmpty = false := by rw [el]; rfl
            rw [et]
            have s13 := s2.trans s3'
            refine iteT ⟨_, rfl, .inl ⟨du, _, rfl, SqL.of (s13 _ _ hdu), fun q nq => ?_⟩⟩
            have s4 := same_upd (o := .tup (((List.range xs.length).map due).map thV)) nq
            have esure : sureL bs xs [shutS N] = (List.range xs.length).map due := sure_list hc (by rw [List.length_map, List.length_range]) fun k x e => by
              have hk := (List.getElem?_eq_some_iff.mp e).1
              rw [List.getElem?_map, List.getElem?_range hk, hdue]
              show some (oneOf (goodL bs N xs k (xs.getD k none))) = _
              rw [List.getD_eq_getElem?_getD, e]
              rfl
            rw [esure] at hft
            have okD : dok 2 (.tuple (((List.range xs.length).map due).map thD)) := dok_tuple (dok_th _)
            refine ⟨_, _, .tup (SqT.of' (s4 _ _ (s3' _ _ hft))) (dpAll_th _), .tup (SqT.of' upd_same) (dpAll_th _), dok_shaped okD (by decide), dok_shaped okD (by decide), _, rfl, ?_⟩
            rw [eqv_self okD]
            have s1x := s13.trans s4
            exact iteF ⟨_, _, _, _, _, _, _, _, _, rfl, R1.same s1x, B1.trans (sbut s1x), s1x _ _ hlr, rows1.same s1x⟩
end
end DL

set_option Elab.async false
set_option maxRecDepth 100000
set_option maxHeartbeats 8000000
namespace DL
open PySem L2 HT TL
/-! ### what the top has written -/
theorem all_mk {l : PySem.W.OpenLaw} {w : World} {K : PySem.W.Frag} {h : Heap} {mg : Str → Option Value} {fa : Addr} (X : K.In h) (G : h.Ns mainGlobals mg) (hfa : mg "law" = some (.ref fa))
    {f_is_integer : Addr} {od_is_integer an_is_integer : Option Addr} {sl_is_integer : Array (Option Value)} {oc_is_integer kV_is_integer dc_is_integer pm_is_integer cd_is_integer ct_is_integer : Value}
    {f_is_drawer_count : Addr} {od_is_drawer_count an_is_drawer_count : Option Addr} {sl_is_drawer_count : Array (Option Value)} {oc_is_drawer_count kV_is_drawer_count dc_is_drawer_count pm_is_drawer_count cd_is_drawer_count ct_is_drawer_count : Value}
    {f_is_drawer : Addr} {od_is_drawer an_is_drawer : Option Addr} {sl_is_drawer : Array (Option Value)} {oc_is_drawer kV_is_drawer dc_is_drawer pm_is_drawer cd_is_drawer ct_is_drawer : Value}
    {f_is_bar : Addr} {od_is_bar an_is_bar : Option Addr} {sl_is_bar : Array (Option Value)} {oc_is_bar kV_is_bar dc_is_bar pm_is_bar cd_is_bar ct_is_bar : Value}
    {f_check_drawers : Addr} {od_check_drawers an_check_drawers : Option Addr} {sl_check_drawers : Array (Option Value)} {oc_check_drawers kV_check_drawers dc_check_drawers pm_check_drawers cd_check_drawers ct_check_drawers : Value}
    {f_check_bars : Addr} {od_check_bars an_check_bars : Option Addr} {sl_check_bars : Array (Option Value)} {oc_check_bars kV_check_bars dc_check_bars pm_check_bars cd_check_bars ct_check_bars : Value}
    {f__law_taken : Addr} {od__law_taken an__law_taken : Option Addr} {sl__law_taken : Array (Option Value)} {oc__law_taken kV__law_taken dc__law_taken pm__law_taken cd__law_taken ct__law_taken : Value}
    {f__law_parts : Addr} {od__law_parts an__law_parts : Option Addr} {sl__law_parts : Array (Option Value)} {oc__law_parts kV__law_parts dc__law_parts pm__law_parts cd__law_parts ct__law_parts : Value}
    {f__law_made : Addr} {od__law_made an__law_made : Option Addr} {sl__law_made : Array (Option Value)} {oc__law_made kV__law_made dc__law_made pm__law_made cd__law_made ct__law_made : Value}
    {f_hinders : Addr} {od_hinders an_hinders : Option Addr} {sl_hinders : Array (Option Value)} {oc_hinders kV_hinders dc_hinders pm_hinders cd_hinders ct_hinders : Value}
    {f_moved : Addr} {od_moved an_moved : Option Addr} {sl_moved : Array (Option Value)} {oc_moved kV_moved dc_moved pm_moved cd_moved ct_moved : Value}
    {f_bars_against : Addr} {od_bars_against an_bars_against : Option Addr} {sl_bars_against : Array (Option Value)} {oc_bars_against kV_bars_against dc_bars_against pm_bars_against cd_bars_against ct_bars_against : Value}
    {f_goes : Addr} {od_goes an_goes : Option Addr} {sl_goes : Array (Option Value)} {oc_goes kV_goes dc_goes pm_goes cd_goes ct_goes : Value}
    {f_free_drawers : Addr} {od_free_drawers an_free_drawers : Option Addr} {sl_free_drawers : Array (Option Value)} {oc_free_drawers kV_free_drawers dc_free_drawers pm_free_drawers cd_free_drawers ct_free_drawers : Value}
    {f__law_hold : Addr} {od__law_hold an__law_hold : Option Addr} {sl__law_hold : Array (Option Value)} {oc__law_hold kV__law_hold dc__law_hold pm__law_hold cd__law_hold ct__law_hold : Value}
    {f__law_free : Addr} {od__law_free an__law_free : Option Addr} {sl__law_free : Array (Option Value)} {oc__law_free kV__law_free dc__law_free pm__law_free cd__law_free ct__law_free : Value}
    {f__law_moved : Addr} {od__law_moved an__law_moved : Option Addr} {sl__law_moved : Array (Option Value)} {oc__law_moved kV__law_moved dc__law_moved pm__law_moved cd__law_moved ct__law_moved : Value}
    {f_check_cabinet : Addr} {od_check_cabinet an_check_cabinet : Option Addr} {sl_check_cabinet : Array (Option Value)} {oc_check_cabinet kV_check_cabinet dc_check_cabinet pm_check_cabinet cd_check_cabinet ct_check_cabinet : Value}
    {f_first_standing : Addr} {od_first_standing an_first_standing : Option Addr} {sl_first_standing : Array (Option Value)} {oc_first_standing kV_first_standing dc_first_standing pm_first_standing cd_first_standing ct_first_standing : Value}
    {f_rows_from : Addr} {od_rows_from an_rows_from : Option Addr} {sl_rows_from : Array (Option Value)} {oc_rows_from kV_rows_from dc_rows_from pm_rows_from cd_rows_from ct_rows_from : Value}
    {f_first_rows : Addr} {od_first_rows an_first_rows : Option Addr} {sl_first_rows : Array (Option Value)} {oc_first_rows kV_first_rows dc_first_rows pm_first_rows cd_first_rows ct_first_rows : Value}
    {f_reached_pulls : Addr} {od_reached_pulls an_reached_pulls : Option Addr} {sl_reached_pulls : Array (Option Value)} {oc_reached_pulls kV_reached_pulls dc_reached_pulls pm_reached_pulls cd_reached_pulls ct_reached_pulls : Value}
    {f_counts_behind : Addr} {od_counts_behind an_counts_behind : Option Addr} {sl_counts_behind : Array (Option Value)} {oc_counts_behind kV_counts_behind dc_counts_behind pm_counts_behind cd_counts_behind ct_counts_behind : Value}
    {f_pulls_agreeing : Addr} {od_pulls_agreeing an_pulls_agreeing : Option Addr} {sl_pulls_agreeing : Array (Option Value)} {oc_pulls_agreeing kV_pulls_agreeing dc_pulls_agreeing pm_pulls_agreeing cd_pulls_agreeing ct_pulls_agreeing : Value}
    {f_check_seen : Addr} {od_check_seen an_check_seen : Option Addr} {sl_check_seen : Array (Option Value)} {oc_check_seen kV_check_seen dc_check_seen pm_check_seen cd_check_seen ct_check_seen : Value}
    {f_counts_after : Addr} {od_counts_after an_counts_after : Option Addr} {sl_counts_after : Array (Option Value)} {oc_counts_after kV_counts_after dc_counts_after pm_counts_after cd_counts_after ct_counts_after : Value}
    {f_fits_many : Addr} {od_fits_many an_fits_many : Option Addr} {sl_fits_many : Array (Option Value)} {oc_fits_many kV_fits_many dc_fits_many pm_fits_many cd_fits_many ct_fits_many : Value}
    {f_stands_after : Addr} {od_stands_after an_stands_after : Option Addr} {sl_stands_after : Array (Option Value)} {oc_stands_after kV_stands_after dc_stands_after pm_stands_after cd_stands_after ct_stands_after : Value}
    {f_pulls_onward : Addr} {od_pulls_onward an_pulls_onward : Option Addr} {sl_pulls_onward : Array (Option Value)} {oc_pulls_onward kV_pulls_onward dc_pulls_onward pm_pulls_onward cd_pulls_onward ct_pulls_onward : Value}
    {f_first_fit : Addr} {od_first_fit an_first_fit : Option Addr} {sl_first_fit : Array (Option Value)} {oc_first_fit kV_first_fit dc_first_fit pm_first_fit cd_first_fit ct_first_fit : Value}
    {f_sure_pulls : Addr} {od_sure_pulls an_sure_pulls : Option Addr} {sl_sure_pulls : Array (Option Value)} {oc_sure_pulls kV_sure_pulls dc_sure_pulls pm_sure_pulls cd_sure_pulls ct_sure_pulls : Value}
    {f_law : Addr} {od_law an_law : Option Addr} {sl_law : Array (Option Value)} {oc_law kV_law dc_law pm_law cd_law ct_law : Value}
    {C : Addr}
    {f_Cabinet___init__ : Addr} {od_Cabinet___init__ an_Cabinet___init__ : Option Addr} {sl_Cabinet___init__ : Array (Option Value)} {oc_Cabinet___init__ kV_Cabinet___init__ dc_Cabinet___init__ pm_Cabinet___init__ cd_Cabinet___init__ ct_Cabinet___init__ : Value}
    {p_drawers : Addr} {rest_drawers : List Value}
    {f_Cabinet_drawers : Addr} {od_Cabinet_drawers an_Cabinet_drawers : Option Addr} {sl_Cabinet_drawers : Array (Option Value)} {oc_Cabinet_drawers kV_Cabinet_drawers dc_Cabinet_drawers pm_Cabinet_drawers cd_Cabinet_drawers ct_Cabinet_drawers : Value}
    {p_bars : Addr} {rest_bars : List Value}
    {f_Cabinet_bars : Addr} {od_Cabinet_bars an_Cabinet_bars : Option Addr} {sl_Cabinet_bars : Array (Option Value)} {oc_Cabinet_bars kV_Cabinet_bars dc_Cabinet_bars pm_Cabinet_bars cd_Cabinet_bars ct_Cabinet_bars : Value}
    {tM : Tok}
    {fW : Addr}
    {ddW : Option Addr} {tW1 tW2 : Tok} {nW : Nat} {slW : Array (Option Value)}
    {fS : Addr}
    {esS : Array DictEntry} {nS : Nat}
    {tS1 : Tok}
    {tS2 : Tok}
    {tMS : Tok}
    (a_is_integer : PySem.W.nsIn K mainGlobals "is_integer" = some (some (.ref f_is_integer)))
    (l_is_integer : K.lookup f_is_integer = some ⟨oc_is_integer, od_is_integer, .func (PySem.W.fnOf "is_integer" "is_integer" (defArgs sIsInt) (defBody sIsInt) (defScope sIsInt) .none kV_is_integer dc_is_integer pm_is_integer an_is_integer cd_is_integer ct_is_integer), sl_is_integer⟩)
    (c_is_integer : PySem.W.codeIn K cd_is_integer "is_integer" = true)
    (k_is_integer : PySem.W.keepIn K (.ref f_is_integer) = true)
    (a_is_drawer_count : PySem.W.nsIn K mainGlobals "is_drawer_count" = some (some (.ref f_is_drawer_count)))
    (l_is_drawer_count : K.lookup f_is_drawer_count = some ⟨oc_is_drawer_count, od_is_drawer_count, .func (PySem.W.fnOf "is_drawer_count" "is_drawer_count" (defArgs sIsCount) (defBody sIsCount) (defScope sIsCount) .none kV_is_drawer_count dc_is_drawer_count pm_is_drawer_count an_is_drawer_count cd_is_drawer_count ct_is_drawer_count), sl_is_drawer_count⟩)
    (c_is_drawer_count : PySem.W.codeIn K cd_is_drawer_count "is_drawer_count" = true)
    (k_is_drawer_count : PySem.W.keepIn K (.ref f_is_drawer_count) = true)
    (a_is_drawer : PySem.W.nsIn K mainGlobals "is_drawer" = some (some (.ref f_is_drawer)))
    (l_is_drawer : K.lookup f_is_drawer = some ⟨oc_is_drawer, od_is_drawer, .func (PySem.W.fnOf "is_drawer" "is_drawer" (defArgs sIsDrawer) (defBody sIsDrawer) (defScope sIsDrawer) .none kV_is_drawer dc_is_drawer pm_is_drawer an_is_drawer cd_is_drawer ct_is_drawer), sl_is_drawer⟩)
    (c_is_drawer : PySem.W.codeIn K cd_is_drawer "is_drawer" = true)
    (k_is_drawer : PySem.W.keepIn K (.ref f_is_drawer) = true)
    (a_is_bar : PySem.W.nsIn K mainGlobals "is_bar" = some (some (.ref f_is_bar)))
    (l_is_bar : K.lookup f_is_bar = some ⟨oc_is_bar, od_is_bar, .func (PySem.W.fnOf "is_bar" "is_bar" (defArgs sIsBar) (defBody sIsBar) (defScope sIsBar) .none kV_is_bar dc_is_bar pm_is_bar an_is_bar cd_is_bar ct_is_bar), sl_is_bar⟩)
    (c_is_bar : PySem.W.codeIn K cd_is_bar "is_bar" = true)
    (k_is_bar : PySem.W.keepIn K (.ref f_is_bar) = true)
    (a_check_drawers : PySem.W.nsIn K mainGlobals "check_drawers" = some (some (.ref f_check_drawers)))
    (l_check_drawers : K.lookup f_check_drawers = some ⟨oc_check_drawers, od_check_drawers, .func (PySem.W.fnOf "check_drawers" "check_drawers" (defArgs sCheckDrawers) (defBody sCheckDrawers) (defScope sCheckDrawers) .none kV_check_drawers dc_check_drawers pm_check_drawers an_check_drawers cd_check_drawers ct_check_drawers), sl_check_drawers⟩)
    (c_check_drawers : PySem.W.codeIn K cd_check_drawers "check_drawers" = true)
    (k_check_drawers : PySem.W.keepIn K (.ref f_check_drawers) = true)
    (a_check_bars : PySem.W.nsIn K mainGlobals "check_bars" = some (some (.ref f_check_bars)))
    (l_check_bars : K.lookup f_check_bars = some ⟨oc_check_bars, od_check_bars, .func (PySem.W.fnOf "check_bars" "check_bars" (defArgs sCheckBars) (defBody sCheckBars) (defScope sCheckBars) .none kV_check_bars dc_check_bars pm_check_bars an_check_bars cd_check_bars ct_check_bars), sl_check_bars⟩)
    (c_check_bars : PySem.W.codeIn K cd_check_bars "check_bars" = true)
    (k_check_bars : PySem.W.keepIn K (.ref f_check_bars) = true)
    (a__law_taken : PySem.W.nsIn K mainGlobals "_law_taken" = some (some (.ref f__law_taken)))
    (l__law_taken : K.lookup f__law_taken = some ⟨oc__law_taken, od__law_taken, .func (PySem.W.fnOf "_law_taken" "_law_taken" (defArgs sTaken) (defBody sTaken) (defScope sTaken) .none kV__law_taken dc__law_taken pm__law_taken an__law_taken cd__law_taken ct__law_taken), sl__law_taken⟩)
    (c__law_taken : PySem.W.codeIn K cd__law_taken "_law_taken" = true)
    (k__law_taken : PySem.W.keepIn K (.ref f__law_taken) = true)
    (a__law_parts : PySem.W.nsIn K mainGlobals "_law_parts" = some (some (.ref f__law_parts)))
    (l__law_parts : K.lookup f__law_parts = some ⟨oc__law_parts, od__law_parts, .func (PySem.W.fnOf "_law_parts" "_law_parts" (defArgs sParts) (defBody sParts) (defScope sParts) .none kV__law_parts dc__law_parts pm__law_parts an__law_parts cd__law_parts ct__law_parts), sl__law_parts⟩)
    (c__law_parts : PySem.W.codeIn K cd__law_parts "_law_parts" = true)
    (k__law_parts : PySem.W.keepIn K (.ref f__law_parts) = true)
    (a__law_made : PySem.W.nsIn K mainGlobals "_law_made" = some (some (.ref f__law_made)))
    (l__law_made : K.lookup f__law_made = some ⟨oc__law_made, od__law_made, .func (PySem.W.fnOf "_law_made" "_law_made" (defArgs sMade) (defBody sMade) (defScope sMade) .none kV__law_made dc__law_made pm__law_made an__law_made cd__law_made ct__law_made), sl__law_made⟩)
    (c__law_made : PySem.W.codeIn K cd__law_made "_law_made" = true)
    (k__law_made : PySem.W.keepIn K (.ref f__law_made) = true)
    (a_hinders : PySem.W.nsIn K mainGlobals "hinders" = some (some (.ref f_hinders)))
    (l_hinders : K.lookup f_hinders = some ⟨oc_hinders, od_hinders, .func (PySem.W.fnOf "hinders" "hinders" (defArgs s_hinders) (defBody s_hinders) (defScope s_hinders) .none kV_hinders dc_hinders pm_hinders an_hinders cd_hinders ct_hinders), sl_hinders⟩)
    (c_hinders : PySem.W.codeIn K cd_hinders "hinders" = true)
    (k_hinders : PySem.W.keepIn K (.ref f_hinders) = true)
    (a_moved : PySem.W.nsIn K mainGlobals "moved" = some (some (.ref f_moved)))
    (l_moved : K.lookup f_moved = some ⟨oc_moved, od_moved, .func (PySem.W.fnOf "moved" "moved" (defArgs s_moved) (defBody s_moved) (defScope s_moved) .none kV_moved dc_moved pm_moved an_moved cd_moved ct_moved), sl_moved⟩)
    (c_moved : PySem.W.codeIn K cd_moved "moved" = true)
    (k_moved : PySem.W.keepIn K (.ref f_moved) = true)
    (a_bars_against : PySem.W.nsIn K mainGlobals "bars_against" = some (some (.ref f_bars_against)))
    (l_bars_against : K.lookup f_bars_against = some ⟨oc_bars_against, od_bars_against, .func (PySem.W.fnOf "bars_against" "bars_against" (defArgs s_bars_against) (defBody s_bars_against) (defScope s_bars_against) .none kV_bars_against dc_bars_against pm_bars_against an_bars_against cd_bars_against ct_bars_against), sl_bars_against⟩)
    (c_bars_against : PySem.W.codeIn K cd_bars_against "bars_against" = true)
    (k_bars_against : PySem.W.keepIn K (.ref f_bars_against) = true)
    (a_goes : PySem.W.nsIn K mainGlobals "goes" = some (some (.ref f_goes)))
    (l_goes : K.lookup f_goes = some ⟨oc_goes, od_goes, .func (PySem.W.fnOf "goes" "goes" (defArgs s_goes) (defBody s_goes) (defScope s_goes) .none kV_goes dc_goes pm_goes an_goes cd_goes ct_goes), sl_goes⟩)
    (c_goes : PySem.W.codeIn K cd_goes "goes" = true)
    (k_goes : PySem.W.keepIn K (.ref f_goes) = true)
    (a_free_drawers : PySem.W.nsIn K mainGlobals "free_drawers" = some (some (.ref f_free_drawers)))
    (l_free_drawers : K.lookup f_free_drawers = some ⟨oc_free_drawers, od_free_drawers, .func (PySem.W.fnOf "free_drawers" "free_drawers" (defArgs s_free_drawers) (defBody s_free_drawers) (defScope s_free_drawers) .none kV_free_drawers dc_free_drawers pm_free_drawers an_free_drawers cd_free_drawers ct_free_drawers), sl_free_drawers⟩)
    (c_free_drawers : PySem.W.codeIn K cd_free_drawers "free_drawers" = true)
    (k_free_drawers : PySem.W.keepIn K (.ref f_free_drawers) = true)
    (a__law_hold : PySem.W.nsIn K mainGlobals "_law_hold" = some (some (.ref f__law_hold)))
    (l__law_hold : K.lookup f__law_hold = some ⟨oc__law_hold, od__law_hold, .func (PySem.W.fnOf "_law_hold" "_law_hold" (defArgs s__law_hold) (defBody s__law_hold) (defScope s__law_hold) .none kV__law_hold dc__law_hold pm__law_hold an__law_hold cd__law_hold ct__law_hold), sl__law_hold⟩)
    (c__law_hold : PySem.W.codeIn K cd__law_hold "_law_hold" = true)
    (k__law_hold : PySem.W.keepIn K (.ref f__law_hold) = true)
    (a__law_free : PySem.W.nsIn K mainGlobals "_law_free" = some (some (.ref f__law_free)))
    (l__law_free : K.lookup f__law_free = some ⟨oc__law_free, od__law_free, .func (PySem.W.fnOf "_law_free" "_law_free" (defArgs s__law_free) (defBody s__law_free) (defScope s__law_free) .none kV__law_free dc__law_free pm__law_free an__law_free cd__law_free ct__law_free), sl__law_free⟩)
    (c__law_free : PySem.W.codeIn K cd__law_free "_law_free" = true)
    (k__law_free : PySem.W.keepIn K (.ref f__law_free) = true)
    (a__law_moved : PySem.W.nsIn K mainGlobals "_law_moved" = some (some (.ref f__law_moved)))
    (l__law_moved : K.lookup f__law_moved = some ⟨oc__law_moved, od__law_moved, .func (PySem.W.fnOf "_law_moved" "_law_moved" (defArgs s__law_moved) (defBody s__law_moved) (defScope s__law_moved) .none kV__law_moved dc__law_moved pm__law_moved an__law_moved cd__law_moved ct__law_moved), sl__law_moved⟩)
    (c__law_moved : PySem.W.codeIn K cd__law_moved "_law_moved" = true)
    (k__law_moved : PySem.W.keepIn K (.ref f__law_moved) = true)
    (a_check_cabinet : PySem.W.nsIn K mainGlobals "check_cabinet" = some (some (.ref f_check_cabinet)))
    (l_check_cabinet : K.lookup f_check_cabinet = some ⟨oc_check_cabinet, od_check_cabinet, .func (PySem.W.fnOf "check_cabinet" "check_cabinet" (defArgs s_check_cabinet) (defBody s_check_cabinet) (defScope s_check_cabinet) .none kV_check_cabinet dc_check_cabinet pm_check_cabinet an_check_cabinet cd_check_cabinet ct_check_cabinet), sl_check_cabinet⟩)
    (c_check_cabinet : PySem.W.codeIn K cd_check_cabinet "check_cabinet" = true)
    (k_check_cabinet : PySem.W.keepIn K (.ref f_check_cabinet) = true)
    (a_first_standing : PySem.W.nsIn K mainGlobals "first_standing" = some (some (.ref f_first_standing)))
    (l_first_standing : K.lookup f_first_standing = some ⟨oc_first_standing, od_first_standing, .func (PySem.W.fnOf "first_standing" "first_standing" (defArgs s_first_standing) (defBody s_first_standing) (defScope s_first_standing) .none kV_first_standing dc_first_standing pm_first_standing an_first_standing cd_first_standing ct_first_standing), sl_first_standing⟩)
    (c_first_standing : PySem.W.codeIn K cd_first_standing "first_standing" = true)
    (k_first_standing : PySem.W.keepIn K (.ref f_first_standing) = true)
    (a_rows_from : PySem.W.nsIn K mainGlobals "rows_from" = some (some (.ref f_rows_from)))
    (l_rows_from : K.lookup f_rows_from = some ⟨oc_rows_from, od_rows_from, .func (PySem.W.fnOf "rows_from" "rows_from" (defArgs s_rows_from) (defBody s_rows_from) (defScope s_rows_from) .none kV_rows_from dc_rows_from pm_rows_from an_rows_from cd_rows_from ct_rows_from), sl_rows_from⟩)
    (c_rows_from : PySem.W.codeIn K cd_rows_from "rows_from" = true)
    (k_rows_from : PySem.W.keepIn K (.ref f_rows_from) = true)
    (a_first_rows : PySem.W.nsIn K mainGlobals "first_rows" = some (some (.ref f_first_rows)))
    (l_first_rows : K.lookup f_first_rows = some ⟨oc_first_rows, od_first_rows, .func (PySem.W.fnOf "first_rows" "first_rows" (defArgs s_first_rows) (defBody s_first_rows) (defScope s_first_rows) .none kV_first_rows dc_first_rows pm_first_rows an_first_rows cd_first_rows ct_first_rows), sl_first_rows⟩)
    (c_first_rows : PySem.W.codeIn K cd_first_rows "first_rows" = true)
    (k_first_rows : PySem.W.keepIn K (.ref f_first_rows) = true)
    (a_reached_pulls : PySem.W.nsIn K mainGlobals "reached_pulls" = some (some (.ref f_reached_pulls)))
    (l_reached_pulls : K.lookup f_reached_pulls = some ⟨oc_reached_pulls, od_reached_pulls, .func (PySem.W.fnOf "reached_pulls" "reached_pulls" (defArgs s_reached_pulls) (defBody s_reached_pulls) (defScope s_reached_pulls) .none kV_reached_pulls dc_reached_pulls pm_reached_pulls an_reached_pulls cd_reached_pulls ct_reached_pulls), sl_reached_pulls⟩)
    (c_reached_pulls : PySem.W.codeIn K cd_reached_pulls "reached_pulls" = true)
    (k_reached_pulls : PySem.W.keepIn K (.ref f_reached_pulls) = true)
    (a_counts_behind : PySem.W.nsIn K mainGlobals "counts_behind" = some (some (.ref f_counts_behind)))
    (l_counts_behind : K.lookup f_counts_behind = some ⟨oc_counts_behind, od_counts_behind, .func (PySem.W.fnOf "counts_behind" "counts_behind" (defArgs s_counts_behind) (defBody s_counts_behind) (defScope s_counts_behind) .none kV_counts_behind dc_counts_behind pm_counts_behind an_counts_behind cd_counts_behind ct_counts_behind), sl_counts_behind⟩)
    (c_counts_behind : PySem.W.codeIn K cd_counts_behind "counts_behind" = true)
    (k_counts_behind : PySem.W.keepIn K (.ref f_counts_behind) = true)
    (a_pulls_agreeing : PySem.W.nsIn K mainGlobals "pulls_agreeing" = some (some (.ref f_pulls_agreeing)))
    (l_pulls_agreeing : K.lookup f_pulls_agreeing = some ⟨oc_pulls_agreeing, od_pulls_agreeing, .func (PySem.W.fnOf "pulls_agreeing" "pulls_agreeing" (defArgs s_pulls_agreeing) (defBody s_pulls_agreeing) (defScope s_pulls_agreeing) .none kV_pulls_agreeing dc_pulls_agreeing pm_pulls_agreeing an_pulls_agreeing cd_pulls_agreeing ct_pulls_agreeing), sl_pulls_agreeing⟩)
    (c_pulls_agreeing : PySem.W.codeIn K cd_pulls_agreeing "pulls_agreeing" = true)
    (k_pulls_agreeing : PySem.W.keepIn K (.ref f_pulls_agreeing) = true)
    (a_check_seen : PySem.W.nsIn K mainGlobals "check_seen" = some (some (.ref f_check_seen)))
    (l_check_seen : K.lookup f_check_seen = some ⟨oc_check_seen, od_check_seen, .func (PySem.W.fnOf "check_seen" "check_seen" (defArgs s_check_seen) (defBody s_check_seen) (defScope s_check_seen) .none kV_check_seen dc_check_seen pm_check_seen an_check_seen cd_check_seen ct_check_seen), sl_check_seen⟩)
    (c_check_seen : PySem.W.codeIn K cd_check_seen "check_seen" = true)
    (k_check_seen : PySem.W.keepIn K (.ref f_check_seen) = true)
    (a_counts_after : PySem.W.nsIn K mainGlobals "counts_after" = some (some (.ref f_counts_after)))
    (l_counts_after : K.lookup f_counts_after = some ⟨oc_counts_after, od_counts_after, .func (PySem.W.fnOf "counts_after" "counts_after" (defArgs s_counts_after) (defBody s_counts_after) (defScope s_counts_after) .none kV_counts_after dc_counts_after pm_counts_after an_counts_after cd_counts_after ct_counts_after), sl_counts_after⟩)
    (c_counts_after : PySem.W.codeIn K cd_counts_after "counts_after" = true)
    (k_counts_after : PySem.W.keepIn K (.ref f_counts_after) = true)
    (a_fits_many : PySem.W.nsIn K mainGlobals "fits_many" = some (some (.ref f_fits_many)))
    (l_fits_many : K.lookup f_fits_many = some ⟨oc_fits_many, od_fits_many, .func (PySem.W.fnOf "fits_many" "fits_many" (defArgs s_fits_many) (defBody s_fits_many) (defScope s_fits_many) .none kV_fits_many dc_fits_many pm_fits_many an_fits_many cd_fits_many ct_fits_many), sl_fits_many⟩)
    (c_fits_many : PySem.W.codeIn K cd_fits_many "fits_many" = true)
    (k_fits_many : PySem.W.keepIn K (.ref f_fits_many) = true)
    (a_stands_after : PySem.W.nsIn K mainGlobals "stands_after" = some (some (.ref f_stands_after)))
    (l_stands_after : K.lookup f_stands_after = some ⟨oc_stands_after, od_stands_after, .func (PySem.W.fnOf "stands_after" "stands_after" (defArgs s_stands_after) (defBody s_stands_after) (defScope s_stands_after) .none kV_stands_after dc_stands_after pm_stands_after an_stands_after cd_stands_after ct_stands_after), sl_stands_after⟩)
    (c_stands_after : PySem.W.codeIn K cd_stands_after "stands_after" = true)
    (k_stands_after : PySem.W.keepIn K (.ref f_stands_after) = true)
    (a_pulls_onward : PySem.W.nsIn K mainGlobals "pulls_onward" = some (some (.ref f_pulls_onward)))
    (l_pulls_onward : K.lookup f_pulls_onward = some ⟨oc_pulls_onward, od_pulls_onward, .func (PySem.W.fnOf "pulls_onward" "pulls_onward" (defArgs s_pulls_onward) (defBody s_pulls_onward) (defScope s_pulls_onward) .none kV_pulls_onward dc_pulls_onward pm_pulls_onward an_pulls_onward cd_pulls_onward ct_pulls_onward), sl_pulls_onward⟩)
    (c_pulls_onward : PySem.W.codeIn K cd_pulls_onward "pulls_onward" = true)
    (k_pulls_onward : PySem.W.keepIn K (.ref f_pulls_onward) = true)
    (a_first_fit : PySem.W.nsIn K mainGlobals "first_fit" = some (some (.ref f_first_fit)))
    (l_first_fit : K.lookup f_first_fit = some ⟨oc_first_fit, od_first_fit, .func (PySem.W.fnOf "first_fit" "first_fit" (defArgs s_first_fit) (defBody s_first_fit) (defScope s_first_fit) .none kV_first_fit dc_first_fit pm_first_fit an_first_fit cd_first_fit ct_first_fit), sl_first_fit⟩)
    (c_first_fit : PySem.W.codeIn K cd_first_fit "first_fit" = true)
    (k_first_fit : PySem.W.keepIn K (.ref f_first_fit) = true)
    (a_sure_pulls : PySem.W.nsIn K mainGlobals "sure_pulls" = some (some (.ref f_sure_pulls)))
    (l_sure_pulls : K.lookup f_sure_pulls = some ⟨oc_sure_pulls, od_sure_pulls, .func (PySem.W.fnOf "sure_pulls" "sure_pulls" (defArgs s_sure_pulls) (defBody s_sure_pulls) (defScope s_sure_pulls) .none kV_sure_pulls dc_sure_pulls pm_sure_pulls an_sure_pulls cd_sure_pulls ct_sure_pulls), sl_sure_pulls⟩)
    (c_sure_pulls : PySem.W.codeIn K cd_sure_pulls "sure_pulls" = true)
    (k_sure_pulls : PySem.W.keepIn K (.ref f_sure_pulls) = true)
    (a_law : PySem.W.nsIn K mainGlobals "law" = some (some (.ref f_law)))
    (l_law : K.lookup f_law = some ⟨oc_law, od_law, .func (PySem.W.fnOf "law" "law" (defArgs s_law) (defBody s_law) (defScope s_law) .none kV_law dc_law pm_law an_law cd_law ct_law), sl_law⟩)
    (c_law : PySem.W.codeIn K cd_law "law" = true)
    (k_law : PySem.W.keepIn K (.ref f_law) = true)
    (aC : PySem.W.nsIn K mainGlobals "Cabinet" = some (some (.ref C)))
    (pg : PySem.W.plainGet K C Str.empty = true)
    (hd : PySem.W.hasDictIn K C = true)
    (po : PySem.W.plainOver K C = true)
    (sa : PySem.W.findIn K (.ref C) "__setattr__" = some (some (.builtin "object.__setattr__")))
    (mk : PySem.W.makesIn K C = true)
    (kc : PySem.W.keepIn K (.ref C) = true)
    (nD : PySem.W.findIn K (.ref C) "_drawers" = some none)
    (nB : PySem.W.findIn K (.ref C) "_bars" = some none)
    (a_Cabinet___init__ : PySem.W.findIn K (.ref C) "__init__" = some (some (.ref f_Cabinet___init__)))
    (l_Cabinet___init__ : K.lookup f_Cabinet___init__ = some ⟨oc_Cabinet___init__, od_Cabinet___init__, .func (PySem.W.fnOf "__init__" "Cabinet.__init__" (defArgs sInit) (defBody sInit) (defScope sInit) .none kV_Cabinet___init__ dc_Cabinet___init__ pm_Cabinet___init__ an_Cabinet___init__ cd_Cabinet___init__ ct_Cabinet___init__), sl_Cabinet___init__⟩)
    (c_Cabinet___init__ : PySem.W.codeIn K cd_Cabinet___init__ "Cabinet.__init__" = true)
    (k_Cabinet___init__ : PySem.W.keepIn K (.ref f_Cabinet___init__) = true)
    (i_init : PySem.W.isFn K (.ref f_Cabinet___init__) = true)
    (pa_drawers : PySem.W.findIn K (.ref C) "drawers" = some (some (.ref p_drawers)))
    (pg_drawers : PySem.W.specialIn K (.ref p_drawers) "__get__" = some (some (.builtin "property.__get__")))
    (pt_drawers : PySem.W.takesIn K (.ref p_drawers) = some true)
    (pr_drawers : PySem.W.recIn K p_drawers "property" = some (.ref f_Cabinet_drawers :: rest_drawers))
    (l_Cabinet_drawers : K.lookup f_Cabinet_drawers = some ⟨oc_Cabinet_drawers, od_Cabinet_drawers, .func (PySem.W.fnOf "drawers" "Cabinet.drawers" (defArgs sDrawers) (defBody sDrawers) (defScope sDrawers) .none kV_Cabinet_drawers dc_Cabinet_drawers pm_Cabinet_drawers an_Cabinet_drawers cd_Cabinet_drawers ct_Cabinet_drawers), sl_Cabinet_drawers⟩)
    (c_Cabinet_drawers : PySem.W.codeIn K cd_Cabinet_drawers "Cabinet.drawers" = true)
    (k_Cabinet_drawers : PySem.W.keepIn K (.ref f_Cabinet_drawers) = true)
    (pa_bars : PySem.W.findIn K (.ref C) "bars" = some (some (.ref p_bars)))
    (pg_bars : PySem.W.specialIn K (.ref p_bars) "__get__" = some (some (.builtin "property.__get__")))
    (pt_bars : PySem.W.takesIn K (.ref p_bars) = some true)
    (pr_bars : PySem.W.recIn K p_bars "property" = some (.ref f_Cabinet_bars :: rest_bars))
    (l_Cabinet_bars : K.lookup f_Cabinet_bars = some ⟨oc_Cabinet_bars, od_Cabinet_bars, .func (PySem.W.fnOf "bars" "Cabinet.bars" (defArgs sBars) (defBody sBars) (defScope sBars) .none kV_Cabinet_bars dc_Cabinet_bars pm_Cabinet_bars an_Cabinet_bars cd_Cabinet_bars ct_Cabinet_bars), sl_Cabinet_bars⟩)
    (c_Cabinet_bars : PySem.W.codeIn K cd_Cabinet_bars "Cabinet.bars" = true)
    (k_Cabinet_bars : PySem.W.keepIn K (.ref f_Cabinet_bars) = true)
    (ci1 : PySem.W.findIn K (.ref C) "__class__" = some (some (.builtin "object.__class__")))
    (ci2 : PySem.W.specialIn K (.builtin "object.__class__") "__get__" = some (some (.builtin "getset_descriptor.__get__")))
    (ci3 : PySem.W.takesIn K (.builtin "object.__class__") = some true)
    (ci4 : PySem.W.mroIn K C (.type "object") = some true)
    (ci5 : PySem.W.kitOne K (.ref C) (.ref C) = some true)
    (z_isinstance : PySem.W.nsIn K mainGlobals "isinstance" = some none)
    (z_int : PySem.W.nsIn K mainGlobals "int" = some none)
    (z_bool : PySem.W.nsIn K mainGlobals "bool" = some none)
    (z_tuple : PySem.W.nsIn K mainGlobals "tuple" = some none)
    (z_len : PySem.W.nsIn K mainGlobals "len" = some none)
    (z_enumerate : PySem.W.nsIn K mainGlobals "enumerate" = some none)
    (z_range : PySem.W.nsIn K mainGlobals "range" = some none)
    (z_sorted : PySem.W.nsIn K mainGlobals "sorted" = some none)
    (z_any : PySem.W.nsIn K mainGlobals "any" = some none)
    (z_list : PySem.W.nsIn K mainGlobals "list" = some none)
    (z_sum : PySem.W.nsIn K mainGlobals "sum" = some none)
    (z_reversed : PySem.W.nsIn K mainGlobals "reversed" = some none)
    (z_all : PySem.W.nsIn K mainGlobals "all" = some none)
    (z_set : PySem.W.nsIn K mainGlobals "set" = some none)
    (aM : PySem.W.nsIn K mainGlobals "MOST_DRAWERS" = some (some (.int 7 tM)))
    (aW : PySem.W.nsIn K mainGlobals "WORDS" = some (some (.ref fW)))
    (lW : K.lookup fW = some ⟨.type "tuple", ddW, .seq #[.str "open" tW1, .str "shut" tW2] nW, slW⟩)
    (aS : PySem.W.nsIn K mainGlobals "SIGNS" = some (some (.ref fS)))
    (lS : K.lookup fS = some ⟨.type "dict", none, .dict esS nS, #[]⟩)
    (kS : PySem.W.KeysLit w.params esS.toList)
    (oS : PySem.W.nsIn K fS "open" = some (some (.str "o" tS1)))
    (sS : PySem.W.nsIn K fS "shut" = some (some (.str "s" tS2)))
    (aMS : PySem.W.nsIn K mainGlobals "MOST_SEEN" = some (some (.int 60 tMS)))
    : ∃ fd : FuncData, (∀ (s : Shared) (v : Value), BindsTo s fd ⟨[v], []⟩ [("_law_script", v)]) ∧ ∀ base : Heap, K.In base → base.Ns mainGlobals mg → FnOk l.prog w K mg base CX0 20 fa fd ["_law_script"] (spLaw34 K) := by
  have e := hfa.symm.trans (PySem.W.mg_of X G a_law)
  cases e
  have F_is_integer := fun_mk (st := sIsInt) l_is_integer c_is_integer k_is_integer
  have b_is_integer := F_is_integer.binds (ps := ["value"]) fun _ _ _ _ _ _ us hl => match us, hl with | [_], _ => rfl
  have g_is_integer := PySem.W.mg_of X G a_is_integer
  have F_is_drawer_count := fun_mk (st := sIsCount) l_is_drawer_count c_is_drawer_count k_is_drawer_count
  have b_is_drawer_count := F_is_drawer_count.binds (ps := ["value"]) fun _ _ _ _ _ _ us hl => match us, hl with | [_], _ => rfl
  have g_is_drawer_count := PySem.W.mg_of X G a_is_drawer_count
  have F_is_drawer := fun_mk (st := sIsDrawer) l_is_drawer c_is_drawer k_is_drawer
  have b_is_drawer := F_is_drawer.binds (ps := ["drawers", "value"]) fun _ _ _ _ _ _ us hl => match us, hl with | [_, _], _ => rfl
  have g_is_drawer := PySem.W.mg_of X G a_is_drawer
  have F_is_bar := fun_mk (st := sIsBar) l_is_bar c_is_bar k_is_bar
  have b_is_bar := F_is_bar.binds (ps := ["drawers", "value"]) fun _ _ _ _ _ _ us hl => match us, hl with | [_, _], _ => rfl
  have g_is_bar := PySem.W.mg_of X G a_is_bar
  have F_check_drawers := fun_mk (st := sCheckDrawers) l_check_drawers c_check_drawers k_check_drawers
  have b_check_drawers := F_check_drawers.binds (ps := ["drawers"]) fun _ _ _ _ _ _ us hl => match us, hl with | [_], _ => rfl
  have g_check_drawers := PySem.W.mg_of X G a_check_drawers
  have F_check_bars := fun_mk (st := sCheckBars) l_check_bars c_check_bars k_check_bars
  have b_check_bars := F_check_bars.binds (ps := ["drawers", "bars"]) fun _ _ _ _ _ _ us hl => match us, hl with | [_, _], _ => rfl
  have g_check_bars := PySem.W.mg_of X G a_check_bars
  have F__law_taken := fun_mk (st := sTaken) l__law_taken c__law_taken k__law_taken
  have b__law_taken := F__law_taken.binds (ps := ["_law_row", "_law_many"]) fun _ _ _ _ _ _ us hl => match us, hl with | [_, _], _ => rfl
  have g__law_taken := PySem.W.mg_of X G a__law_taken
  have F__law_parts := fun_mk (st := sParts) l__law_parts c__law_parts k__law_parts
  have b__law_parts := F__law_parts.binds (ps := ["_law_row", "_law_most"]) fun _ _ _ _ _ _ us hl => match us, hl with | [_, _], _ => rfl
  have g__law_parts := PySem.W.mg_of X G a__law_parts
  have F__law_made := fun_mk (st := sMade) l__law_made c__law_made k__law_made
  have b__law_made := F__law_made.binds (ps := ["_law_d"]) fun _ _ _ _ _ _ us hl => match us, hl with | [_], _ => rfl
  have g__law_made := PySem.W.mg_of X G a__law_made
  have F_hinders := fun_mk (st := s_hinders) l_hinders c_hinders k_hinders
  have b_hinders := F_hinders.binds (ps := ["bar", "standing", "drawer"]) fun _ _ _ _ _ _ us hl => match us, hl with | [_, _, _], _ => rfl
  have g_hinders := PySem.W.mg_of X G a_hinders
  have F_moved := fun_mk (st := s_moved) l_moved c_moved k_moved
  have b_moved := F_moved.binds (ps := ["standing", "drawer"]) fun _ _ _ _ _ _ us hl => match us, hl with | [_, _], _ => rfl
  have g_moved := PySem.W.mg_of X G a_moved
  have F_bars_against := fun_mk (st := s_bars_against) l_bars_against c_bars_against k_bars_against
  have b_bars_against := F_bars_against.binds (ps := ["cabinet", "standing", "drawer"]) fun _ _ _ _ _ _ us hl => match us, hl with | [_, _, _], _ => rfl
  have g_bars_against := PySem.W.mg_of X G a_bars_against
  have F_goes := fun_mk (st := s_goes) l_goes c_goes k_goes
  have b_goes := F_goes.binds (ps := ["cabinet", "standing", "drawer"]) fun _ _ _ _ _ _ us hl => match us, hl with | [_, _, _], _ => rfl
  have g_goes := PySem.W.mg_of X G a_goes
  have F_free_drawers := fun_mk (st := s_free_drawers) l_free_drawers c_free_drawers k_free_drawers
  have b_free_drawers := F_free_drawers.binds (ps := ["cabinet", "standing"]) fun _ _ _ _ _ _ us hl => match us, hl with | [_, _], _ => rfl
  have g_free_drawers := PySem.W.mg_of X G a_free_drawers
  have F__law_hold := fun_mk (st := s__law_hold) l__law_hold c__law_hold k__law_hold
  have b__law_hold := F__law_hold.binds (ps := ["_law_bar", "_law_standing", "_law_drawer"]) fun _ _ _ _ _ _ us hl => match us, hl with | [_, _, _], _ => rfl
  have g__law_hold := PySem.W.mg_of X G a__law_hold
  have F__law_free := fun_mk (st := s__law_free) l__law_free c__law_free k__law_free
  have b__law_free := F__law_free.binds (ps := ["_law_d", "_law_standing"]) fun _ _ _ _ _ _ us hl => match us, hl with | [_, _], _ => rfl
  have g__law_free := PySem.W.mg_of X G a__law_free
  have F__law_moved := fun_mk (st := s__law_moved) l__law_moved c__law_moved k__law_moved
  have b__law_moved := F__law_moved.binds (ps := ["_law_standing", "_law_drawer"]) fun _ _ _ _ _ _ us hl => match us, hl with | [_, _], _ => rfl
  have g__law_moved := PySem.W.mg_of X G a__law_moved
  have F_check_cabinet := fun_mk (st := s_check_cabinet) l_check_cabinet c_check_cabinet k_check_cabinet
  have b_check_cabinet := F_check_cabinet.binds (ps := ["cabinet"]) fun _ _ _ _ _ _ us hl => match us, hl with | [_], _ => rfl
  have g_check_cabinet := PySem.W.mg_of X G a_check_cabinet
  have F_first_standing := fun_mk (st := s_first_standing) l_first_standing c_first_standing k_first_standing
  have b_first_standing := F_first_standing.binds (ps := ["drawers"]) fun _ _ _ _ _ _ us hl => match us, hl with | [_], _ => rfl
  have g_first_standing := PySem.W.mg_of X G a_first_standing
  have F_rows_from := fun_mk (st := s_rows_from) l_rows_from c_rows_from k_rows_from
  have b_rows_from := F_rows_from.binds (ps := ["cabinet", "standing"]) fun _ _ _ _ _ _ us hl => match us, hl with | [_, _], _ => rfl
  have g_rows_from := PySem.W.mg_of X G a_rows_from
  have F_first_rows := fun_mk (st := s_first_rows) l_first_rows c_first_rows k_first_rows
  have b_first_rows := F_first_rows.binds (ps := ["cabinet"]) fun _ _ _ _ _ _ us hl => match us, hl with | [_], _ => rfl
  have g_first_rows := PySem.W.mg_of X G a_first_rows
  have F_reached_pulls := fun_mk (st := s_reached_pulls) l_reached_pulls c_reached_pulls k_reached_pulls
  have b_reached_pulls := F_reached_pulls.binds (ps := ["cabinet"]) fun _ _ _ _ _ _ us hl => match us, hl with | [_], _ => rfl
  have g_reached_pulls := PySem.W.mg_of X G a_reached_pulls
  have F_counts_behind := fun_mk (st := s_counts_behind) l_counts_behind c_counts_behind k_counts_behind
  have b_counts_behind := F_counts_behind.binds (ps := ["pulls", "counts"]) fun _ _ _ _ _ _ us hl => match us, hl with | [_, _], _ => rfl
  have g_counts_behind := PySem.W.mg_of X G a_counts_behind
  have F_pulls_agreeing := fun_mk (st := s_pulls_agreeing) l_pulls_agreeing c_pulls_agreeing k_pulls_agreeing
  have b_pulls_agreeing := F_pulls_agreeing.binds (ps := ["pulls", "thing"]) fun _ _ _ _ _ _ us hl => match us, hl with | [_, _], _ => rfl
  have g_pulls_agreeing := PySem.W.mg_of X G a_pulls_agreeing
  have F_check_seen := fun_mk (st := s_check_seen) l_check_seen c_check_seen k_check_seen
  have b_check_seen := F_check_seen.binds (ps := ["cabinet", "seen"]) fun _ _ _ _ _ _ us hl => match us, hl with | [_, _], _ => rfl
  have g_check_seen := PySem.W.mg_of X G a_check_seen
  have F_counts_after := fun_mk (st := s_counts_after) l_counts_after c_counts_after k_counts_after
  have b_counts_after := F_counts_after.binds (ps := ["cabinet", "seen"]) fun _ _ _ _ _ _ us hl => match us, hl with | [_, _], _ => rfl
  have g_counts_after := PySem.W.mg_of X G a_counts_after
  have F_fits_many := fun_mk (st := s_fits_many) l_fits_many c_fits_many k_fits_many
  have b_fits_many := F_fits_many.binds (ps := ["cabinet", "seen"]) fun _ _ _ _ _ _ us hl => match us, hl with | [_, _], _ => rfl
  have g_fits_many := PySem.W.mg_of X G a_fits_many
  have F_stands_after := fun_mk (st := s_stands_after) l_stands_after c_stands_after k_stands_after
  have b_stands_after := F_stands_after.binds (ps := ["cabinet", "seen"]) fun _ _ _ _ _ _ us hl => match us, hl with | [_, _], _ => rfl
  have g_stands_after := PySem.W.mg_of X G a_stands_after
  have F_pulls_onward := fun_mk (st := s_pulls_onward) l_pulls_onward c_pulls_onward k_pulls_onward
  have b_pulls_onward := F_pulls_onward.binds (ps := ["cabinet", "seen"]) fun _ _ _ _ _ _ us hl => match us, hl with | [_, _], _ => rfl
  have g_pulls_onward := PySem.W.mg_of X G a_pulls_onward
  have F_first_fit := fun_mk (st := s_first_fit) l_first_fit c_first_fit k_first_fit
  have b_first_fit := F_first_fit.binds (ps := ["cabinet", "seen"]) fun _ _ _ _ _ _ us hl => match us, hl with | [_, _], _ => rfl
  have g_first_fit := PySem.W.mg_of X G a_first_fit
  have F_sure_pulls := fun_mk (st := s_sure_pulls) l_sure_pulls c_sure_pulls k_sure_pulls
  have b_sure_pulls := F_sure_pulls.binds (ps := ["cabinet", "seen"]) fun _ _ _ _ _ _ us hl => match us, hl with | [_, _], _ => rfl
  have g_sure_pulls := PySem.W.mg_of X G a_sure_pulls
  have F_law := fun_mk (st := s_law) l_law c_law k_law
  have b_law := F_law.binds (ps := ["_law_script"]) fun _ _ _ _ _ _ us hl => match us, hl with | [_], _ => rfl
  have g_law := PySem.W.mg_of X G a_law
  have F_Cabinet___init__ := fun_mk (st := sInit) l_Cabinet___init__ c_Cabinet___init__ k_Cabinet___init__
  have b_Cabinet___init__ := F_Cabinet___init__.binds (ps := ["self", "drawers", "bars"]) fun _ _ _ _ _ _ us hl => match us, hl with | [_, _, _], _ => rfl
  have F_Cabinet_drawers := fun_mk (st := sDrawers) l_Cabinet_drawers c_Cabinet_drawers k_Cabinet_drawers
  have b_Cabinet_drawers := F_Cabinet_drawers.binds (ps := ["self"]) fun _ _ _ _ _ _ us hl => match us, hl with | [_], _ => rfl
  have F_Cabinet_bars := fun_mk (st := sBars) l_Cabinet_bars c_Cabinet_bars k_Cabinet_bars
  have b_Cabinet_bars := F_Cabinet_bars.binds (ps := ["self"]) fun _ _ _ _ _ _ us hl => match us, hl with | [_], _ => rfl
  have TC : CabT K mg C := ⟨⟨pg, hd, po, sa⟩, nD, nB, PySem.W.mg_of X G aC⟩
  have MC : Mk K C f_Cabinet___init__ := ⟨mk, a_Cabinet___init__, i_init, kc⟩
  have IC : CabI K mg C := ⟨⟨pg, hd, po, sa⟩, PySem.W.mg_of X G aC, ci1, ci2, ci3, ci4, ci5⟩
  have TB : Bt mg := ⟨PySem.W.mg_none_of X G z_isinstance, PySem.W.mg_none_of X G z_int, PySem.W.mg_none_of X G z_bool, PySem.W.mg_none_of X G z_tuple, PySem.W.mg_none_of X G z_len, PySem.W.mg_none_of X G z_enumerate, PySem.W.mg_none_of X G z_range, PySem.W.mg_none_of X G z_sorted⟩
  have n_isinstance := PySem.W.mg_none_of X G z_isinstance
  have n_int := PySem.W.mg_none_of X G z_int
  have n_bool := PySem.W.mg_none_of X G z_bool
  have n_tuple := PySem.W.mg_none_of X G z_tuple
  have n_len := PySem.W.mg_none_of X G z_len
  have n_enumerate := PySem.W.mg_none_of X G z_enumerate
  have n_range := PySem.W.mg_none_of X G z_range
  have n_sorted := PySem.W.mg_none_of X G z_sorted
  have n_any := PySem.W.mg_none_of X G z_any
  have n_list := PySem.W.mg_none_of X G z_list
  have n_sum := PySem.W.mg_none_of X G z_sum
  have n_reversed := PySem.W.mg_none_of X G z_reversed
  have n_all := PySem.W.mg_none_of X G z_all
  have n_set := PySem.W.mg_none_of X G z_set
  have gM := PySem.W.mg_of X G aM
  have gW := PySem.W.mg_of X G aW
  have hW : ∀ H, SqT K H fW [.str "open", .str "shut"] := fun H => .inr ⟨_, _, _, lW, rfl, rfl, by show 2 ≤ sizeLine; decide, .cons ⟨_, rfl⟩ (.cons ⟨_, rfl⟩ .nil)⟩
  have gS := PySem.W.mg_of X G aS
  have TS : SgT K w mg fS := ⟨gS, ⟨esS, nS, _, lS, kS, oS, _, rfl⟩, ⟨esS, nS, _, lS, kS, sS, _, rfl⟩⟩
  have gMS := PySem.W.mg_of X G aMS
  refine ⟨PySem.W.fnOf "law" "law" (defArgs s_law) (defBody s_law) (defScope s_law) .none kV_law dc_law pm_law an_law cd_law ct_law, fun s v => .of_eq rfl, fun base hKX hGX => ?_⟩
  have OD := ok_getD (P := l.prog) (w := w) (base := base) F_Cabinet_drawers TC
  have OB := ok_getB (P := l.prog) (w := w) (base := base) F_Cabinet_bars TC
  have CP : CabP l.prog w K mg base C := ⟨TC.cl, ⟨_, _, _, ⟨pa_drawers, pg_drawers, pt_drawers, ⟨_, pr_drawers⟩⟩, OD, b_Cabinet_drawers⟩, ⟨_, _, _, ⟨pa_bars, pg_bars, pt_bars, ⟨_, pr_bars⟩⟩, OB, b_Cabinet_bars⟩⟩
  have O__law_taken := ok_taken (P := l.prog) (w := w) (base := base) F__law_taken TB
  have O__law_parts := ok_parts F__law_parts TB O__law_taken g__law_taken k__law_taken b__law_taken
  have O_is_integer := ok_isInt (P := l.prog) (w := w) (base := base) F_is_integer TB
  have O_is_drawer_count := ok_isCount F_is_drawer_count TB O_is_integer g_is_integer k_is_integer b_is_integer ⟨_, gM⟩
  have O_check_drawers := ok_checkDrawers F_check_drawers O_is_drawer_count g_is_drawer_count k_is_drawer_count b_is_drawer_count
  have O_is_drawer := ok_isDrawer F_is_drawer TB O_is_integer g_is_integer k_is_integer b_is_integer
  have O_is_bar := ok_isBar F_is_bar TB O_is_drawer g_is_drawer k_is_drawer b_is_drawer ⟨fW, gW, hW⟩
  have O_check_bars := ok_checkBars F_check_bars TB O_is_bar g_is_bar k_is_bar b_is_bar
  have O_Cabinet___init__ := ok_init F_Cabinet___init__ TC O_check_drawers g_check_drawers k_check_drawers b_check_drawers O_check_bars g_check_bars k_check_bars b_check_bars
  have O__law_made := ok_made F__law_made TC MC O_Cabinet___init__ b_Cabinet___init__
  have O__law_hold := ok_lawHold (P := l.prog) (w := w) (mg := mg) (base := base) F__law_hold
  have O__law_free := ok_lawFree F__law_free TB O__law_hold g__law_hold k__law_hold b__law_hold n_any
  have O__law_moved := ok_lawMoved (P := l.prog) (w := w) (base := base) F__law_moved TB
  have O_check_cabinet := ok_ckCab (P := l.prog) (w := w) (base := base) F_check_cabinet TB IC
  have O_check_seen := ok_ckSeen0 F_check_seen TB n_list ⟨_, gMS⟩ CP O_is_drawer g_is_drawer k_is_drawer b_is_drawer
  have O_hinders := ok_hinders (P := l.prog) (base := base) F_hinders TS
  have O_bars_against := ok_against F_bars_against CP O_hinders g_hinders k_hinders b_hinders
  have O_goes := ok_goes F_goes O_bars_against g_bars_against k_bars_against b_bars_against
  have O_free_drawers := ok_freeDrawers F_free_drawers TB CP O_goes g_goes k_goes b_goes
  have O_moved := ok_moved (P := l.prog) (base := base) F_moved TS
  have O_rows_from := ok_rowsFrom F_rows_from TB O_free_drawers g_free_drawers k_free_drawers b_free_drawers O_moved g_moved k_moved b_moved
  have O_first_standing := ok_first (P := l.prog) (base := base) F_first_standing TS
  have O_first_rows := ok_firstRows F_first_rows CP O_rows_from g_rows_from k_rows_from b_rows_from O_first_standing g_first_standing k_first_standing b_first_standing
  have O_reached_pulls := ok_reachedPulls F_reached_pulls O_first_rows g_first_rows k_first_rows b_first_rows O_free_drawers g_free_drawers k_free_drawers b_free_drawers O_moved g_moved k_moved b_moved
  have O_counts_behind := ok_countsG (mg := mg) (P := l.prog) (w := w) (base := base) F_counts_behind
  have O_pulls_agreeing := ok_agreeing (mg := mg) (P := l.prog) (w := w) (base := base) F_pulls_agreeing
  have O_counts_after := ok_countsAfter F_counts_after CP O_reached_pulls g_reached_pulls k_reached_pulls b_reached_pulls O_first_standing g_first_standing k_first_standing b_first_standing O_counts_behind g_counts_behind k_counts_behind b_counts_behind O_pulls_agreeing g_pulls_agreeing k_pulls_agreeing b_pulls_agreeing
  have O_fits_many := ok_fitsMany F_fits_many n_sum n_list O_check_cabinet g_check_cabinet k_check_cabinet b_check_cabinet O_check_seen g_check_seen k_check_seen b_check_seen O_counts_after g_counts_after k_counts_after b_counts_after
  have O_stands_after := ok_standsAfter F_stands_after TB O_check_cabinet g_check_cabinet k_check_cabinet b_check_cabinet O_check_seen g_check_seen k_check_seen b_check_seen O_counts_after g_counts_after k_counts_after b_counts_after
  have O_pulls_onward := ok_onward F_pulls_onward n_reversed O_reached_pulls g_reached_pulls k_reached_pulls b_reached_pulls O_pulls_agreeing g_pulls_agreeing k_pulls_agreeing b_pulls_agreeing
  have O_first_fit := ok_firstFit F_first_fit TB CP O_check_cabinet g_check_cabinet k_check_cabinet b_check_cabinet O_check_seen g_check_seen k_check_seen b_check_seen O_first_standing g_first_standing k_first_standing b_first_standing O_pulls_onward g_pulls_onward k_pulls_onward b_pulls_onward
  have O_sure_pulls := ok_surePulls F_sure_pulls TB CP O_check_cabinet g_check_cabinet k_check_cabinet b_check_cabinet O_check_seen g_check_seen k_check_seen b_check_seen O_first_standing g_first_standing k_first_standing b_first_standing O_pulls_onward g_pulls_onward k_pulls_onward b_pulls_onward
  exact ok_law F_law TB n_all n_set O__law_taken g__law_taken k__law_taken b__law_taken O__law_parts g__law_parts k__law_parts b__law_parts O__law_made g__law_made k__law_made b__law_made O__law_free g__law_free k__law_free b__law_free O__law_moved g__law_moved k__law_moved b__law_moved O_fits_many g_fits_many k_fits_many b_fits_many O_stands_after g_stands_after k_stands_after b_stands_after O_first_fit g_first_fit k_first_fit b_first_fit O_sure_pulls g_sure_pulls k_sure_pulls b_sure_pulls
theorem walk {l : PySem.W.OpenLaw} {q : Program} {loose : List Str} {XP : (Str → Option Value) → Heap → Prop} {YP : World → Heap → Prop} {d : DefRec} {K : Params → PySem.W.Frag} (hn : l.most = some 63) (hdf : d.params.defaults = [])
    (hY : ∀ (w : World) (h : Heap), YP w h → (K w.params).In h)
    (F : ∀ (w : World) (mg : Str → Option Value) (fa : Addr) (h : Heap), (K w.params).In h → h.Ns mainGlobals mg → mg d.name = some (.ref fa) →
      ∃ fd : FuncData, (∀ (s : Shared) (u : Value), BindsTo s fd ⟨[u], []⟩ [("_law_script", u)]) ∧ ∀ base : Heap, (K w.params).In base → base.Ns mainGlobals mg → FnOk l.prog w (K w.params) mg base CX0 20 fa fd ["_law_script"] (spLaw34 (K w.params))) :
    PySem.W.WalkO q loose XP YP l.row.toRowW d [] (fun f vs => PySem.call f vs) :=
  L2.walk_of (n := 63) (k := 20) (x := "_law_script") (CX := fun _ => CX0) (sp := fun w => spLaw34 (K w.params)) hn (by decide) hdf ⟨rfl, by decide, by decide⟩ hY F (fun _ _ a ns hl _ hS => ⟨a, ns, rfl, hS, hl, fun _ => rfl⟩) fun _ _ _ _ _ z => z
end DL


set_option Elab.async false
open PySem PySem.W PyProof.Rows in
set_option maxRecDepth 100000 in
set_option maxHeartbeats 0 in
theorem PySem.Challenge.cw_drawerlocks_k34_whole_seen_holds : PySem.Challenge.rw_drawerlocks_k34_whole_seen.Holds := by
  w_on; o_law; k_head; (case hw => w_witness2)
  k_fill
  refine DL.walk (l := PySem.Challenge.rw_drawerlocks_k34_whole_seen) rfl rfl (fun w h Y => PySem.W.kIn_of Y) ?F
  case F =>
    intro w mg fa h KX G hmg
    refine' DL.all_mk KX G hmg ?a_is_integer ?l_is_integer ?c_is_integer ?k_is_integer ?a_is_drawer_count ?l_is_drawer_count ?c_is_drawer_count ?k_is_drawer_count ?a_is_drawer ?l_is_drawer ?c_is_drawer ?k_is_drawer ?a_is_bar ?l_is_bar ?c_is_bar ?k_is_bar ?a_check_drawers ?l_check_drawers ?c_check_drawers ?k_check_drawers ?a_check_bars ?l_check_bars ?c_check_bars ?k_check_bars ?a__law_taken ?l__law_taken ?c__law_taken ?k__law_taken ?a__law_parts ?l__law_parts ?c__law_parts ?k__law_parts ?a__law_made ?l__law_made ?c__law_made ?k__law_made ?a_hinders ?l_hinders ?c_hinders ?k_hinders ?a_moved ?l_moved ?c_moved ?k_moved ?a_bars_against ?l_bars_against ?c_bars_against ?k_bars_against ?a_goes ?l_goes ?c_goes ?k_goes ?a_free_drawers ?l_free_drawers ?c_free_drawers ?k_free_drawers ?a__law_hold ?l__law_hold ?c__law_hold ?k__law_hold ?a__law_free ?l__law_free ?c__law_free ?k__law_free ?a__law_moved ?l__law_moved ?c__law_moved ?k__law_moved ?a_check_cabinet ?l_check_cabinet ?c_check_cabinet ?k_check_cabinet ?a_first_standing ?l_first_standing ?c_first_standing ?k_first_standing ?a_rows_from ?l_rows_from ?c_rows_from ?k_rows_from ?a_first_rows ?l_first_rows ?c_first_rows ?k_first_rows ?a_reached_pulls ?l_reached_pulls ?c_reached_pulls ?k_reached_pulls ?a_counts_behind ?l_counts_behind ?c_counts_behind ?k_counts_behind ?a_pulls_agreeing ?l_pulls_agreeing ?c_pulls_agreeing ?k_pulls_agreeing ?a_check_seen ?l_check_seen ?c_check_seen ?k_check_seen ?a_counts_after ?l_counts_after ?c_counts_after ?k_counts_after ?a_fits_many ?l_fits_many ?c_fits_many ?k_fits_many ?a_stands_after ?l_stands_after ?c_stands_after ?k_stands_after ?a_pulls_onward ?l_pulls_onward ?c_pulls_onward ?k_pulls_onward ?a_first_fit ?l_first_fit ?c_first_fit ?k_first_fit ?a_sure_pulls ?l_sure_pulls ?c_sure_pulls ?k_sure_pulls ?a_law ?l_law ?c_law ?k_law ?aC ?pg ?hd ?po ?sa ?mk ?kc ?nD ?nB ?a_Cabinet___init__ ?l_Cabinet___init__ ?c_Cabinet___init__ ?k_Cabinet___init__ ?i_init ?pa_drawers ?pg_drawers ?pt_drawers ?pr_drawers ?l_Cabinet_drawers ?c_Cabinet_drawers ?k_Cabinet_drawers ?pa_bars ?pg_bars ?pt_bars ?pr_bars ?l_Cabinet_bars ?c_Cabinet_bars ?k_Cabinet_bars ?ci1 ?ci2 ?ci3 ?ci4 ?ci5 ?z_isinstance ?z_int ?z_bool ?z_tuple ?z_len ?z_enumerate ?z_range ?z_sorted ?z_any ?z_list ?z_sum ?z_reversed ?z_all ?z_set ?aM ?aW ?lW ?aS ?lS ?kS ?oS ?sS ?aMS
    (case a_is_integer => k_is)
    (case l_is_integer => k_is)
    (case c_is_integer => k_is)
    (case k_is_integer => k_is)
    (case a_is_drawer_count => k_is)
    (case l_is_drawer_count => k_is)
    (case c_is_drawer_count => k_is)
    (case k_is_drawer_count => k_is)
    (case a_is_drawer => k_is)
    (case l_is_drawer => k_is)
    (case c_is_drawer => k_is)
    (case k_is_drawer => k_is)
    (case a_is_bar => k_is)
    (case l_is_bar => k_is)
    (case c_is_bar => k_is)
    (case k_is_bar => k_is)
    (case a_check_drawers => k_is)
    (case l_check_drawers => k_is)
    (case c_check_drawers => k_is)
    (case k_check_drawers => k_is)
    (case a_check_bars => k_is)
    (case l_check_bars => k_is)
    (case c_check_bars => k_is)
    (case k_check_bars => k_is)
    (case a__law_taken => k_is)
    (case l__law_taken => k_is)
    (case c__law_taken => k_is)
    (case k__law_taken => k_is)
    (case a__law_parts => k_is)
    (case l__law_parts => k_is)
    (case c__law_parts => k_is)
    (case k__law_parts => k_is)
    (case a__law_made => k_is)
    (case l__law_made => k_is)
    (case c__law_made => k_is)
    (case k__law_made => k_is)
    (case a_hinders => k_is)
    (case l_hinders => k_is)
    (case c_hinders => k_is)
    (case k_hinders => k_is)
    (case a_moved => k_is)
    (case l_moved => k_is)
    (case c_moved => k_is)
    (case k_moved => k_is)
    (case a_bars_against => k_is)
    (case l_bars_against => k_is)
    (case c_bars_against => k_is)
    (case k_bars_against => k_is)
    (case a_goes => k_is)
    (case l_goes => k_is)
    (case c_goes => k_is)
    (case k_goes => k_is)
    (case a_free_drawers => k_is)
    (case l_free_drawers => k_is)
    (case c_free_drawers => k_is)
    (case k_free_drawers => k_is)
    (case a__law_hold => k_is)
    (case l__law_hold => k_is)
    (case c__law_hold => k_is)
    (case k__law_hold => k_is)
    (case a__law_free => k_is)
    (case l__law_free => k_is)
    (case c__law_free => k_is)
    (case k__law_free => k_is)
    (case a__law_moved => k_is)
    (case l__law_moved => k_is)
    (case c__law_moved => k_is)
    (case k__law_moved => k_is)
    (case a_check_cabinet => k_is)
    (case l_check_cabinet => k_is)
    (case c_check_cabinet => k_is)
    (case k_check_cabinet => k_is)
    (case a_first_standing => k_is)
    (case l_first_standing => k_is)
    (case c_first_standing => k_is)
    (case k_first_standing => k_is)
    (case a_rows_from => k_is)
    (case l_rows_from => k_is)
    (case c_rows_from => k_is)
    (case k_rows_from => k_is)
    (case a_first_rows => k_is)
    (case l_first_rows => k_is)
    (case c_first_rows => k_is)
    (case k_first_rows => k_is)
    (case a_reached_pulls => k_is)
    (case l_reached_pulls => k_is)
    (case c_reached_pulls => k_is)
    (case k_reached_pulls => k_is)
    (case a_counts_behind => k_is)
    (case l_counts_behind => k_is)
    (case c_counts_behind => k_is)
    (case k_counts_behind => k_is)
    (case a_pulls_agreeing => k_is)
    (case l_pulls_agreeing => k_is)
    (case c_pulls_agreeing => k_is)
    (case k_pulls_agreeing => k_is)
    (case a_check_seen => k_is)
    (case l_check_seen => k_is)
    (case c_check_seen => k_is)
    (case k_check_seen => k_is)
    (case a_counts_after => k_is)
    (case l_counts_after => k_is)
    (case c_counts_after => k_is)
    (case k_counts_after => k_is)
    (case a_fits_many => k_is)
    (case l_fits_many => k_is)
    (case c_fits_many => k_is)
    (case k_fits_many => k_is)
    (case a_stands_after => k_is)
    (case l_stands_after => k_is)
    (case c_stands_after => k_is)
    (case k_stands_after => k_is)
    (case a_pulls_onward => k_is)
    (case l_pulls_onward => k_is)
    (case c_pulls_onward => k_is)
    (case k_pulls_onward => k_is)
    (case a_first_fit => k_is)
    (case l_first_fit => k_is)
    (case c_first_fit => k_is)
    (case k_first_fit => k_is)
    (case a_sure_pulls => k_is)
    (case l_sure_pulls => k_is)
    (case c_sure_pulls => k_is)
    (case k_sure_pulls => k_is)
    (case a_law => k_is)
    (case l_law => k_is)
    (case c_law => k_is)
    (case k_law => k_is)
    (case aC => k_is)
    (case pg => k_is)
    (case hd => k_is)
    (case po => k_is)
    (case sa => k_is)
    (case mk => k_is)
    (case kc => k_is)
    (case nD => k_is)
    (case nB => k_is)
    (case a_Cabinet___init__ => k_is)
    (case l_Cabinet___init__ => k_is)
    (case c_Cabinet___init__ => k_is)
    (case k_Cabinet___init__ => k_is)
    (case i_init => k_is)
    (case pa_drawers => k_is)
    (case pg_drawers => k_is)
    (case pt_drawers => k_is)
    (case pr_drawers => k_is)
    (case l_Cabinet_drawers => k_is)
    (case c_Cabinet_drawers => k_is)
    (case k_Cabinet_drawers => k_is)
    (case pa_bars => k_is)
    (case pg_bars => k_is)
    (case pt_bars => k_is)
    (case pr_bars => k_is)
    (case l_Cabinet_bars => k_is)
    (case c_Cabinet_bars => k_is)
    (case k_Cabinet_bars => k_is)
    (case ci1 => first | k_is | rfl)
    (case ci2 => first | k_is | rfl)
    (case ci3 => first | k_is | rfl)
    (case ci4 => first | k_is | rfl)
    (case ci5 => first | k_is | rfl)
    (case z_isinstance => k_is)
    (case z_int => k_is)
    (case z_bool => k_is)
    (case z_tuple => k_is)
    (case z_len => k_is)
    (case z_enumerate => k_is)
    (case z_range => k_is)
    (case z_sorted => k_is)
    (case z_any => k_is)
    (case z_list => k_is)
    (case z_sum => k_is)
    (case z_reversed => k_is)
    (case z_all => k_is)
    (case z_set => k_is)
    (case aM => k_is)
    (case aW => k_is)
    (case lW => k_is)
    (case aS => k_is)
    (case lS => k_is)
    (case kS => exact ⟨⟨_, _, rfl, rfl⟩, ⟨_, _, rfl, rfl⟩, True.intro⟩)
    (case oS => k_is)
    (case sS => k_is)
    (case aMS => k_is)
