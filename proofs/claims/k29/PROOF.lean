import PyProof.Rows.All
import Wide.All
import OpenK.AllK
import Wide.FinOn
import HandS.ForMost
import HandS.ForExc
import HandS.TupLe
import HandS.TupAny
import HandS.SortOrd
import HandS.SortRule
import HandS.IsInst
import HandS.Conv
import HandS.Wide
import HandS.Property
import HandS.Deep
import HandS.Walk
import HandS.Zip
import HandS.Flow
import KE.GoesEnum
import HandS.SortKw
import KE.GoesEnumKw
import KE.KDictZip
import PyProof.ZipIter
import HandS.ExcValue
import PySem.Challenge.RW_drawerlocks_k29_errors_are_apart
import KE.KSuper
import KE.KExcSuper
import HandS.ClsMeth
import HandS.ExcInit
import HandS.WordsExc
import HandS.FStr
import HandS.Replace
import HandS.More
import HandS.TryOnly
import HandS.SlotsOwn
import KE.GoesZip
import HandS.ExcOwn
import HandS.TryMany
import HandS.ExcField
import HandS.TupMul
import HandS.Star
import PyProof.Rows.SortShellAny
import KE.DataMinMax
import PyProof.Rows.StrMeet
import HandS.DictComp
import HandS.DictSubView
import HandS.Small
import HandS.Words
import HandS.Head0
import HandS.Head1
import HandS.Head2
import HandS.HeadEnd
import HandS.HeadHook1
import HandS.HeadHook2
import KE.KExcInit
import HandS.Head3
set_option Elab.async false
set_option maxRecDepth 100000
namespace DL
open PySem PySem.Spec PyProof.Rows L2
/-! ### bars: four parts; the words as truth values (true: shut) -/
structure Bar where
  d : Int
  w : Bool
  o : Int
  t : Bool
deriving DecidableEq
def wd (b : Bool) : Str := if b = true then "shut" else "open"
theorem wd_lt : ∀ a b : Bool, decide ((wd a).cps.toList < (wd b).cps.toList) = (!a && b) := by decide +kernel
def Bar.key (b : Bar) : List Key := [.inl b.d, .inr (wd b.w), .inl b.o, .inr (wd b.t)]
def Bar.vs (b : Bar) : List V := [.int b.d, .str (wd b.w), .int b.o, .str (wd b.t)]
def b2n (b : Bool) : Int := if b = true then 1 else 0
def Bar.code (b : Bar) : Int := ((b.d * 2 + b2n b.w) * 8 + b.o) * 2 + b2n b.t
/-- the parts lie where a bar of at most eight drawers has them -/
def Bar.low (b : Bar) : Prop := 0 ≤ b.d ∧ b.d < 8 ∧ 0 ≤ b.o ∧ b.o < 8
/-! ### sorted(d), d a dict whose keys are such tuples -/
def IsBarV (h : Heap) (v : Value) (b : Bar) : Prop := ∃ a o t1 t2 t3 t4 n, v = .ref a ∧ h.get? a = some o ∧ o.cls = .type "tuple" ∧ o.data = .seq #[.int b.d t1, .str (wd b.w) t2, .int b.o t3, .str (wd b.t) t4] n
theorem IsBarV.keeps {h h' : Heap} {v : Value} {b : Bar} (p : IsBarV h v b) (k : ∀ c o, h.get? c = some o → o.cls = .type "tuple" → h'.get? c = some o) : IsBarV h' v b := by
  obtain ⟨a, o, t1, t2, t3, t4, n, e, ho, hc, hd⟩ := p
  exact ⟨a, o, t1, t2, t3, t4, n, e, k _ _ ho hc, hc, hd⟩
end DL

set_option Elab.async false
set_option maxRecDepth 100000
namespace DL
open PySem PySem.Spec PyProof.Rows L2
/-! ### bar <= bar -/
def Bar.leb (a b : Bar) : Bool := decide (a.code ≤ b.code)
def Bar.leq (a b : Bar) : Bool := if a.d = b.d then (if a.w = b.w then (if a.o = b.o then (if a.t = b.t then true else !(!b.t && a.t)) else decide (a.o ≤ b.o)) else !(!b.w && a.w)) else decide (a.d ≤ b.d)
theorem Bar.leq_code {a b : Bar} (ha : a.low) (hb : b.low) : a.leq b = a.leb b := by
  obtain ⟨ad, aw, ao, at'⟩ := a
  obtain ⟨bd, bw, bo, bt⟩ := b
  unfold Bar.low at ha hb
  unfold Bar.leq Bar.leb Bar.code b2n
  simp only at ha hb ⊢
  by_cases h1 : ad = bd
  · rw [if_pos h1]
    by_cases h2 : aw = bw
    · rw [if_pos h2]
      by_cases h3 : ao = bo
      · rw [if_pos h3]
        subst h1 h2 h3
        cases at' <;> cases bt <;> simp <;> omega
      · rw [if_neg h3]
        subst h1 h2
        cases at' <;> cases bt <;> simp <;> omega
    · rw [if_neg h2]
      subst h1
      cases aw <;> cases bw <;> cases at' <;> cases bt <;> simp at h2 ⊢ <;> omega
  · rw [if_neg h1]
    cases aw <;> cases bw <;> cases at' <;> cases bt <;> simp <;> omega
def rLeB (K : PySem.W.Frag) : R2 := fun x y H Q => ∃ (a b : Addr) (p q : Bar), x = .ref a ∧ y = .ref b ∧ SqT K H a p.vs ∧ SqT K H b q.vs ∧ Q (.bl (p.leq q)) H
theorem four_of {p : Bar} {its : List Value} (r : Vals p.vs its) : ∃ t1 t2 t3 t4, its = [.int p.d t1, .str (wd p.w) t2, .int p.o t3, .str (wd p.t) t4] := by
  cases r with
  | cons r1 rv =>
    cases rv with
    | cons r2 rv =>
      cases rv with
      | cons r3 rv =>
        cases rv with
        | cons r4 rv =>
          cases rv
          obtain ⟨t1, rfl⟩ := r1
          obtain ⟨t2, rfl⟩ := r2
          obtain ⟨t3, rfl⟩ := r3
          obtain ⟨t4, rfl⟩ := r4
          exact ⟨t1, t2, t3, t4, rfl⟩
theorem beq_dec {α : Type} [BEq α] [LawfulBEq α] [DecidableEq α] (a b : α) : (a == b) = decide (a = b) := by
  by_cases q : a = b
  · rw [decide_eq_true q]; exact beq_iff_eq.mpr q
  · rw [decide_eq_false q]; exact beq_eq_false_iff_ne.mpr q
theorem wd_beq (a b : Bool) : ((wd a) == (wd b)) = decide (a = b) := by revert a b; decide +kernel
theorem op_leB {X : Cx} (hu : X.A.units < cLine) : OpR X (compareOp .LtE) (rLeB X.K) := by
  intro pins s σ H x y v u Q I rx ry h
  obtain ⟨a, b, p, q, rfl, rfl, ha, hb, hq⟩ := h
  cases rx
  cases ry
  obtain ⟨its, r1, p1, _⟩ := I.tuple ha
  obtain ⟨its2, r2, p2, _⟩ := I.tuple hb
  obtain ⟨t1, t2, t3, t4, rfl⟩ := four_of r1
  obtain ⟨u1, u2, u3, u4, rfl⟩ := four_of r2
  have R := Ob.RcOp.tuples_le (A := X.A) (s := s) (e := fun j => match j with | 0 => decide (p.d = q.d) | 1 => decide (p.w = q.w) | 2 => decide (p.o = q.o) | _ => decide (p.t = q.t))
    (r := fun j => match j with | 0 => decide (p.d ≤ q.d) | 1 => !(!q.w && p.w) | 2 => decide (p.o ≤ q.o) | _ => !(!q.t && p.t)) p1 p2 hu (fun j h1 h2 => by
      match j, h1, h2 with
      | 0, _, _ => show SeqAt.EqAt _ _ (.int p.d t1) (.int q.d u1) (decide (p.d = q.d)); rw [← beq_dec]; exact SeqAt.EqAt.int_int _ _ _ _
      | 1, _, _ => show SeqAt.EqAt _ _ (.str (wd p.w) t2) (.str (wd q.w) u2) (decide (p.w = q.w)); rw [← wd_beq]; exact SeqAt.EqAt.str_str _ _ _ _
      | 2, _, _ => show SeqAt.EqAt _ _ (.int p.o t3) (.int q.o u3) (decide (p.o = q.o)); rw [← beq_dec]; exact SeqAt.EqAt.int_int _ _ _ _
      | 3, _, _ => show SeqAt.EqAt _ _ (.str (wd p.t) t4) (.str (wd q.t) u4) (decide (p.t = q.t)); rw [← wd_beq]; exact SeqAt.EqAt.str_str _ _ _ _
      | n + 4, h1, _ => exact absurd (show n + 4 < 4 from h1) (by omega)) (fun j h1 h2 _ => by
      match j, h1, h2 with
      | 0, _, _ => exact Ob.RcOp.le_int _ _ _ _
      | 1, _, _ =>
        show Ob.RcOp .LtE _ _ (.str (wd p.w) t2) (.str (wd q.w) u2) (!(!q.w && p.w))
        rw [← wd_lt]
        exact fun _ _ _ _ h => PySem.P.le_str h
      | 2, _, _ => exact Ob.RcOp.le_int _ _ _ _
      | 3, _, _ =>
        show Ob.RcOp .LtE _ _ (.str (wd p.t) t4) (.str (wd q.t) u4) (!(!q.t && p.t))
        rw [← wd_lt]
        exact fun _ _ _ _ h => PySem.P.le_str h
      | n + 4, h1, _ => exact absurd (show n + 4 < 4 from h1) (by omega))
  have z : wpAny (model X.prog X.w) X.A (compareOp .LtE (.ref a) (.ref b)) (EP X pins σ Q) X.xe s := R X.prog X.w X.xe (EP X pins σ Q) (by
    refine ⟨.bl (p.leq q), H, I, ?_, hq⟩
    show Value.bool _ = Value.bool (p.leq q)
    have e : (Ob.lexAt (fun j => match j with | 0 => decide (p.d = q.d) | 1 => decide (p.w = q.w) | 2 => decide (p.o = q.o) | _ => decide (p.t = q.t))
      (fun j => match j with | 0 => decide (p.d ≤ q.d) | 1 => !(!q.w && p.w) | 2 => decide (p.o ≤ q.o) | _ => !(!q.t && p.t)) true 0 4) = p.leq q := by
      unfold Bar.leq
      simp only [Ob.lexAt, decide_eq_true_eq]
    exact congrArg Value.bool e)
  exact z
/-! ### for i, x in enumerate(t), t a tuple -/
def IteT (K : PySem.W.Frag) (a : Addr) : It :=
  ⟨fun i H => ∃ (xs : List V) (x : V), SqT K H a xs ∧ xs[i]? = some x, fun i H v H' => ∃ T x, v = .ref T ∧ H T = none ∧ H' = upd H T (.tup [.int (i : Nat), x]) ∧ ∀ xs, SqT K H a xs → xs[i]? = some x, fun i H => ∃ xs : List V, SqT K H a xs ∧ xs.length ≤ i⟩
theorem turn_enumT {P : Program} {w : World} {K : PySem.W.Frag} {elts : List Expr} {kk : Nat} {tpos : Pos} (a e it : Addr) (hai : a ≠ it) (hae : e ≠ a) :
    Turn P w K (.Tuple elts kk tpos) (IteT K a) [e, it] e (fun i h => (∃ old, IsEnum h e it ((i : Nat) : Int) old) ∧ h.IsTupleIter it a i ∧ e ≠ it) where
  mem := by simp
  obj := fun i h st b hb => by
    obtain ⟨⟨old, he⟩, ⟨o, ho, hc, hd⟩, _⟩ := st
    have e' : b = e ∨ b = it := by simpa using hb
    rcases e' with z | z
    · rw [z]; exact ⟨_, he, fun v q => nomatch q⟩
    · rw [z]; exact ⟨o, ho, fun v q => by rw [hd] at q; cases q⟩
  keep := fun i h h' st k => let ⟨⟨old, he⟩, hi, hne⟩ := st; ⟨⟨old, k e (by simp) _ he⟩, hi.at fun o q => k it (by simp) o q, hne⟩
  item := by
    intro X hP hw hK hc i pins s σ H E I hf st hg
    subst hP hw hK
    obtain ⟨⟨old, he⟩, hit, hne⟩ := st
    obtain ⟨xs, x, hq, hx⟩ := hg
    obtain ⟨its, rv, p, hz⟩ := I.tuple hq
    obtain ⟨u, hu, ru⟩ := rv.get hx
    have hel : e < s.heap.objs.size := Heap.lt_size he
    have hil : it < s.heap.objs.size := by obtain ⟨_, q, _⟩ := hit; exact Heap.lt_size q
    have hlt : i < its.toArray.size := by
      have := (List.getElem?_eq_some_iff.mp hu).1
      simpa using this
    refine wpAny_pyNext_enum_itemD (Draws.tuple (A := X.A.in1) (I.ok.hd hc) it a hai its.toArray) he ⟨hit, p⟩ hlt hne (by simp; exact ⟨hne, hae⟩) fun x1 h' tk hp ho hst' hT hsz hk => ?_
    have hx1 : x1 = u := by
      have q : its.toArray[i]? = some u := by simpa using hu
      rw [q] at hp
      exact (Option.some.inj hp).symm
    subst hx1
    refine ⟨_, rfl, wpAny_letOwnedTupleGo_enum (s := { s with heap := h', toks := tk + 1 }) ho fun h'' he' sb => ?_⟩
    have hT2 : h''.get? s.heap.objs.size = some { cls := .type "tuple", data := .seq #[.int i tk, x1] } := (sb.2 _ (Nat.ne_of_gt hel)).trans hT
    have new : ObjOk X.prog X.w (upd H s.heap.objs.size (.tup [.int (i : Nat), x])) h'' s.heap.objs.size (.tup [.int (i : Nat), x]) :=
      ⟨by show 2 ≤ sizeLine; decide, [.int i tk, x1], .cons ⟨_, rfl⟩ (.cons ru .nil), ⟨_, hT2, rfl, _, rfl⟩⟩
    have I1 : Inv X pins σ (upd H s.heap.objs.size (.tup [.int (i : Nat), x])) { s with heap := h'', toks := tk + 1 } :=
      I.turnedNew (ch := [e, it]) (fun b ob hb q => (sb.2 b (fun z => hb (by simp [z]))).trans (hk b ob (fun z => hb (by simp [z])) (fun z => hb (by simp [z])) q)) hf (Nat.le_refl _) new
    refine ⟨.ref s.heap.objs.size, _, I1, rfl, ⟨_, x, rfl, I.hok.fresh (Nat.le_refl _), rfl, fun ys hy => by rw [I.tuple_inj hy hq]; exact hx⟩, ⟨⟨x1, ?_⟩, hst'.1.at fun o q => (sb.2 it (Ne.symm hne)).trans q, hne⟩, fun b hb => ?_⟩
    · have e1 : ((i + 1 : Nat) : Int) = (i : Int) + 1 := by omega
      rw [e1]; exact he'
    · have hb' : b < s.heap.objs.size := by
        have e' : b = e ∨ b = it := by simpa using hb
        rcases e' with z | z
        · rw [z]; exact hel
        · rw [z]; exact hil
      rw [upd_ne (Nat.ne_of_lt hb')]
      exact (hf b hb).1
  done := by
    intro X hP hw hK hc i pins s σ H E I hf st hg
    subst hP hw hK
    obtain ⟨⟨old, he⟩, hit, hne⟩ := st
    obtain ⟨xs, hq, hx⟩ := hg
    obtain ⟨its, rv, p, hz⟩ := I.tuple hq
    obtain ⟨f0, f1, f2, f3, f4, f5⟩ := hf it (by simp)
    have hl := rv.length
    have D := Draws.tuple (prog := X.prog) (w := X.w) (A := X.A.in1) (I.ok.hd hc) it a hai its.toArray
    have go : ∀ {Q : Option Value → Shared → Prop}, (∀ h', Heap.ExtBut it s.heap h' → Q none { s with heap := h' }) → wpAny (model X.prog X.w) X.A (pyNext (.ref e)) Q E s := by
      intro Q hQ
      unfold pyNext
      have hT : s.TypeIs (.ref e) "enumerate" := ⟨_, he, rfl⟩
      refine wpAny_bind (wpAny_attempt (wpAny_callSpecial?_slot (name := Str.ofString "__next__") hT F.slot_enumerate_next
        (wpAny_call_entry F.slot_enumerate_next hT F.entry_enumerate_next ?_ (F.args_enumerate_next_1 _))))
      show wpAny _ _ (field (.ref e) 2 >>= _) _ _ _
      refine wpAny_bind (wpAny_field he rfl (x := .ref it) rfl ?_)
      refine wpAny_bind (wpAny_nextOf_tuple_end (I.ok.hd hc) hit p (by simp; omega) fun h' x he' hx' => ?_)
      obtain ⟨o, ho, hc⟩ := hx'
      refine wpAny_bind (wpAny_isInstance (T := "StopIteration") (b := true) ⟨o, ho, hc⟩ isSubtype_stop ?_)
      exact wpAny_pure (hQ _ he')
    exact go fun h' eb => ⟨rfl, I.turned (t' := s.toks) (fun b o hb q => eb b o hb q) f0 f1 f3 f4 f5⟩
  self := fun A i s Q E st h => let ⟨⟨_, he⟩, _⟩ := st; wpAny_pyIter_enum he h
def iEnumT (K : PySem.W.Frag) (ta : TA) : TI := fun σ H R => ta σ H fun vs H1 => ∃ a xs, vs = [.ref a] ∧ SqT K H1 a xs ∧ R (IteT K a) H1
end DL

set_option Elab.async false
set_option maxRecDepth 100000
namespace DL
open PySem PySem.Spec PyProof.Rows L2
open Sem (wp)
set_option maxHeartbeats 1000000 in
theorem meets_enumerate_newB1 {v : Value} {o : Obj} {H : Heap → Prop} (B : Begins v o H) :
    Meets (Builtin.«enumerate.__new__» ⟨[.type "enumerate", v], []⟩) (fun _ R s => H s.heap ∧
      R (.ok (.ret (.ref (s.heap.push o).objs.size))) { s with heap := (s.heap.push o).push { cls := .type "enumerate", data := .fields #[.none, .bool false, .ref s.heap.objs.size, rawInt 0, .none, .none] } }) :=
  .of_wp fun prog w A R s h => by
    obtain ⟨hp, g, d, tk, os⟩ := s; obtain ⟨h1, h⟩ := h
    have hsub := sub_enumerate
    have q1 : ∀ {A' : Around} {E : Value → Shared → Prop} {Q : Value → Shared → Prop}, Q (.ref hp.objs.size) ⟨hp.push o, g, d, tk, os⟩ → wpAny (model prog w) A' (pyIter v) Q E ⟨hp, g, d, tk, os⟩ :=
      fun q => B.iter prog w _ _ ⟨hp, g, d, tk, os⟩ _ h1 q
    wp_walk using q1
    refine wpAny_stack_any fun st => wpAny_pure ?_
    split
    · rename_i c _ _ _ _ _
      cases (c == Value.type "enumerate")
      · wp_walk using q1
        exact ⟨_, rfl, h⟩
      · wp_walk using q1
        exact ⟨_, rfl, h⟩
    · wp_walk using q1
      exact ⟨_, rfl, h⟩
section
variable {prog : Program} {w : World} {A : Around} {E : Value → Shared → Prop} {s : Shared}
theorem enum_begins1 {v : Value} {o : Obj} {H : Heap → Prop} {Q : Value → Shared → Prop} (B : Begins v o H) (h1 : H s.heap)
    (h : ∀ h', IsEnum h' (s.heap.objs.size + 1) s.heap.objs.size 0 .none → h'.get? s.heap.objs.size = some o → h'.objs.size = s.heap.objs.size + 2 →
      (∀ b o, s.heap.get? b = some o → h'.get? b = some o) → Q (.ref (s.heap.objs.size + 1)) { s with heap := h' }) :
    wpAny (model prog w) A (call (.type "enumerate") [v]) Q E s := by
  refine callType_new F.called_enumerate (by decide) (F.typeCall_enumerate_1 _) (F.newCall_enumerate_1 _) (fun obj => F.args_object_init_2 obj _) F.entry_enumerate_new
    (meets_enumerate_newB1 B) ⟨h1, ?_⟩
  have hz : (s.heap.push o).objs.size = s.heap.objs.size + 1 := Heap.size_push ..
  show _ ∧ _
  rw [hz]
  have he : IsEnum ((s.heap.push o).push { cls := .type "enumerate", data := .fields #[.none, .bool false, .ref s.heap.objs.size, rawInt 0, .none, .none] }) (s.heap.objs.size + 1) s.heap.objs.size 0 .none := by
    have := Heap.get?_push_size (s.heap.push o) (o := { cls := .type "enumerate", data := .fields #[.none, .bool false, .ref s.heap.objs.size, rawInt 0, .none, .none] }) rfl
    rw [hz] at this; exact this
  refine ⟨⟨_, he, rfl⟩, h _ he (Heap.get?_push_of_some _ (Heap.get?_push_size _ B.free)) (by rw [Heap.size_push, hz]) fun b o x => Heap.get?_push_of_some _ (Heap.get?_push_of_some _ x)⟩
end
theorem pi_enumT {X : Cx} {e : Expr} {ta : TA} {p pos tpos : Pos} {elts : List Expr} {kk : Nat} (hg : Gl X "enumerate") (hm : X.mg "enumerate" = none) (ha : PA X [e] ta) (hs : starEach [e] X.env = [(false, eval e X.env)] := by rfl) :
    PI X (.Tuple elts kk tpos) (.Call (.Name "enumerate" p) [e] [] pos) (iEnumT X.K ta) := by
  refine ⟨fun pins s σ H R I h => ?_⟩
  refine Call_ (ld_blt I hg hm boot_enumerate (PyProof.Rows.callWith_type1 (thn (ha.run pos pins s σ H _ I h) fun us s1 ⟨vs, H1, I1, r1, q1⟩ => ?_) hs rfl))
  obtain ⟨a, xs, ex, hq, q⟩ := q1
  subst ex
  cases r1 with
  | cons r rr =>
    cases rr
    cases r
    obtain ⟨its, rv, p', hz⟩ := I1.tuple hq
    have hal : a < s1.heap.objs.size := by obtain ⟨o, ho, _⟩ := id p'; exact Heap.lt_size ho
    refine enum_begins1 (begins_tuple a its.toArray) (show s1.heap.IsTuple a its.toArray from p') fun h' he hit hsz hk => wpAny_pyIter_enum he ?_
    have I2 : Inv X pins σ H1 { s1 with heap := h' } := I1.kept (t' := s1.toks) hk
    refine ⟨s1.heap.objs.size + 1, [s1.heap.objs.size + 1, s1.heap.objs.size], _, _, H1, rfl, I2, turn_enumT a (s1.heap.objs.size + 1) s1.heap.objs.size (Nat.ne_of_lt hal) (Nat.ne_of_gt (Nat.lt_succ_of_lt hal)),
      ⟨⟨.none, he⟩, ⟨_, hit, rfl, rfl⟩, Nat.succ_ne_self _⟩, fun b hb => ?_, q⟩
    have e' : b = s1.heap.objs.size + 1 ∨ b = s1.heap.objs.size := by simpa using hb
    have hle : s1.heap.objs.size ≤ b := by
      rcases e' with z | z
      · rw [z]; exact Nat.le_add_right _ _
      · rw [z]; exact Nat.le_refl _
    exact I1.fpOk hle (I1.hok.fresh hle)
theorem walk_enumT {K : PySem.W.Frag} {a : Addr} {xs : List V} : Walk (IteT K a) xs.length (fun H => SqT K H a xs) (YPair (fun i => some (.int (i : Nat))) (fun i => xs[i]?)) := by
  refine ⟨fun i _ hi q => ⟨xs, xs[i], q, by simp [hi]⟩, fun _ q => ⟨xs, q, Nat.le_refl _⟩, fun i H v H' _ q y => ?_⟩
  obtain ⟨T, x, h1, h2, h3, h4⟩ := y
  exact ⟨T, .int (i : Nat), x, h1, h2, h3, rfl, h4 xs q⟩
end DL

set_option Elab.async false
set_option maxRecDepth 100000
set_option maxHeartbeats 1000000
namespace DL
open PySem PySem.Spec PyProof.Rows L2
/-! ### a zip that is walked by an enumerate: its tuple stays out -/
/-- the zip at z; own: the tuple that is out, if any -/
abbrev IsZ (h : Heap) (z TI TO : Addr) (own : Value) (f : Bool) : Prop :=
  h.get? z = some { cls := .type "zip", dict := none, data := .fields #[own, .bool f, .bool false, .ref TI, .ref TO], slots := #[] }
section
variable {prog : Program} {w : World} {A : Around} {E : Value → Shared → Prop} {s : Shared}
/-- the next pair while the zip's own tuple can be laid anew -/
theorem zn_free {z TI TO i1 i2 l1 l2 : Addr} {k1 k2 : Nat} {xs ys : Array Value} {x y a b own : Value} {f : Bool} {Q : Value → Shared → Prop} (D : ZipApart z TI TO i1 i2 l1 l2)
    (hz : IsZ s.heap z TI TO own f) (fr : ∀ {A' : Around} {Q' : Bool → Shared → Prop}, Q' true s → wpAny (model prog w) A' (Builtin.SmallTypes.ownedTupleIsFree (.ref z)) Q' E s)
    (hTI : IsPair s.heap TI (.ref i1) (.ref i2)) (hTO : IsPair s.heap TO a b) (h1 : s.heap.IsListIter i1 l1 k1) (h2 : s.heap.IsListIter i2 l2 k2) (hl1 : s.heap.IsList l1 xs) (hl2 : s.heap.IsList l2 ys) (hx : xs[k1]? = some x) (hy : ys[k2]? = some y)
    (hQ : ∀ h' own' f', (∃ T : Addr, own' = rawInt T) → IsZ h' z TI TO own' f' → IsPair h' TO x y → h'.IsListIter i1 l1 (k1 + 1) → h'.IsListIter i2 l2 (k2 + 1) → IsPair h' s.heap.objs.size x y → h'.objs.size = s.heap.objs.size + 1 →
      (∀ c o, c ≠ z → c ≠ TO → c ≠ i1 → c ≠ i2 → s.heap.get? c = some o → h'.get? c = some o) → Q (.ref s.heap.objs.size) { s with heap := h' }) :
    wpAny (model prog w) A (Builtin.«zip.__next__» ⟨[.ref z], []⟩) (fun fin s' => ∃ v, fin = .done (.ret v) ∧ Q v s') E s := by
  show wpAny _ _ (field (.ref z) 2 >>= _) _ _ _
  refine wpAny_bind (wpAny_field hz rfl (x := .bool false) rfl ?_) ; show wpAny _ _ (field (.ref z) 3 >>= _) _ _ _
  refine wpAny_bind (wpAny_field hz rfl (x := .ref TI) rfl ?_) ; refine wpAny_bind (wpAny_seqItems hTI rfl ?_)
  show wpAny _ _ (Builtin.SmallTypes.ownedTupleIsFree (.ref z) >>= _) _ _ _ ; refine wpAny_bind (fr ?_)
  simp only [if_true]
  refine wpAny_bind (wpAny_rule (wpAny_bind (wpAny_field hz rfl (x := .ref TO) rfl ?_)))
  refine wpAny_bind (wpAny_setField_rec hz (by simp) fun g1 z1 b1 => ?_)
  replace z1 : IsZ g1 z TI TO .ellipsis f := z1
  refine wpAny_bind ?_
  simp only [List.zipIdx_cons, List.zipIdx_nil, List.forIn_cons, List.forIn_nil]
  refine wpAny_bind (wpAny_bind (wpAny_onRaise ?_)) ; show wpAny _ _ (Builtin.SmallTypes.nextOf (.ref i1) >>= _) _ _ _
  refine wpAny_bind (wpAny_nextOf_list_item (h1.extBut b1.extBut D.i1z) (hl1.extBut b1.extBut D.l1z) hx fun g2 it2 b2 => wpAny_pure ?_)
  have p2 : IsPair g2 TO a b := b2.extBut _ _ D.TOi1 (b1.extBut _ _ D.TOz hTO)
  refine wpAny_bind (wpAny_seqItems p2 rfl (wpAny_bind (wpAny_updateSeq_pair p2 fun g3 p3 b3 => ?_)))
  replace p3 : IsPair g3 TO x b := p3
  refine wpAny_bind (wpAny_letGo (wpAny_pure (wpAny_bind (wpAny_bind (wpAny_onRaise ?_)))))
  show wpAny _ _ (Builtin.SmallTypes.nextOf (.ref i2) >>= _) _ _ _ ; refine wpAny_bind (wpAny_nextOf_list_item (((h2.extBut b1.extBut D.i2z).extBut b2.extBut D.i12.symm).extBut b3.extBut D.TOi2.symm)
    (((hl2.extBut b1.extBut D.l2z).extBut b2.extBut D.l2i1).extBut b3.extBut D.l2TO) hy fun g4 it4 b4 => wpAny_pure ?_)
  have p4 : IsPair g4 TO x b := b4.extBut _ _ D.TOi2 p3
  refine wpAny_bind (wpAny_seqItems p4 rfl (wpAny_bind (wpAny_updateSeq_pair p4 fun g5 p5 b5 => ?_)))
  replace p5 : IsPair g5 TO x y := p5
  refine wpAny_bind (wpAny_letGo (wpAny_pure (wpAny_pure (wpAny_bind (wpAny_seqItems p5 rfl (wpAny_bind (wpAny_newTuple ?_)))))))
  have sz : g5.objs.size = s.heap.objs.size := by rw [b5.1, b4.1, b3.1, b2.1, b1.1]
  have z5 : IsZ g5 z TI TO .ellipsis f := b5.extBut _ _ D.TOz.symm (b4.extBut _ _ D.i2z.symm (b3.extBut _ _ D.TOz.symm (b2.extBut _ _ D.i1z.symm z1)))
  have k5 : ∀ c o, c ≠ z → c ≠ TO → c ≠ i1 → c ≠ i2 → s.heap.get? c = some o → g5.get? c = some o := fun c o c1 c2 c3 c4 e => b5.extBut _ _ c2 (b4.extBut _ _ c4 (b3.extBut _ _ c2 (b2.extBut _ _ c3 (b1.extBut _ _ c1 e))))
  have it1 : g5.IsListIter i1 l1 (k1 + 1) := ((it2.extBut b3.extBut D.TOi1.symm).extBut b4.extBut D.i12).extBut b5.extBut D.TOi1.symm
  have it5 : g5.IsListIter i2 l2 (k2 + 1) := it4.extBut b5.extBut D.TOi2.symm
  have ltz : z < g5.objs.size := Heap.lt_size z5
  show wpAny _ _ (Builtin.SmallTypes.ownedTupleHandOut (.ref z) (.ref g5.objs.size) >>= _) _ _ _ ; refine wpAny_bind ?_
  unfold Builtin.SmallTypes.ownedTupleHandOut
  have z6 : IsZ (g5.push { cls := .type "tuple", data := .seq #[x, y] }) z TI TO .ellipsis f := Heap.get?_push_of_some _ z5
  refine wpAny_bind (wpAny_setField_rec z6 (by simp) fun g7 z7 b7 => ?_)
  replace z7 : IsZ g7 z TI TO (rawInt g5.objs.size) f := z7
  refine wpAny_setField_rec z7 (by simp) fun g8 z8 b8 => ?_
  replace z8 : IsZ g8 z TI TO (rawInt g5.objs.size) false := z8
  have up : ∀ c o, c ≠ z → g5.get? c = some o → g8.get? c = some o := fun c o c1 e => b8.extBut _ _ c1 (b7.extBut _ _ c1 (Heap.get?_push_of_some _ e))
  have t8 : IsPair g8 g5.objs.size x y := b8.extBut _ _ (Nat.ne_of_gt ltz) (b7.extBut _ _ (Nat.ne_of_gt ltz) (Heap.get?_push_size _ rfl))
  have sz8 : g8.objs.size = g5.objs.size + 1 := by rw [b8.1, b7.1, Heap.size_push]
  rw [sz] at z8 t8 sz8
  refine wpAny_pure ⟨_, rfl, ?_⟩ ; show Q (.ref g5.objs.size) _
  rw [sz]
  exact hQ g8 _ _ ⟨_, rfl⟩ z8 (up _ _ D.TOz p5) (it1.at fun o e => up _ o D.i1z e) (it5.at fun o e => up _ o D.i2z e) t8 sz8 fun c o c1 c2 c3 c4 e => up c o c1 (k5 c o c1 c2 c3 c4 e)
theorem gone_load {T : Addr} {Q' : Option Obj → Shared → Prop} {A' : Around} (e : s.heap.get? T = none) (q : Q' none s) : wpAny (model prog w) A' (loadIfAlive T) Q' E s := by
  have z : Q' (s.heap.get? T) s := by
    rw [e]
    exact q
  exact fun _ _ _ => z
/-- none out, or one that is no more -/
theorem own_free {z TI TO : Addr} {own : Value} {f : Bool} (hz : IsZ s.heap z TI TO own f) (ho : own = .none ∨ ∃ T : Addr, own = rawInt T ∧ s.heap.get? T = none) {A' : Around} {Q' : Bool → Shared → Prop} (q : Q' true s) :
    wpAny (model prog w) A' (Builtin.SmallTypes.ownedTupleIsFree (.ref z)) Q' E s := by
  unfold Builtin.SmallTypes.ownedTupleIsFree
  rcases ho with rfl | ⟨T, rfl, e⟩
  · exact wpAny_bind (wpAny_field hz rfl (x := .none) rfl (wpAny_pure q))
  · refine wpAny_bind (wpAny_field hz rfl (x := rawInt T) rfl ?_)
    show wpAny _ _ (loadIfAlive ((T : Int).toNat) >>= _) _ _ _
    rw [Int.toNat_natCast]
    exact wpAny_bind (gone_load e (wpAny_pure q))
/-- the next pair of a zip, whatever became of the one before -/
theorem zn_item {z TI TO i1 i2 l1 l2 : Addr} {k1 k2 : Nat} {xs ys : Array Value} {x y a b own : Value} {f : Bool} {Q : Value → Shared → Prop} (D : ZipApart z TI TO i1 i2 l1 l2)
    (hz : IsZ s.heap z TI TO own f) (ho : own = .none ∨ ∃ T : Addr, own = rawInt T)
    (hTI : IsPair s.heap TI (.ref i1) (.ref i2)) (hTO : IsPair s.heap TO a b) (h1 : s.heap.IsListIter i1 l1 k1) (h2 : s.heap.IsListIter i2 l2 k2) (hl1 : s.heap.IsList l1 xs) (hl2 : s.heap.IsList l2 ys) (hx : xs[k1]? = some x) (hy : ys[k2]? = some y)
    (hQ : ∀ h' own' f' a' b', (∃ T : Addr, own' = rawInt T) → IsZ h' z TI TO own' f' → IsPair h' TO a' b' → h'.IsListIter i1 l1 (k1 + 1) → h'.IsListIter i2 l2 (k2 + 1) → IsPair h' s.heap.objs.size x y → h'.objs.size = s.heap.objs.size + 1 →
      (∀ c o, c ≠ z → c ≠ TO → c ≠ i1 → c ≠ i2 → s.heap.get? c = some o → h'.get? c = some o) → Q (.ref s.heap.objs.size) { s with heap := h' }) :
    wpAny (model prog w) A (Builtin.«zip.__next__» ⟨[.ref z], []⟩) (fun fin s' => ∃ v, fin = .done (.ret v) ∧ Q v s') E s := by
  have free : (own = .none ∨ ∃ T : Addr, own = rawInt T ∧ s.heap.get? T = none) → wpAny (model prog w) A (Builtin.«zip.__next__» ⟨[.ref z], []⟩) (fun fin s' => ∃ v, fin = .done (.ret v) ∧ Q v s') E s := fun fr =>
    zn_free D hz (fun q => own_free hz fr q) hTI hTO h1 h2 hl1 hl2 hx hy fun h' own' f' a1 a2 a3 a4 a5 a6 a7 a8 => hQ h' own' f' _ _ a1 a2 a3 a4 a5 a6 a7 a8
  rcases ho with e | ⟨T, e⟩
  · exact free (.inl e)
  · cases hT : s.heap.get? T with
    | none => exact free (.inr ⟨T, e, hT⟩)
    | some oT =>
      subst e
      have ne : ∀ c, c = TO → c ≠ z := fun c e => by rw [e]; exact D.TOz
      refine zip_next_item_held D hz hT hTI h1 h2 hl1 hl2 hx hy fun h' a1 a2 a3 a4 a5 a6 => hQ h' _ _ a b ⟨T, rfl⟩ a1 (a6 _ _ D.TOz D.TOi1 D.TOi2 hTO) a2 a3 a4 a5 fun c o c1 _ c3 c4 q => a6 c o c1 c3 c4 q
theorem zn_free_end {z TI TO i1 i2 l1 l2 : Addr} {k1 k2 : Nat} {xs ys : Array Value} {a b own : Value} {f : Bool} {Q : PySem.Fin → Shared → Prop} (calm : A.handled = none) (D : ZipApart z TI TO i1 i2 l1 l2)
    (hz : IsZ s.heap z TI TO own f) (fr : ∀ {A' : Around} {Q' : Bool → Shared → Prop}, Q' true s → wpAny (model prog w) A' (Builtin.SmallTypes.ownedTupleIsFree (.ref z)) Q' E s)
    (hTI : IsPair s.heap TI (.ref i1) (.ref i2)) (hTO : IsPair s.heap TO a b) (h1 : s.heap.IsListIter i1 l1 k1) (h2 : s.heap.IsListIter i2 l2 k2) (hl1 : s.heap.IsList l1 xs) (hl2 : s.heap.IsList l2 ys) (ends : xs[k1]? = none ∨ ys[k2]? = none)
    (hE : ∀ h' e, (∀ c o, c ≠ z → c ≠ TO → c ≠ i1 → c ≠ i2 → s.heap.get? c = some o → h'.get? c = some o) → (∃ o, h'.get? e = some o ∧ o.cls = .type "StopIteration") → E (.ref e) { s with heap := h' }) :
    wpAny (model prog w) A (Builtin.«zip.__next__» ⟨[.ref z], []⟩) Q E s := by
  show wpAny _ _ (field (.ref z) 2 >>= _) _ _ _
  refine wpAny_bind (wpAny_field hz rfl (x := .bool false) rfl ?_) ; show wpAny _ _ (field (.ref z) 3 >>= _) _ _ _
  refine wpAny_bind (wpAny_field hz rfl (x := .ref TI) rfl ?_) ; refine wpAny_bind (wpAny_seqItems hTI rfl ?_)
  show wpAny _ _ (Builtin.SmallTypes.ownedTupleIsFree (.ref z) >>= _) _ _ _ ; refine wpAny_bind (fr ?_)
  simp only [if_true]
  refine wpAny_bind (wpAny_rule (wpAny_bind (wpAny_field hz rfl (x := .ref TO) rfl ?_)))
  refine wpAny_bind (wpAny_setField_rec hz (by simp) fun g1 z1 b1 => ?_)
  replace z1 : IsZ g1 z TI TO .ellipsis f := z1
  refine wpAny_bind ?_
  simp only [List.zipIdx_cons, List.zipIdx_nil, List.forIn_cons, List.forIn_nil]
  refine wpAny_bind (wpAny_bind (wpAny_onRaise ?_)) ; show wpAny _ _ (Builtin.SmallTypes.nextOf (.ref i1) >>= _) _ _ _
  have last : ∀ (g : Heap) (e : Addr), IsZ g z TI TO .ellipsis f → (∃ o, g.get? e = some o ∧ o.cls = .type "StopIteration") → e ≠ z := fun g e q ⟨o, h, hc⟩ z => by
    subst z
    rw [q] at h
    cases h
    simp at hc
  cases hx : xs[k1]? with
  | none =>
    refine wpAny_bind (wpAny_nextOf_list_end calm (h1.extBut b1.extBut D.i1z) (hl1.extBut b1.extBut D.l1z) hx fun g2 e b2 he => ?_)
    have z2 : IsZ g2 z TI TO .ellipsis f := b2 _ _ D.i1z.symm z1
    have ne := last _ _ z2 he
    obtain ⟨oe, e1, e2⟩ := he
    exact wpAny_setField_rec z2 (by simp) fun g3 _ b3 => hE g3 e (fun c o c1 _ c3 _ q => b3.extBut _ _ c1 (b2 _ _ c3 (b1.extBut _ _ c1 q))) ⟨oe, b3.extBut _ _ ne e1, e2⟩
  | some x =>
    have hy : ys[k2]? = none := ends.resolve_left fun q => by rw [hx] at q; cases q
    refine wpAny_bind (wpAny_nextOf_list_item (h1.extBut b1.extBut D.i1z) (hl1.extBut b1.extBut D.l1z) hx fun g2 it2 b2 => wpAny_pure ?_)
    have p2 : IsPair g2 TO a b := b2.extBut _ _ D.TOi1 (b1.extBut _ _ D.TOz hTO)
    refine wpAny_bind (wpAny_seqItems p2 rfl (wpAny_bind (wpAny_updateSeq_pair p2 fun g3 p3 b3 => ?_)))
    refine wpAny_bind (wpAny_letGo (wpAny_pure (wpAny_bind (wpAny_bind (wpAny_onRaise ?_)))))
    show wpAny _ _ (Builtin.SmallTypes.nextOf (.ref i2) >>= _) _ _ _ ; refine wpAny_bind (wpAny_nextOf_list_end calm (((h2.extBut b1.extBut D.i2z).extBut b2.extBut D.i12.symm).extBut b3.extBut D.TOi2.symm)
      (((hl2.extBut b1.extBut D.l2z).extBut b2.extBut D.l2i1).extBut b3.extBut D.l2TO) hy fun g4 e b4 he => ?_)
    have z4 : IsZ g4 z TI TO .ellipsis f := b4 _ _ D.i2z.symm (b3.extBut _ _ D.TOz.symm (b2.extBut _ _ D.i1z.symm z1))
    have ne := last _ _ z4 he
    obtain ⟨oe, e1, e2⟩ := he
    exact wpAny_setField_rec z4 (by simp) fun g5 _ b5 => hE g5 e (fun c o c1 c2 c3 c4 q => b5.extBut _ _ c1 (b4 _ _ c4 (b3.extBut _ _ c2 (b2.extBut _ _ c3 (b1.extBut _ _ c1 q))))) ⟨oe, b5.extBut _ _ ne e1, e2⟩
theorem zn_end {z TI TO i1 i2 l1 l2 : Addr} {k1 k2 : Nat} {xs ys : Array Value} {a b own : Value} {f : Bool} {Q : PySem.Fin → Shared → Prop} (calm : A.handled = none) (D : ZipApart z TI TO i1 i2 l1 l2)
    (hz : IsZ s.heap z TI TO own f) (ho : own = .none ∨ ∃ T : Addr, own = rawInt T)
    (hTI : IsPair s.heap TI (.ref i1) (.ref i2)) (hTO : IsPair s.heap TO a b) (h1 : s.heap.IsListIter i1 l1 k1) (h2 : s.heap.IsListIter i2 l2 k2) (hl1 : s.heap.IsList l1 xs) (hl2 : s.heap.IsList l2 ys) (ends : xs[k1]? = none ∨ ys[k2]? = none)
    (hE : ∀ h' e, (∀ c o, c ≠ z → c ≠ TO → c ≠ i1 → c ≠ i2 → s.heap.get? c = some o → h'.get? c = some o) → (∃ o, h'.get? e = some o ∧ o.cls = .type "StopIteration") → E (.ref e) { s with heap := h' }) :
    wpAny (model prog w) A (Builtin.«zip.__next__» ⟨[.ref z], []⟩) Q E s := by
  rcases ho with e | ⟨T, e⟩
  · exact zn_free_end calm D hz (fun q => own_free hz (.inl e) q) hTI hTO h1 h2 hl1 hl2 ends hE
  · cases hT : s.heap.get? T with
    | none => exact zn_free_end calm D hz (fun q => own_free hz (.inr ⟨T, e, hT⟩) q) hTI hTO h1 h2 hl1 hl2 ends hE
    | some oT =>
      subst e
      exact zip_next_end_held calm D hz hT hTI h1 h2 hl1 hl2 ends fun h' e k q => hE h' e (fun c o c1 _ c3 c4 r => k c o c1 c3 c4 r) q
theorem nx_zip_end {z TI TO : Addr} {own : Value} {f : Bool} {Q : Value → Shared → Prop} (hz : IsZ s.heap z TI TO own f) (h : wpAny (model prog w) A.in1 (Builtin.«zip.__next__» ⟨[.ref z], []⟩) (fun _ _ => False) E s) : wpAny (model prog w) A (Builtin.SmallTypes.nextOf (.ref z)) Q E s := by
  have hT : s.TypeIs (.ref z) "zip" := ⟨_, hz, rfl⟩
  unfold Builtin.SmallTypes.nextOf
  refine wpAny_bind (wpAny_callSpecial?_slot (name := Str.ofString "__next__") hT F.slot_zip_next (wpAny_call_entry F.slot_zip_next hT F.entry_zip_next ?_ (F.args_zip_next_1 _)))
  exact wpAny_mono h (fun _ _ q => q.elim) fun _ _ q => q
theorem nx_zip {z TI TO : Addr} {own : Value} {f : Bool} {Q : Value → Shared → Prop} (hz : IsZ s.heap z TI TO own f) (h : wpAny (model prog w) A.in1 (Builtin.«zip.__next__» ⟨[.ref z], []⟩) (fun fin s' => ∃ v, fin = .done (.ret v) ∧ Q v s') E s) :
    wpAny (model prog w) A (Builtin.SmallTypes.nextOf (.ref z)) Q E s := by
  have hT : s.TypeIs (.ref z) "zip" := ⟨_, hz, rfl⟩
  unfold Builtin.SmallTypes.nextOf
  refine wpAny_bind (wpAny_callSpecial?_slot (name := Str.ofString "__next__") hT F.slot_zip_next (wpAny_call_entry F.slot_zip_next hT F.entry_zip_next ?_ (F.args_zip_next_1 _)))
  refine wpAny_mono h (fun fin s' q => ?_) fun _ _ q => q
  obtain ⟨v, e, q⟩ := q
  exact ⟨v, e, wpAny_pure q⟩
/-- the next of an enumerate over a zip: a pair of the index and the zip's pair -/
theorem ez_item {e z TI TO i1 i2 l1 l2 : Addr} {n : Int} {k1 k2 : Nat} {xs ys : Array Value} {x y a b own old : Value} {f : Bool} {Q : Option Value → Shared → Prop} (D : ZipApart z TI TO i1 i2 l1 l2)
    (he : IsEnum s.heap e z n old) (out : e ≠ z ∧ e ≠ TI ∧ e ≠ TO ∧ e ≠ i1 ∧ e ≠ i2) (hz : IsZ s.heap z TI TO own f) (ho : own = .none ∨ ∃ T : Addr, own = rawInt T)
    (hTI : IsPair s.heap TI (.ref i1) (.ref i2)) (hTO : IsPair s.heap TO a b) (h1 : s.heap.IsListIter i1 l1 k1) (h2 : s.heap.IsListIter i2 l2 k2) (hl1 : s.heap.IsList l1 xs) (hl2 : s.heap.IsList l2 ys) (hx : xs[k1]? = some x) (hy : ys[k2]? = some y)
    (hQ : ∀ h' own' f' a' b', (∃ T : Addr, own' = rawInt T) → IsEnumOut h' e z (n + 1) (.ref s.heap.objs.size) (s.heap.objs.size + 1) → IsZ h' z TI TO own' f' → IsPair h' TI (.ref i1) (.ref i2) → IsPair h' TO a' b' → h'.IsListIter i1 l1 (k1 + 1) → h'.IsListIter i2 l2 (k2 + 1) →
      IsPair h' s.heap.objs.size x y → IsPair h' (s.heap.objs.size + 1) (.int n s.toks) (.ref s.heap.objs.size) →
      (∀ c o, c ≠ e → c ≠ z → c ≠ TO → c ≠ i1 → c ≠ i2 → s.heap.get? c = some o → h'.get? c = some o) → Q (some (.ref (s.heap.objs.size + 1))) { s with heap := h', toks := s.toks + 1 }) :
    wpAny (model prog w) A (pyNext (.ref e)) Q E s := by
  have hT : s.TypeIs (.ref e) "enumerate" := ⟨_, he, rfl⟩
  obtain ⟨hp, g, d, tk, os⟩ := s
  unfold pyNext
  refine wpAny_bind (wpAny_attempt (wpAny_callSpecial?_slot (name := Str.ofString "__next__") hT F.slot_enumerate_next (wpAny_call_entry F.slot_enumerate_next hT F.entry_enumerate_next ?_ (F.args_enumerate_next_1 _))))
  show wpAny _ _ (field (.ref e) 2 >>= _) _ _ _
  refine wpAny_bind (wpAny_field he rfl (x := .ref z) rfl (wpAny_bind (nx_zip hz (zn_item D hz ho hTI hTO h1 h2 hl1 hl2 hx hy fun g1 own' f' a' b' w1 zz tO it1 it2 tp sz kp => ?_))))
  replace kp : ∀ c o, c ≠ z → c ≠ TO → c ≠ i1 → c ≠ i2 → hp.get? c = some o → g1.get? c = some o := kp
  replace tp : IsPair g1 hp.objs.size x y := tp
  replace sz : g1.objs.size = hp.objs.size + 1 := sz
  have e1 : IsEnum g1 e z n old := kp _ _ out.1 out.2.2.1 out.2.2.2.1 out.2.2.2.2 he
  have tI : IsPair g1 TI (.ref i1) (.ref i2) := kp _ _ D.TIz D.TITO D.TIi1 D.TIi2 hTI
  have lte : e < hp.objs.size := Heap.lt_size he
  show wpAny _ _ (field (.ref e) 3 >>= _) _ _ ⟨g1, g, d, tk, os⟩
  refine wpAny_bind (wpAny_field e1 rfl (x := rawInt n) rfl ?_)
  show wpAny _ _ (field (.ref e) 4 >>= _) _ _ ⟨g1, g, d, tk, os⟩
  refine wpAny_bind (wpAny_field e1 rfl (x := .none) rfl ?_)
  show wpAny _ _ (mkInt n >>= _) _ _ ⟨g1, g, d, tk, os⟩
  refine wpAny_bind (wpAny_mkInt ?_)
  show wpAny _ _ (setField (.ref e) 3 (rawInt (n + 1)) >>= _) _ _ ⟨g1, g, d, tk + 1, os⟩
  refine wpAny_bind (wpAny_setField_rec e1 (by simp) fun g2 e2 b2 => ?_)
  replace b2 : Heap.SameBut e g1 g2 := b2
  replace e2 : IsEnum g2 e z (n + 1) old := e2
  show wpAny _ _ (setField (.ref e) 4 .none >>= _) _ _ ⟨g2, g, d, tk + 1, os⟩
  refine wpAny_bind (wpAny_setField_rec e2 (by simp) fun g3 e3 b3 => ?_)
  replace b3 : Heap.SameBut e g2 g3 := b3
  replace e3 : IsEnum g3 e z (n + 1) old := e3
  show wpAny _ _ (newTuple [.int n tk, .ref hp.objs.size] >>= _) _ _ ⟨g3, g, d, tk + 1, os⟩
  refine wpAny_bind (wpAny_newTuple ?_)
  have sz3 : g3.objs.size = hp.objs.size + 1 := by rw [b3.1, b2.1, sz]
  obtain ⟨g4, eg4⟩ : ∃ g4, g4 = g3.push { cls := .type "tuple", data := .seq #[.int n tk, .ref hp.objs.size] } := ⟨_, rfl⟩
  have e4 : IsEnum g4 e z (n + 1) old := by rw [eg4]; exact Heap.get?_push_of_some _ e3
  have t4 : IsPair g4 (hp.objs.size + 1) (.int n tk) (.ref hp.objs.size) := by rw [eg4, ← sz3]; exact Heap.get?_push_size _ rfl
  have k4 : ∀ c o, c ≠ e → g1.get? c = some o → g4.get? c = some o := fun c o c1 q => by rw [eg4]; exact Heap.get?_push_of_some _ (b3.extBut _ _ c1 (b2.extBut _ _ c1 q))
  show wpAny _ _ (Builtin.SmallTypes.ownedTupleIsFree (.ref e) >>= _) _ _ ⟨g3.push _, g, d, tk + 1, os⟩
  rw [← eg4, sz3]
  clear e3 b3 e2 b2 e1 eg4 sz3 sz
  refine wpAny_bind ?_
  unfold Builtin.SmallTypes.ownedTupleIsFree
  refine wpAny_bind (wpAny_field e4 rfl (x := .none) rfl (wpAny_pure ?_))
  simp only [if_true]
  refine wpAny_bind (wpAny_rule (wpAny_bind (wpAny_field e4 rfl (x := old) rfl (wpAny_bind (wpAny_setField_rec e4 (by simp) fun g5 e5 b5 => ?_)))))
  replace b5 : Heap.SameBut e g4 g5 := b5
  replace e5 : IsEnum g5 e z (n + 1) (.ref hp.objs.size) := e5
  show wpAny _ _ (Builtin.SmallTypes.ownedTupleHandOut (.ref e) (.ref (hp.objs.size + 1)) >>= _) _ _ ⟨g5, g, d, tk + 1, os⟩
  refine wpAny_bind ?_
  unfold Builtin.SmallTypes.ownedTupleHandOut
  refine wpAny_bind (wpAny_setField_rec e5 (by simp) fun g6 e6 b6 => ?_)
  replace b6 : Heap.SameBut e g5 g6 := b6
  replace e6 : IsEnumOut g6 e z (n + 1) (.ref hp.objs.size) (hp.objs.size + 1) := e6
  refine wpAny_setField_rec e6 (by simp) fun g7 e7 b7 => ?_
  replace b7 : Heap.SameBut e g6 g7 := b7
  replace e7 : IsEnumOut g7 e z (n + 1) (.ref hp.objs.size) (hp.objs.size + 1) := e7
  have k7 : ∀ c o, c ≠ e → g4.get? c = some o → g7.get? c = some o := fun c o c1 q => b7.extBut _ _ c1 (b6.extBut _ _ c1 (b5.extBut _ _ c1 q))
  have k17 : ∀ c o, c ≠ e → g1.get? c = some o → g7.get? c = some o := fun c o c1 q => k7 c o c1 (k4 c o c1 q)
  refine wpAny_bind (wpAny_letGo (wpAny_pure ⟨_, rfl, wpAny_pure ?_⟩))
  exact hQ g7 own' f' a' b' w1 e7 (k17 _ _ out.1.symm zz) (k17 _ _ out.2.1.symm tI) (k17 _ _ out.2.2.1.symm tO) (it1.at fun o q => k17 _ o out.2.2.2.1.symm q) (it2.at fun o q => k17 _ o out.2.2.2.2.symm q)
    (k17 _ _ (Nat.ne_of_gt lte) tp) (k7 _ _ (Nat.ne_of_gt (Nat.lt_succ_of_lt lte)) t4) fun c o c1 c2 c3 c4 c5 q => k17 c o c1 (kp c o c2 c3 c4 c5 q)
theorem ez_end {e z TI TO i1 i2 l1 l2 : Addr} {n : Int} {k1 k2 : Nat} {xs ys : Array Value} {a b own old : Value} {f : Bool} {Q : Option Value → Shared → Prop} (calm : A.handled = none) (D : ZipApart z TI TO i1 i2 l1 l2)
    (he : IsEnum s.heap e z n old) (hz : IsZ s.heap z TI TO own f) (ho : own = .none ∨ ∃ T : Addr, own = rawInt T)
    (hTI : IsPair s.heap TI (.ref i1) (.ref i2)) (hTO : IsPair s.heap TO a b) (h1 : s.heap.IsListIter i1 l1 k1) (h2 : s.heap.IsListIter i2 l2 k2) (hl1 : s.heap.IsList l1 xs) (hl2 : s.heap.IsList l2 ys) (ends : xs[k1]? = none ∨ ys[k2]? = none)
    (hQ : ∀ h', (∀ c o, c ≠ z → c ≠ TO → c ≠ i1 → c ≠ i2 → s.heap.get? c = some o → h'.get? c = some o) → Q none { s with heap := h' }) : wpAny (model prog w) A (pyNext (.ref e)) Q E s := by
  have hT : s.TypeIs (.ref e) "enumerate" := ⟨_, he, rfl⟩
  unfold pyNext
  refine wpAny_bind (wpAny_attempt (wpAny_callSpecial?_slot (name := Str.ofString "__next__") hT F.slot_enumerate_next (wpAny_call_entry F.slot_enumerate_next hT F.entry_enumerate_next ?_ (F.args_enumerate_next_1 _))))
  show wpAny _ _ (field (.ref e) 2 >>= _) _ _ _
  refine wpAny_bind (wpAny_field he rfl (x := .ref z) rfl (wpAny_bind (nx_zip_end hz (zn_end (by simp [calm]) D hz ho hTI hTO h1 h2 hl1 hl2 ends fun h' c k q => ?_))))
  obtain ⟨o, q1, q2⟩ := q
  exact wpAny_bind (wpAny_isInstance (T := "StopIteration") (b := true) ⟨o, q1, q2⟩ isSubtype_stop (wpAny_pure (hQ _ k)))
end
/-- enumerate(zip(a, b), start=k0): the lists as they stand at each turn -/
def Iez (K : PySem.W.Frag) (k0 : Int) (a b : Addr) : It :=
  ⟨fun i H => ∃ (xs ys : List V) (x y : V), SqL K H a xs ∧ SqL K H b ys ∧ xs[i]? = some x ∧ ys[i]? = some y,
    fun i H v H' => ∃ T U x y, v = .ref T ∧ H T = none ∧ H U = none ∧ T ≠ U ∧ H' = upd (upd H T (.tup [.int (k0 + (i : Nat)), .ref U])) U (.tup [x, y]) ∧ (∀ xs, SqL K H a xs → xs[i]? = some x) ∧ ∀ ys, SqL K H b ys → ys[i]? = some y,
    fun i H => ∃ xs ys : List V, SqL K H a xs ∧ SqL K H b ys ∧ (xs.length ≤ i ∨ ys.length ≤ i)⟩
theorem turn_ez {P : Program} {w : World} {K : PySem.W.Frag} {elts : List Expr} {kk : Nat} {tpos : Pos} {k0 : Int} {a b e z TI TO i1 i2 : Addr} (D : ZipApart z TI TO i1 i2 a b) (out : e ≠ z ∧ e ≠ TI ∧ e ≠ TO ∧ e ≠ i1 ∧ e ≠ i2) :
    Turn P w K (.Tuple elts kk tpos) (Iez K k0 a b) [e, z, TI, TO, i1, i2] e (fun i h => (∃ old, IsEnum h e z (k0 + (i : Nat)) old) ∧ (∃ own f, (own = .none ∨ ∃ T : Addr, own = rawInt T) ∧ IsZ h z TI TO own f) ∧ IsPair h TI (.ref i1) (.ref i2) ∧ (∃ x y, IsPair h TO x y) ∧ h.IsListIter i1 a i ∧ h.IsListIter i2 b i) where
  mem := by simp
  obj := fun i h st c hc => by
    obtain ⟨⟨old, he⟩, ⟨own, f, _, hz⟩, hTI, ⟨x, y, hTO⟩, ⟨o1, e1, _, d1⟩, ⟨o2, e2, _, d2⟩⟩ := st
    have e' : c = e ∨ c = z ∨ c = TI ∨ c = TO ∨ c = i1 ∨ c = i2 := by simpa using hc
    rcases e' with q | q | q | q | q | q <;> rw [q]
    · exact ⟨_, he, fun v q => nomatch q⟩
    · exact ⟨_, hz, fun v q => nomatch q⟩
    · exact ⟨_, hTI, fun v q => nomatch q⟩
    · exact ⟨_, hTO, fun v q => nomatch q⟩
    · exact ⟨o1, e1, fun v q => by rw [d1] at q; cases q⟩
    · exact ⟨o2, e2, fun v q => by rw [d2] at q; cases q⟩
  keep := fun i h h' st k => by
    obtain ⟨⟨old, he⟩, ⟨own, f, ho, hz⟩, hTI, ⟨x, y, hTO⟩, h1, h2⟩ := st
    exact ⟨⟨old, k e (by simp) _ he⟩, ⟨own, f, ho, k z (by simp) _ hz⟩, k TI (by simp) _ hTI, ⟨x, y, k TO (by simp) _ hTO⟩, h1.at fun o q => k i1 (by simp) o q, h2.at fun o q => k i2 (by simp) o q⟩
  item := by
    intro X hP hw hK hc i pins s σ H E I hf st hg
    subst hP hw hK
    obtain ⟨⟨old, he⟩, ⟨own, f, ho, hz⟩, hTI, ⟨x0, y0, hTO⟩, h1, h2⟩ := st
    obtain ⟨xs, ys, x, y, qx, qy, hx, hy⟩ := hg
    obtain ⟨its, rv, p, _⟩ := I.list qx
    obtain ⟨its2, rv2, p2, _⟩ := I.list qy
    obtain ⟨u, hu, ru⟩ := rv.get hx
    obtain ⟨u2, hu2, ru2⟩ := rv2.get hy
    refine ez_item D he out hz ho hTI hTO h1 h2 p.isList p2.isList (x := u) (y := u2) (by simpa using hu) (by simpa using hu2) fun g own' f' a' b' w1 en zz tI tO it1 it2 tp tt kp => ?_
    refine ⟨_, rfl, wpAny_letOwnedTupleGo_enum (s := { s with heap := g, toks := s.toks + 1 }) en fun g2 en2 sb => ?_⟩
    have lts : ∀ c ∈ [e, z, TI, TO, i1, i2], c < s.heap.objs.size := fun c hc => by
      have e' : c = e ∨ c = z ∨ c = TI ∨ c = TO ∨ c = i1 ∨ c = i2 := by simpa using hc
      rcases e' with q | q | q | q | q | q <;> rw [q]
      · exact Heap.lt_size he
      · exact Heap.lt_size hz
      · exact Heap.lt_size hTI
      · exact Heap.lt_size hTO
      · obtain ⟨_, e1, _⟩ := h1
        exact Heap.lt_size e1
      · obtain ⟨_, e2, _⟩ := h2
        exact Heap.lt_size e2
    have lte := lts e (by simp)
    have up : ∀ c o, c ≠ e → g.get? c = some o → g2.get? c = some o := fun c o c1 q => (sb.2 c c1).trans q
    have tp2 := up _ _ (Nat.ne_of_gt lte) tp
    have tt2 := up _ _ (Nat.ne_of_gt (Nat.lt_succ_of_lt lte)) tt
    obtain ⟨U, eU⟩ : ∃ U, s.heap.objs.size = U := ⟨_, rfl⟩
    rw [eU] at tp2 tt2 lts lte en2
    have hU : H U = none := I.hok.fresh (Nat.le_of_eq eU)
    have hT : H (U + 1) = none := I.hok.fresh (by rw [eU]; exact Nat.le_succ _)
    have nTU : U + 1 ≠ U := Nat.succ_ne_self U
    obtain ⟨G, r1, r2⟩ := restrict g2 fun c => decide (c ≠ U)
    have gU : G.get? U = none := r2 _ (by simp)
    have gk : ∀ c o, c ≠ U → g2.get? c = some o → G.get? c = some o := fun c o n q => (r1 c (decide_eq_true n)).trans q
    have gb : ∀ c o, G.get? c = some o → g2.get? c = some o := fun c o q => by
      by_cases n : c = U
      · rw [n, gU] at q
        cases q
      · exact (r1 c (decide_eq_true n)).symm.trans q
    have n1 : ObjOk X.prog X.w (upd H (U + 1) (.tup [.int (k0 + (i : Nat)), .ref U])) G (U + 1) (.tup [.int (k0 + (i : Nat)), .ref U]) :=
      ⟨by show 2 ≤ sizeLine; decide, [.int (k0 + (i : Nat)) s.toks, .ref U], .cons ⟨_, rfl⟩ (.cons rfl .nil), ⟨_, gk _ _ nTU tt2, rfl, _, rfl⟩⟩
    have I1 : Inv X pins σ (upd H (U + 1) (.tup [.int (k0 + (i : Nat)), .ref U])) { s with heap := G, toks := s.toks + 1 } :=
      I.turnedNew (ch := [e, z, TI, TO, i1, i2]) (fun c o hb q => gk c o (by rw [← eU]; exact Nat.ne_of_lt (Heap.lt_size q)) (up c o (fun q' => hb (by simp [q'])) (kp c o (fun q' => hb (by simp [q'])) (fun q' => hb (by simp [q'])) (fun q' => hb (by simp [q'])) (fun q' => hb (by simp [q'])) (fun q' => hb (by simp [q'])) q))) hf (by rw [eU]; exact Nat.le_succ _) n1
    have hU2 : (upd H (U + 1) (.tup [.int (k0 + (i : Nat)), .ref U])) U = none := by rw [upd_ne nTU.symm]; exact hU
    have n2 : ObjOk X.prog X.w (upd (upd H (U + 1) (.tup [.int (k0 + (i : Nat)), .ref U])) U (.tup [x, y])) g2 U (.tup [x, y]) :=
      ⟨by show 2 ≤ sizeLine; decide, [u, u2], .cons ru (.cons ru2 .nil), ⟨_, tp2, rfl, _, rfl⟩⟩
    have I2 : Inv X pins σ (upd (upd H (U + 1) (.tup [.int (k0 + (i : Nat)), .ref U])) U (.tup [x, y])) { s with heap := g2, toks := s.toks + 1 } :=
      Inv.laidN (s := { s with heap := G, toks := s.toks + 1 }) (t' := s.toks + 1) I1 gb gU hU2 n2
    refine ⟨.ref (U + 1), _, I2, (by rw [eU]; rfl), ⟨U + 1, U, x, y, rfl, hT, hU, nTU, rfl, fun l hl => by rw [I.list_inj hl qx]; exact hx, fun l hl => by rw [I.list_inj hl qy]; exact hy⟩, ⟨⟨.ref U, ?_⟩, ⟨own', f', .inr w1, up _ _ out.1.symm zz⟩, up _ _ out.2.1.symm tI, ⟨a', b', up _ _ out.2.2.1.symm tO⟩, it1.at fun o q => up _ o out.2.2.2.1.symm q, it2.at fun o q => up _ o out.2.2.2.2.symm q⟩, fun c hcm => ?_⟩
    · have e1 : k0 + ((i + 1 : Nat) : Int) = k0 + (i : Nat) + 1 := by omega
      rw [e1]
      exact en2
    · have lt := lts c hcm
      rw [upd_ne (Nat.ne_of_lt lt), upd_ne (Nat.ne_of_lt (Nat.lt_succ_of_lt lt))]
      exact (hf c hcm).1
  done := by
    intro X hP hw hK hc i pins s σ H E I hf st hg
    subst hP hw hK
    obtain ⟨⟨old, he⟩, ⟨own, f, ho, hz⟩, hTI, ⟨x0, y0, hTO⟩, h1, h2⟩ := st
    obtain ⟨xs, ys, qx, qy, ends⟩ := hg
    obtain ⟨its, rv, p, _⟩ := I.list qx
    obtain ⟨its2, rv2, p2, _⟩ := I.list qy
    have l1 := rv.length
    have l2 := rv2.length
    have he' : its.toArray[i]? = none ∨ its2.toArray[i]? = none := ends.imp (fun q => by simp; omega) (fun q => by simp; omega)
    exact ez_end (I.ok.hd hc) D he hz ho hTI hTO h1 h2 p.isList p2.isList he' fun h' hk => ⟨rfl, I.turnedL (t' := s.toks) (ch := [e, z, TI, TO, i1, i2]) (fun c o hb q =>
      hk c o (fun q' => hb (by simp [q'])) (fun q' => hb (by simp [q'])) (fun q' => hb (by simp [q'])) (fun q' => hb (by simp [q'])) q) hf⟩
  self := fun A i s Q E st h => let ⟨⟨_, he⟩, _⟩ := st; wpAny_pyIter_enum he h
section
variable {M : Model} {A : Around} {E : Value → Shared → Prop} {s : Shared} {env : Env}
theorem cw_kw0 {pos : Pos} {T : String} {args : List (Bool × Sem Value)} {keywords : List (Option Str × Sem Value)} {Q : Value → Shared → Prop} (hplain : args.any (·.1) = false) (hkw : keywords.any (·.1.isNone) = false)
    (h : wpAny M A (evalArgs (.type T) true args keywords) (fun a s₁ => wpAny M A (call (.type T) a.pos a.kw) Q E s₁) E s) : wpAny M A (callWith pos (.type T) [] args keywords) Q E s := by
  unfold callWith ; refine wpAny_bind (wpAny_holding (wpAny_mono h (fun a s₁ h₁ => wpAny_bind (wpAny_standAt ?_)) fun _ _ x => x))
  simp only [hplain, hkw, Bool.or_false] ; refine wpAny_bind (wpAny_pure ?_)
  exact wpAny_bind (wpAny_mono h₁ (fun r s₂ hr => wpAny_bind (wpAny_holding (wpAny_point (wpAny_pure hr)))) fun _ _ q => q)
theorem cw_kw {pos : Pos} {T : String} {e : Expr} {rest : List Expr} {kws : List Keyword} {Q : Value → Shared → Prop}
    (h : wpAny M A (spliced (backTo pos (starEach (e :: rest) env))) (fun vs s₁ => wpAny M A (evalAll ((backToKw pos (keywordEach kws env)).map (·.2))) (fun ks s₂ => wpAny M A (call (.type T) vs (((backToKw pos (keywordEach kws env)).filterMap (·.1)).zip ks)) Q E s₂) E s₁) E s)
    (he : backTo pos (starEach (e :: rest) env) = (false, eval e env) :: backTo pos (starEach rest env) := by rfl) (hplain : (backTo pos (starEach (e :: rest) env)).any (·.1) = false := by rfl)
    (hall : (backToKw pos (keywordEach kws env)).all (·.1.isSome) = true := by rfl) (hkw : (backToKw pos (keywordEach kws env)).any (·.1.isNone) = false := by rfl) :
    wpAny M A (callWith pos (.type T) [] (backTo pos (starEach (e :: rest) env)) (backToKw pos (keywordEach kws env))) Q E s := by
  refine cw_kw0 hplain hkw ?_
  rw [he] at h ⊢
  exact evalArgs_kwB hall h
end
theorem meets_ez {z TI TO : Addr} (k : Int) (t : Tok) (hfit : Builtin.SmallTypes.fitsIndex k = true) :
    Meets (Builtin.«enumerate.__new__» ⟨[.type "enumerate", .ref z], [(Str.ofString "start", .int k t)]⟩) (fun _ R s => IsZip s.heap z TI TO .none ∧
      R (.ok (.ret (.ref s.heap.objs.size))) { s with heap := s.heap.push { cls := .type "enumerate", data := .fields #[.none, .bool false, .ref z, rawInt k, .none, .none] } }) :=
  .of_wp fun prog w A R s h => by
    obtain ⟨hp, g, d, tk, os⟩ := s
    obtain ⟨h1, h⟩ := h
    have c1 := sub_enumerate ; have c2 : (!Builtin.SmallTypes.fitsIndex k) = false := by rw [hfit]; rfl
    have q1 : ∀ {A' : Around} {E' : Value → Shared → Prop} {Q' : Value → Shared → Prop}, Q' (.ref z) ⟨hp, g, d, tk, os⟩ → wpAny (model prog w) A' (pyIter (.ref z)) Q' E' ⟨hp, g, d, tk, os⟩ := fun q => wpAny_pyIter_zip h1 q
    have d1 : (Str.ofString "start" == ("start" : Str)) = true := by decide +kernel
    have d2 : (Str.ofString "start" != ("start" : Str)) = false := by decide +kernel
    have d3 : (Str.ofString "start" != ("iterable" : Str)) = true := by decide +kernel
    have d4 : (("start" : Str) == Str.ofString "start") = true := by decide +kernel
    have d5 : (("iterable" : Str) == Str.ofString "start") = false := by decide +kernel
    wp_walk using q1
    refine wpAny_stack_any fun st => wpAny_pure ?_
    split
    · rename_i c _ _ _ _ _
      cases (c == Value.type "enumerate") <;> (wp_walk using q1 ; exact ⟨_, rfl, h⟩)
    · wp_walk using q1 ; exact ⟨_, rfl, h⟩
section
variable {prog : Program} {w : World} {A : Around} {E : Value → Shared → Prop} {s : Shared}
theorem call_ez {z TI TO : Addr} {k : Int} {t : Tok} {Q : Value → Shared → Prop} (hz : IsZip s.heap z TI TO .none) (k1 : -(2 ^ 63) ≤ k) (k2 : k < 2 ^ 63)
    (h : ∀ h', IsEnum h' s.heap.objs.size z k .none → (∀ b o, s.heap.get? b = some o → h'.get? b = some o) → Q (.ref s.heap.objs.size) { s with heap := h' }) :
    wpAny (model prog w) A (call (.type "enumerate") [.ref z] [(Str.ofString "start", .int k t)]) Q E s := by
  refine callType_newKw F.called_enumerate (by decide) (F.typeCall_enumerate_start _ _) (F.newCall_enumerate_start _ _) (fun obj => F.args_object_init_start obj _ _) F.entry_enumerate_new (meets_ez k t (fits_start k1 k2)) ⟨hz, ?_⟩
  have en : IsEnum (s.heap.push { cls := .type "enumerate", data := .fields #[.none, .bool false, .ref z, rawInt k, .none, .none] }) s.heap.objs.size z k .none := Heap.get?_push_size s.heap rfl
  exact ⟨⟨_, en, rfl⟩, h _ en fun b o q => Heap.get?_push_of_some _ q⟩
end
def iEz (K : PySem.W.Frag) (k0 : Int) (ta : TA) : TI := fun σ H R => ta σ H fun vs H1 => ∃ a b xs ys, vs = [.ref a, .ref b] ∧ SqL K H1 a xs ∧ SqL K H1 b ys ∧ R (Iez K k0 a b) H1
/-- for i, (x, y) in enumerate(zip(a, b), start=k) -/
theorem pi_ez {X : Cx} {e e2 : Expr} {ta : TA} {p p2 pos pos2 kpos tpos cpos : Pos} {elts : List Expr} {kk j : Nat} {k0 : Int} (hg : Gl X "enumerate") (hm : X.mg "enumerate" = none) (hg2 : Gl X "zip") (hm2 : X.mg "zip" = none) (ha : PA X [e, e2] ta) (k1 : -(2 ^ 63) ≤ k0) (k2 : k0 < 2 ^ 63)
    (hs : starEach [e, e2] X.env = (false, eval e X.env) :: starEach [e2] X.env := by rfl) (hpl : (backTo pos2 (starEach [e2] X.env)).any (·.1) = false := by rfl) :
    PI X (.Tuple elts kk tpos) (.Call (.Name "enumerate" p) [.Call (.Name "zip" p2) [e, e2] [] pos2] [⟨some "start", .Constant (.int k0) j cpos, kpos⟩] pos) (iEz X.K k0 ta) := by
  refine ⟨fun pins s σ H R I h => ?_⟩
  refine wpAny_Call_Name_kw (ld_blt I hg hm boot_enumerate (cw_kw (args_cons ?_)))
  refine Call_ (ld_blt I hg2 hm2 PyProof.Rows.boot_zip (PyProof.Rows.callWith_type1 (thn (ha.run pos2 pins s σ H _ I h) fun us s1 ⟨vs, H1, I1, r1, q1⟩ => ?_) hs hpl))
  obtain ⟨a, b, xs, ys, ex, qx, qy, q⟩ := q1
  subst ex
  obtain ⟨u1, u2, eus, rA, rB⟩ := Vals.two r1
  subst eus
  cases rA
  cases rB
  obtain ⟨its, rv, p1, _⟩ := I1.list qx
  obtain ⟨its2, rv2, p2', _⟩ := I1.list qy
  have la : a < s1.heap.objs.size := p1.lt
  have lb : b < s1.heap.objs.size := p2'.lt
  refine call_zip_2 p1.isList p2'.isList fun h' hz hTI hTO h1 h2 hsz hk => args_nil (PyProof.Rows.kwAll_cons (wpAny_Constant_int (PyProof.Rows.kwAll_nil ?_)))
  refine call_ez hz k1 k2 fun g en k3 => wpAny_pyIter_enum en ?_
  have D := PySem.W.ktu_apart s1.heap.objs.size a b la lb
  have I2 : Inv X pins σ H1 { s1 with heap := g, toks := s1.toks + 1 } := I1.kept (t' := s1.toks + 1) fun c o q => k3 _ _ (hk c o q)
  have ee : h'.objs.size = s1.heap.objs.size + 5 := hsz
  have ne : ∀ m, m < 5 → h'.objs.size ≠ s1.heap.objs.size + m := fun m hm z => by
    rw [ee] at z
    exact absurd (Nat.add_left_cancel z) (Nat.ne_of_gt hm)
  have up : ∀ c o, h'.get? c = some o → g.get? c = some o := fun c o q => k3 _ _ q
  refine ⟨h'.objs.size, [h'.objs.size, s1.heap.objs.size + 4, s1.heap.objs.size + 2, s1.heap.objs.size + 3, s1.heap.objs.size, s1.heap.objs.size + 1], _, _, H1, rfl, I2, turn_ez (k0 := k0) D ⟨ne 4 (by decide), ne 2 (by decide), ne 3 (by decide), ne 0 (by decide), ne 1 (by decide)⟩,
    ⟨⟨.none, ?_⟩, ⟨.none, false, .inl rfl, up _ _ hz⟩, up _ _ hTI, ⟨_, _, up _ _ hTO⟩, h1.at fun o q => up _ o q, h2.at fun o q => up _ o q⟩, fun c hcm => ?_, q⟩
  · have e0 : k0 + ((0 : Nat) : Int) = k0 := Int.add_zero k0
    rw [e0]
    exact en
  · have hle : s1.heap.objs.size ≤ c := by
      have e' : c = h'.objs.size ∨ c = s1.heap.objs.size + 4 ∨ c = s1.heap.objs.size + 2 ∨ c = s1.heap.objs.size + 3 ∨ c = s1.heap.objs.size ∨ c = s1.heap.objs.size + 1 := by simpa using hcm
      rcases e' with z | z | z | z | z | z <;> rw [z]
      · rw [ee]
        exact Nat.le_add_right _ _
      · exact Nat.le_add_right _ _
      · exact Nat.le_add_right _ _
      · exact Nat.le_add_right _ _
      · exact Nat.le_refl _
      · exact Nat.le_add_right _ _
    exact I1.fpOk hle (I1.hok.fresh hle)
theorem walk_ez {K : PySem.W.Frag} {k0 : Int} {a b : Addr} {xs ys : List V} : Walk (Iez K k0 a b) (min xs.length ys.length) (fun H => SqL K H a xs ∧ SqL K H b ys)
    (fun i H v H' => ∃ T U x y, v = .ref T ∧ H T = none ∧ H U = none ∧ T ≠ U ∧ H' = upd (upd H T (.tup [.int (k0 + (i : Nat)), .ref U])) U (.tup [x, y]) ∧ xs[i]? = some x ∧ ys[i]? = some y) := by
  refine ⟨fun i _ hi q => ⟨xs, ys, xs[i]'(by omega), ys[i]'(by omega), q.1, q.2, by simp, by simp⟩, fun _ q => ⟨xs, ys, q.1, q.2, by omega⟩, fun i H v H' _ q y => ?_⟩
  obtain ⟨T, U, x, z, h1, h2, h3, h4, h5, h6, h7⟩ := y
  exact ⟨T, U, x, z, h1, h2, h3, h4, h5, h6 xs q.1, h7 ys q.2⟩
end DL

set_option Elab.async false
set_option maxRecDepth 100000
namespace DL
open PySem L2
def top (i : Nat) : Stmt := PySem.Challenge.pw_drawerlocks_k29_errors_are_apart.main.body.getD i (.Pass ⟨0, 0, 0, 0⟩)
abbrev s_BadBars__init_ : Stmt := inClass (top 5) 0
abbrev s_BadPairs__init_ : Stmt := inClass (top 11) 0
abbrev s_BadNumber__init_ : Stmt := inClass (top 12) 0
abbrev s_BadTries__init_ : Stmt := inClass (top 13) 0
abbrev s_TooMany__init_ : Stmt := inClass (top 15) 0
abbrev s_InvalidText__init_ : Stmt := inClass (top 17) 0
abbrev sIsInt : Stmt := top 24
abbrev sIsCount : Stmt := top 25
abbrev sIsDrawer : Stmt := top 26
abbrev s_is_set : Stmt := top 27
abbrev s_is_pair : Stmt := top 28
abbrev sIsBar : Stmt := top 29
abbrev s_is_standing : Stmt := top 31
abbrev s_is_pattern : Stmt := top 32
abbrev s_is_try : Stmt := top 33
abbrev s_has_signs : Stmt := top 34
abbrev s_first_standing : Stmt := top 35
abbrev s_hinders : Stmt := top 37
abbrev s_moved : Stmt := top 38
abbrev sInit : Stmt := inClass (top 40) 0
abbrev sDrawers : Stmt := inClass (top 40) 1
abbrev sBars : Stmt := inClass (top 40) 2
abbrev s_can : Stmt := top 41
abbrev s_behind : Stmt := top 42
abbrev s_goes : Stmt := top 44
abbrev s_bars_against : Stmt := top 45
abbrev sCheckDrawers : Stmt := top 46
abbrev sCheckBars : Stmt := top 47
abbrev s_check_cabinet : Stmt := top 48
abbrev s_check_standing : Stmt := top 49
abbrev s_check_pattern : Stmt := top 50
abbrev s_check_drawer : Stmt := top 51
abbrev s_check_few_drawers : Stmt := top 52
abbrev s_check_number : Stmt := top 53
abbrev s_reached : Stmt := top 55
abbrev s_row_to : Stmt := top 56
abbrev s_count_rows : Stmt := top 63
abbrev s_Desk__init_ : Stmt := inClass (top 67) 0
abbrev s_Desk_pull : Stmt := inClass (top 67) 5
abbrev s_paper : Stmt := top 69
abbrev s_check_set : Stmt := top 72
abbrev s_guards : Stmt := top 76
abbrev s_check_pairs : Stmt := top 79
abbrev s_alike : Stmt := top 81
abbrev s_first_apart : Stmt := top 82
abbrev s_read : Stmt := top 84
abbrev s_words_of : Stmt := top 85
abbrev s_read_drawers : Stmt := top 86
abbrev s_check_words : Stmt := top 88
abbrev s_sure : Stmt := top 91
abbrev s_check_tries : Stmt := top 95
abbrev sTaken : Stmt := top 97
abbrev s__law_call : Stmt := top 98
abbrev s__law_early : Stmt := top 99
abbrev s__law_first : Stmt := top 100
abbrev s__law_second : Stmt := top 101
abbrev s_law : Stmt := top 102
end DL

set_option Elab.async false
set_option maxRecDepth 100000
namespace DL
open PySem L2
/-! ### the facts of the top -/
structure Bt (mg : Str → Option Value) : Prop where
  isinstance : mg "isinstance" = none
  int : mg "int" = none
  bool : mg "bool" = none
  tuple : mg "tuple" = none
  len : mg "len" = none
  enumerate : mg "enumerate" = none
  range : mg "range" = none
  sorted : mg "sorted" = none
/-! ### is_integer -/
structure spIsInt (K : PySem.W.Frag) (vs : List V) (H : Hp) (Q : VK) (_ : XK) : Prop where
  h : ∃ (v : V) (t : Value) (b1 b2 : Bool), vs = [v] ∧ TyX K H v t ∧ PySem.W.kitOne K t (.type "int") = some b1 ∧ PySem.W.kitOne K t (.type "bool") = some b2 ∧ Q (.bl (b1 && !b2)) H
section
variable {P : Program} {w : World} {K : PySem.W.Frag} {mg : Str → Option Value} {base : Heap}
theorem scIsInt : FnScope ["value"] ["value"] (defScope sIsInt) := ⟨rfl, rfl, rfl, by decide +kernel, rfl, by decide +kernel, by decide +kernel⟩
theorem ok_isInt {f : Addr} {fd : FuncData} (F : Fun K "is_integer" "is_integer" sIsInt f fd) (T : Bt mg) : FnOk P w K mg base CX0 1 f fd ["value"] (spIsInt K) := by
  refine F.ok scIsInt (fun vs H Q E h => ?_) (fun cdv A outer s H vs Q E hr h => ?_)
  · obtain ⟨v, t, b1, b2, rfl, _⟩ := h.h
    rfl
  · obtain ⟨v, t, b1, b2, rfl, ty, k1, k2, k⟩ := h.h
    refine ⟨_, pss_one (ps_ret (pe_and (pe_callB call_isi (by rfl) T.isinstance (by decide +kernel) (pa_cons (pv 0) (pa_cons (pe_bltn (v := .ty "int") (by rfl) T.int (by decide +kernel) rfl) pa_nil)))
      (pe_one (pe_not (pe_callB call_isi (by rfl) T.isinstance (by decide +kernel) (pa_cons (pv 0) (pa_cons (pe_bltn (v := .ty "bool") (by rfl) T.bool (by decide +kernel) rfl) pa_nil))))))), ?_⟩
    refine ⟨_, rfl, _, _, t, _, b1, rfl, .ty "int", ty, k1, b1, rfl, ?_⟩
    cases b1 with
    | false => exact iteF k
    | true => exact iteT ⟨_, rfl, _, _, t, _, b2, rfl, .ty "bool", ty, k2, b2, rfl, k⟩
/-! ### is_drawer_count(value), is_drawer(drawers, value) -/
/-- an int as value: whether it is one; any other known thing: False -/
structure spIsCount (K : PySem.W.Frag) (vs : List V) (H : Hp) (Q : VK) (_ : XK) : Prop where
  h : (∃ n : Int, vs = [.int n] ∧ Q (.bl (decide (1 ≤ n) && decide (n ≤ 7))) H) ∨
  ∃ (v : V) (t : Value) (b1 b2 : Bool), vs = [v] ∧ TyX K H v t ∧ PySem.W.kitOne K t (.type "int") = some b1 ∧ PySem.W.kitOne K t (.type "bool") = some b2 ∧ (b1 && !b2) = false ∧ Q (.bl false) H
theorem scIsCount : FnScope ["value"] ["value"] (defScope sIsCount) := ⟨rfl, rfl, rfl, by decide +kernel, rfl, by decide +kernel, by decide +kernel⟩
theorem ok_isCount {f f1 : Addr} {fd fd1 : FuncData} (F : Fun K "is_drawer_count" "is_drawer_count" sIsCount f fd) (_T : Bt mg) (G : FnOk P w K mg base CX0 1 f1 fd1 ["value"] (spIsInt K)) (g1 : mg "is_integer" = some (.ref f1)) (k1 : PySem.W.keepIn K (.ref f1) = true) (b1 : Binds K fd1 ["value"] [])
    (gM : ∃ t, mg "MOST_DRAWERS" = some (.int 7 t)) : FnOk P w K mg base CX0 2 f fd ["value"] (spIsCount K) := by
  refine F.ok scIsCount (fun vs H Q E h => ?_) (fun cdv A outer s H vs Q E hr h => ?_)
  · rcases h.h with ⟨n, rfl, _⟩ | ⟨v, t, b1, b2, rfl, _⟩ <;> rfl
  · obtain ⟨tM, gM⟩ := gM
    refine ⟨_, pss_one (ps_ret (pe_and (pe_call G (hr.mono (by decide)) rfl g1 k1 b1 .nil pass0 (pa_cons (pv 0) pa_nil)) (pe_one (pe_chain op_le op_le pe_int (pv 0) (pe_glob (v := .int 7) rfl gM ⟨_, rfl⟩))))), ?_⟩
    rcases h.h with ⟨n, rfl, k⟩ | ⟨v, t, c1, c2, rfl, ty, e1, e2, e3, k⟩
    · refine ⟨_, rfl, ⟨.int n, .type "int", true, false, rfl, .base (.int n), kit_ty (by decide +kernel), kit_ty (by decide +kernel), true, rfl, iteT ?_⟩⟩
      refine ⟨_, rfl, _, _, rfl, rfl, _, rfl, ?_⟩
      by_cases h1 : 1 ≤ n
      · rw [decide_eq_true h1] at k ⊢
        exact iteT ⟨_, _, rfl, rfl, k⟩
      · rw [decide_eq_false h1] at k ⊢
        exact iteF k
    · refine ⟨_, rfl, ⟨v, t, c1, c2, rfl, ty, e1, e2, _, rfl, ?_⟩⟩
      rw [e3]
      exact iteF k
structure spIsDrawer (K : PySem.W.Frag) (vs : List V) (H : Hp) (Q : VK) (_ : XK) : Prop where
  h : ∃ n : Int, (∃ i : Int, vs = [.int n, .int i] ∧ Q (.bl (decide (0 ≤ i) && decide (i < n))) H) ∨
  ∃ (v : V) (t : Value) (b1 b2 : Bool), vs = [.int n, v] ∧ TyX K H v t ∧ PySem.W.kitOne K t (.type "int") = some b1 ∧ PySem.W.kitOne K t (.type "bool") = some b2 ∧ (b1 && !b2) = false ∧ Q (.bl false) H
theorem scIsDrawer : FnScope ["drawers", "value"] ["drawers", "value"] (defScope sIsDrawer) := ⟨rfl, rfl, rfl, by decide +kernel, rfl, by decide +kernel, by decide +kernel⟩
theorem ok_isDrawer {f f1 : Addr} {fd fd1 : FuncData} (F : Fun K "is_drawer" "is_drawer" sIsDrawer f fd) (_T : Bt mg) (G : FnOk P w K mg base CX0 1 f1 fd1 ["value"] (spIsInt K)) (g1 : mg "is_integer" = some (.ref f1)) (k1 : PySem.W.keepIn K (.ref f1) = true) (b1 : Binds K fd1 ["value"] []) :
    FnOk P w K mg base CX0 2 f fd ["drawers", "value"] (spIsDrawer K) := by
  refine F.ok scIsDrawer (fun vs H Q E h => ?_) (fun cdv A outer s H vs Q E hr h => ?_)
  · rcases h.h with ⟨n, ⟨i, rfl, _⟩ | ⟨v, t, b1, b2, rfl, _⟩⟩ <;> rfl
  · refine ⟨_, pss_one (ps_ret (pe_and (pe_call G (hr.mono (by decide)) rfl g1 k1 b1 .nil pass0 (pa_cons (pv 1) pa_nil)) (pe_one (pe_chain op_le op_lt pe_int (pv 1) (pv 0))))), ?_⟩
    rcases h.h with ⟨n, ⟨i, rfl, k⟩ | ⟨v, t, c1, c2, rfl, ty, e1, e2, e3, k⟩⟩
    · refine ⟨_, rfl, ⟨.int i, .type "int", true, false, rfl, .base (.int i), kit_ty (by decide +kernel), kit_ty (by decide +kernel), true, rfl, iteT ?_⟩⟩
      refine ⟨_, rfl, _, _, rfl, rfl, _, rfl, ?_⟩
      by_cases h1 : 0 ≤ i
      · rw [decide_eq_true h1] at k ⊢
        exact iteT ⟨_, rfl, _, _, rfl, rfl, k⟩
      · rw [decide_eq_false h1] at k ⊢
        exact iteF k
    · refine ⟨_, rfl, ⟨v, t, c1, c2, rfl, ty, e1, e2, _, rfl, ?_⟩⟩
      rw [e3]
      exact iteF k
end
end DL

set_option Elab.async false
set_option maxRecDepth 100000
namespace DL
open PySem L2
/-! ### is_bar -/
def scV : V → Bool
  | .non => true | .bl _ => true | .int _ => true | .str _ => true | _ => false
def isD (n : Int) : V → Bool
  | .int i => decide (0 ≤ i) && decide (i < n)
  | _ => false
def inW : V → Bool
  | .str z => decide (z = "open") || decide (z = "shut")
  | _ => false
def barB (n : Int) (x0 x1 x2 x3 : V) : Bool := isD n x0 && (isD n x2 && (!decide (x0 = x2) && (inW x1 && inW x3)))
theorem inW_in (x : V) (h : scV x = true) : inV x [.str "open", .str "shut"] = inW x ∧ flatV x = true := by
  have z1 : ∀ z : Str, ((("open" : Str) == z) || ((("shut" : Str) == z) || false)) = (decide (z = "open") || decide (z = "shut")) := fun z => by
    rw [beq_dec, beq_dec, Bool.or_false]
    congr 1
    · exact decide_eq_decide.mpr ⟨Eq.symm, Eq.symm⟩
    · exact decide_eq_decide.mpr ⟨Eq.symm, Eq.symm⟩
  cases x with
  | str z => exact ⟨z1 z, rfl⟩
  | non => exact ⟨rfl, rfl⟩
  | bl b => exact ⟨rfl, rfl⟩
  | int i => exact ⟨rfl, rfl⟩
  | _ => cases h
theorem spIsDrawer_sc {K : PySem.W.Frag} {n : Int} {x : V} {H : Hp} {Q : VK} {E : XK} (hx : scV x = true) (k : Q (.bl (isD n x)) H) : spIsDrawer K [.int n, x] H Q E := by
  cases x with
  | int i => exact ⟨⟨n, .inl ⟨i, rfl, k⟩⟩⟩
  | non => exact ⟨⟨n, .inr ⟨.non, .type "NoneType", false, false, rfl, .base .non, kit_ty (by decide +kernel), kit_ty (by decide +kernel), rfl, k⟩⟩⟩
  | bl b => exact ⟨⟨n, .inr ⟨.bl b, .type "bool", true, true, rfl, .base (.bl b), kit_ty (by decide +kernel), kit_ty (by decide +kernel), rfl, k⟩⟩⟩
  | str z => exact ⟨⟨n, .inr ⟨.str z, .type "str", false, false, rfl, .base (.str z), kit_ty (by decide +kernel), kit_ty (by decide +kernel), rfl, k⟩⟩⟩
  | _ => cases hx
theorem tyT {K : PySem.W.Frag} {H : Hp} {a : Addr} {xs : List V} (h : SqT K H a xs) : TyX K H (.ref a) (.type "tuple") := by
  rcases h with (h | ⟨o, h⟩) | ⟨o, its, n, h1, h2, _⟩
  · exact .base (.tup h)
  · exact .fTuple h
  · exact .kTuple h1 h2
structure spIsBar (K : PySem.W.Frag) (vs : List V) (H : Hp) (Q : VK) (_ : XK) : Prop where
  h : ∃ n : Int, (∃ (v : V) (t : Value), vs = [.int n, v] ∧ TyX K H v t ∧ PySem.W.kitOne K t (.type "tuple") = some false ∧ Q (.bl false) H) ∨
  (∃ (a : Addr) (xs : List V), vs = [.int n, .ref a] ∧ SqT K H a xs ∧ xs.length ≠ 4 ∧ Q (.bl false) H) ∨
  ∃ (a : Addr) (x0 x1 x2 x3 : V), vs = [.int n, .ref a] ∧ SqT K H a [x0, x1, x2, x3] ∧ scV x0 = true ∧ scV x1 = true ∧ scV x2 = true ∧ scV x3 = true ∧ Q (.bl (barB n x0 x1 x2 x3)) H
section
variable {P : Program} {w : World} {K : PySem.W.Frag} {mg : Str → Option Value} {base : Heap}
theorem scIsBar : FnScope ["drawers", "value", "drawer", "way", "other", "stand"] ["drawers", "value"] (defScope sIsBar) := ⟨rfl, rfl, rfl, by decide +kernel, rfl, by decide +kernel, by decide +kernel⟩
theorem ok_isBar {f f1 : Addr} {fd fd1 : FuncData} (F : Fun K "is_bar" "is_bar" sIsBar f fd) (T : Bt mg) (G : FnOk P w K mg base CX0 2 f1 fd1 ["drawers", "value"] (spIsDrawer K)) (g1 : mg "is_drawer" = some (.ref f1)) (k1 : PySem.W.keepIn K (.ref f1) = true) (b1 : Binds K fd1 ["drawers", "value"] [])
    (gW : ∃ aW, mg "WORDS" = some (.ref aW) ∧ ∀ H, SqT K H aW [.str "open", .str "shut"]) : FnOk P w K mg base CX0 3 f fd ["drawers", "value"] (spIsBar K) := by
  refine F.ok scIsBar (fun vs H Q E h => ?_) (fun cdv A outer s H vs Q E hr h => ?_)
  · rcases h.h with ⟨n, ⟨v, t, rfl, _⟩ | ⟨a, xs, rfl, _⟩ | ⟨a, x0, x1, x2, x3, rfl, _⟩⟩ <;> rfl
  · obtain ⟨aW, gW, hW⟩ := gW
    refine ⟨_, pss_cons (ps_if (PW.pt (pw_or (pt_not (pt_val (pe_callB call_isi (by rfl) T.isinstance (by decide +kernel) (pa_cons (pv 1) (pa_cons (pe_bltn (v := .ty "tuple") (by rfl) T.tuple (by decide +kernel) rfl) pa_nil)))))
        (pw_or1 (pt_cmpR op_ne (pe_callB call_len_seq (by rfl) T.len PySem.boot_len (pa_cons (pv 1) pa_nil)) pe_int (nomark _))))) (pss_one (ps_ret pe_bl)) pss_nil)
      (pss_cons (ps_asg (pv 1) (pg_tup (by rfl) (pgs_cons (pg_name (i := 2) scIsBar.nd rfl (.inl rfl)) (pgs_cons (pg_name (i := 3) scIsBar.nd rfl (.inl rfl)) (pgs_cons (pg_name (i := 4) scIsBar.nd rfl (.inl rfl)) (pgs_cons (pg_name (i := 5) scIsBar.nd rfl (.inl rfl)) pgs_nil))))))
      (pss_cons (ps_if (PW.pt (pw_or (pt_not (pt_val (pe_call G (hr.mono (by decide)) rfl g1 k1 b1 .nil pass0 (pa_cons (pv 0) (pa_cons (pv 2) pa_nil))))) (pw_or1 (pt_not (pt_val (pe_call G (hr.mono (by decide)) rfl g1 k1 b1 .nil pass0 (pa_cons (pv 0) (pa_cons (pv 4) pa_nil)))))))) (pss_one (ps_ret pe_bl)) pss_nil)
      (pss_one (ps_ret (pe_and (pe_cmpR op_ne (pv 2) (pv 4) (nomark _)) (pe_and (pe_cmpR op_in_seq (pv 3) (pe_glob (v := .ref aW) rfl gW rfl) (by rfl)) (pe_one (pe_cmpR op_in_seq (pv 5) (pe_glob (v := .ref aW) rfl gW rfl) (by rfl))))))))), ?_⟩
    rcases h.h with ⟨n, ⟨v, t, rfl, ty, e, k⟩ | ⟨a, xs, rfl, hq, hl, k⟩ | ⟨a, x0, x1, x2, x3, rfl, hq, c0, c1, c2, c3, k⟩⟩
    · exact ⟨_, rfl, _, _, t, _, false, rfl, .ty "tuple", ty, e, _, rfl, iteT (iteT k)⟩
    · refine ⟨_, rfl, _, _, _, _, true, rfl, .ty "tuple", tyT hq, kit_ty (by decide +kernel), _, rfl, iteF ?_⟩
      refine ⟨_, rfl, a, xs, rfl, .inr hq, rfl, _, rfl, ?_⟩
      refine ite2 (fun _ => k) (fun z => ?_)
      exact absurd (show (.int (xs.length : Int) : V) = .int 4 by simpa using z) (fun q => hl (by injection q with q; omega))
    · refine ⟨_, rfl, _, _, _, _, true, rfl, .ty "tuple", tyT hq, kit_ty (by decide +kernel), _, rfl, iteF ?_⟩
      refine ⟨_, rfl, a, _, rfl, .inr hq, rfl, _, rfl, iteF ?_⟩
      refine ⟨_, rfl, a, _, rfl, hq, rfl, x0, _, rfl, x1, _, rfl, x2, _, rfl, x3, _, rfl, rfl, ?_⟩
      refine ⟨_, rfl, _, rfl, ?_⟩
      refine spIsDrawer_sc c0 ⟨_, rfl, ?_⟩
      unfold barB at k
      cases d0 : isD n x0 with
      | false => rw [d0] at k; exact iteT (iteT k)
      | true =>
        rw [d0] at k
        refine iteF ⟨_, rfl, _, rfl, ?_⟩
        refine spIsDrawer_sc c2 ⟨_, rfl, ?_⟩
        cases d2 : isD n x2 with
        | false => rw [d2] at k; exact iteT k
        | true =>
          rw [d2] at k
          refine iteF ?_
          obtain ⟨i0, rfl⟩ : ∃ i, x0 = .int i := by cases x0 <;> first | exact ⟨_, rfl⟩ | cases d0
          obtain ⟨i2, rfl⟩ : ∃ i, x2 = .int i := by cases x2 <;> first | exact ⟨_, rfl⟩ | cases d2
          refine ⟨_, rfl, _, rfl, rfl, _, rfl, ?_⟩
          have k' : Q (.bl (!decide ((.int i0 : V) = .int i2) && (inW x1 && inW x3))) H := k
          cases e : decide ((.int i0 : V) = .int i2) with
          | true => rw [e] at k'; exact iteF k'
          | false =>
            rw [e] at k'
            refine iteT ⟨_, rfl, aW, _, rfl, .inr (hW H), (inW_in x1 c1).2, rfl, _, rfl, ?_⟩
            show if inV x1 _ = true then _ else _
            rw [(inW_in x1 c1).1]
            have k'' : Q (.bl (inW x1 && inW x3)) H := k'
            cases e1 : inW x1 with
            | false => rw [e1] at k''; exact iteF k''
            | true =>
              rw [e1] at k''
              refine iteT ⟨_, rfl, aW, _, rfl, .inr (hW H), (inW_in x3 c3).2, rfl, ?_⟩
              show Q (.bl (inV x3 _)) H
              rw [(inW_in x3 c3).1]
              exact k''
end
end DL

set_option Elab.async false
set_option maxRecDepth 100000
namespace DL
open PySem L2
/-! ### bars of the heap -/
structure BarsAt (H : Hp) (t : Addr) (ks : List (Addr × Bar)) : Prop where
  tu : H t = some (.tup (ks.map fun k => V.ref k.1))
  el : ∀ k ∈ ks, H k.1 = some (.tup k.2.vs)
theorem BarsAt.same {H H' : Hp} {t : Addr} {ks : List (Addr × Bar)} (B : BarsAt H t ks) (s : Same H H') : BarsAt H' t ks := ⟨s _ _ B.tu, fun k hk => s _ _ (B.el k hk)⟩
def Bar.ok (n : Int) (b : Bar) : Prop := 0 ≤ b.d ∧ b.d < n ∧ 0 ≤ b.o ∧ b.o < n ∧ b.d ≠ b.o
theorem Bar.ok.low {n : Int} {b : Bar} (h : b.ok n) (hn : n ≤ 7) : b.low := by
  obtain ⟨h1, h2, h3, h4, _⟩ := h
  exact ⟨h1, by omega, h3, by omega⟩
structure OkBars (n : Int) (bs : List Bar) : Prop where
  ok : ∀ b ∈ bs, b.ok n
  asc : bs.Pairwise fun x y => x.code < y.code
theorem inW_wd (b : Bool) : inW (.str (wd b)) = true := by revert b; decide +kernel
theorem barB_ok {n : Int} {b : Bar} (h : b.ok n) : barB n (.int b.d) (.str (wd b.w)) (.int b.o) (.str (wd b.t)) = true := by
  obtain ⟨h1, h2, h3, h4, h5⟩ := h
  unfold barB
  rw [inW_wd, inW_wd]
  show ((decide (0 ≤ b.d) && decide (b.d < n)) && ((decide (0 ≤ b.o) && decide (b.o < n)) && (!decide ((.int b.d : V) = .int b.o) && true))) = true
  have e : decide ((.int b.d : V) = .int b.o) = false := decide_eq_false fun q => h5 (by injection q)
  rw [decide_eq_true h1, decide_eq_true h2, decide_eq_true h3, decide_eq_true h4, e]
  rfl
theorem spIsBar_ok {K : PySem.W.Frag} {n : Int} {a : Addr} {b : Bar} {H : Hp} {Q : VK} {E : XK} (h : b.ok n) (ha : SqT K H a b.vs) (k : Q (.bl true) H) : spIsBar K [.int n, .ref a] H Q E :=
  ⟨⟨n, .inr (.inr ⟨a, _, _, _, _, rfl, ha, rfl, rfl, rfl, rfl, by rw [barB_ok h]; exact k⟩)⟩⟩
theorem SqT.of' {K : PySem.W.Frag} {H : Hp} {a : Addr} {xs : List V} (h : H a = some (.tup xs)) : SqT K H a xs := .inl (.inl h)
theorem same_upd {H : Hp} {p : Addr} {o : HO} (h : H p = none) : Same H (upd H p o) := fun b u e => by rw [upd_ne (ne_of_none e h)]; exact e
theorem at_prev {α : Type} {xs : List α} {i : Nat} {v : α} (h0 : 0 < i) (h : xs[i - 1]? = some v) : atI xs ((i : Int) - 1) = some v := by
  have e : (i : Int) - 1 = ((i - 1 : Nat) : Int) := by omega
  rw [e]
  exact atI_nat h
theorem pw_prev {bs : List Bar} (h : bs.Pairwise fun x y => x.code < y.code) {i : Nat} (h0 : 0 < i) {x y : Bar} (hx : bs[i - 1]? = some x) (hy : bs[i]? = some y) : x.code < y.code := by
  obtain ⟨l1, e1⟩ := List.getElem?_eq_some_iff.mp hx
  obtain ⟨l2, e2⟩ := List.getElem?_eq_some_iff.mp hy
  have := List.pairwise_iff_getElem.mp h (i - 1) i l1 l2 (by omega)
  rw [e1, e2] at this
  exact this
theorem not_leq {n : Int} {x y : Bar} (hn : n ≤ 7) (hx : x.ok n) (hy : y.ok n) (h : x.code < y.code) : y.leq x = false := by
  rw [Bar.leq_code (hy.low hn) (hx.low hn)]
  exact decide_eq_false (by omega)
/-! ### check_drawers, check_bars, __init__ of what is right -/
structure spCheckDrawers (vs : List V) (H : Hp) (Q : VK) (_ : XK) : Prop where
  h : ∃ n : Int, vs = [.int n] ∧ 1 ≤ n ∧ n ≤ 7 ∧ Q .non H
structure spCheckBars (vs : List V) (H : Hp) (Q : VK) (_ : XK) : Prop where
  h : ∃ (n : Int) (t : Addr) (ks : List (Addr × Bar)), vs = [.int n, .ref t] ∧ n ≤ 7 ∧ BarsAt H t ks ∧ OkBars n (ks.map (·.2)) ∧ ∀ H', Same H H' → Q .non H'
theorem kd_ : ¬ (("_drawers" : Str) = "_bars") := by decide +kernel
def cfl (n : Int) (t : Addr) : List (Str × V) := putF "_bars" (.ref t) (putF "_drawers" (.int n) [])
theorem cfl_d (n : Int) (t : Addr) : (cfl n t).lookup ("_drawers" : Str) = some (.int n) := by
  unfold cfl
  rw [lookup_putF, if_neg kd_, lookup_putF, if_pos rfl]
theorem cfl_b (n : Int) (t : Addr) : (cfl n t).lookup ("_bars" : Str) = some (.ref t) := by
  unfold cfl
  rw [lookup_putF, if_pos rfl]
/-- a Cabinet stands at c -/
def CabAt (C : Addr) (H : Hp) (c : Addr) (n : Int) (t : Addr) : Prop := ∃ dx, H c = some (.ins C dx (cfl n t))
structure spInit (C : Addr) (vs : List V) (H : Hp) (Q : VK) (_ : XK) : Prop where
  h : ∃ (p dx : Addr) (n : Int) (t : Addr) (ks : List (Addr × Bar)), vs = [.ref p, .int n, .ref t] ∧ H p = some (.ins C dx []) ∧ 1 ≤ n ∧ n ≤ 7 ∧ BarsAt H t ks ∧ OkBars n (ks.map (·.2)) ∧
    ∀ H', H' p = some (.ins C dx (cfl n t)) → (∀ b o, b ≠ p → H b = some o → H' b = some o) → Q .non H'
/-- the class -/
structure CabT (K : PySem.W.Frag) (mg : Str → Option Value) (C : Addr) : Prop where
  cl : Cls K C
  nD : NoAttr K C "_drawers"
  nB : NoAttr K C "_bars"
  mgC : mg "Cabinet" = some (.ref C)
section
variable {P : Program} {w : World} {K : PySem.W.Frag} {mg : Str → Option Value} {base : Heap}
theorem scCheckDrawers : FnScope ["drawers"] ["drawers"] (defScope sCheckDrawers) := ⟨rfl, rfl, rfl, by decide +kernel, rfl, by decide +kernel, by decide +kernel⟩
theorem ok_checkDrawers {f f1 : Addr} {fd fd1 : FuncData} (F : Fun K "check_drawers" "check_drawers" sCheckDrawers f fd) (G : FnOk P w K mg base CX0 2 f1 fd1 ["value"] (spIsCount K)) (g1 : mg "is_drawer_count" = some (.ref f1)) (k1 : PySem.W.keepIn K (.ref f1) = true) (b1 : Binds K fd1 ["value"] []) :
    FnOk P w K mg base CX0 3 f fd ["drawers"] spCheckDrawers := by
  refine F.ok scCheckDrawers (fun vs H Q E h => ?_) (fun cdv A outer s H vs Q E hr h => ?_)
  · obtain ⟨n, rfl, _⟩ := h.h
    rfl
  · obtain ⟨n, rfl, h1, h2, k⟩ := h.h
    refine ⟨_, pss_one (ps_if (pt_not (pt_val (pe_call G (hr.mono (by decide)) rfl g1 k1 b1 .nil pass0 (pa_cons (pv 0) pa_nil)))) (pss_one ps_never) pss_nil), ?_⟩
    refine ⟨_, rfl, ⟨.inl ⟨n, rfl, _, rfl, ?_⟩⟩⟩
    rw [decide_eq_true h1, decide_eq_true h2]
    exact iteF k
theorem scCheckBars : FnScope ["drawers", "bars", "index", "bar"] ["drawers", "bars"] (defScope sCheckBars) := ⟨rfl, rfl, rfl, by decide +kernel, rfl, by decide +kernel, by decide +kernel⟩
theorem ok_checkBars {f f1 : Addr} {fd fd1 : FuncData} (F : Fun K "check_bars" "check_bars" sCheckBars f fd) (T : Bt mg) (G : FnOk P w K mg base CX0 3 f1 fd1 ["drawers", "value"] (spIsBar K)) (g1 : mg "is_bar" = some (.ref f1)) (k1 : PySem.W.keepIn K (.ref f1) = true) (b1 : Binds K fd1 ["drawers", "value"] []) :
    FnOk P w K mg base CX0 4 f fd ["drawers", "bars"] spCheckBars := by
  refine F.ok scCheckBars (fun vs H Q E h => ?_) (fun cdv A outer s H vs Q E hr h => ?_)
  · obtain ⟨n, t, ks, rfl, _⟩ := h.h
    rfl
  · obtain ⟨n, t, ks, rfl, hn, B, O, k⟩ := h.h
    have hu : _ < cLine := hr.units0
    refine ⟨_, pss_cons (ps_if (pt_not (pt_val (pe_callB call_isi (by rfl) T.isinstance (by decide +kernel) (pa_cons (pv 1) (pa_cons (pe_bltn (v := .ty "tuple") (by rfl) T.tuple (by decide +kernel) rfl) pa_nil))))) (pss_one ps_never) pss_nil)
      (pss_one (ps_for PassesOwn.never rfl (pi_enumT (by rfl) T.enumerate (pa_cons (pv 1) pa_nil)) (pg_tup (by rfl) (pgs_cons (pg_name (i := 2) scCheckBars.nd rfl (.inl rfl)) (pgs_cons (pg_name (i := 3) scCheckBars.nd rfl (.inl rfl)) pgs_nil)))
        (pss_cons (ps_if (pt_not (pt_val (pe_call G (hr.mono (by decide)) rfl g1 k1 b1 .nil pass0 (pa_cons (pv 0) (pa_cons (pv 3) pa_nil))))) (pss_one ps_never) pss_nil)
        (pss_one (ps_if (PW.pt (pw_and (pt_cmpR op_gt (pv 2) pe_int (nomark _)) (pw_and1 (pt_cmpR (op_leB hu) (pv 3) (pe_ix ix_tup (pv 1) (pe_op op_sub (pv 2) pe_int) (fun _ _ => rfl)) (nomark _))))) (pss_one ps_never) pss_nil))))), ?_⟩
    refine ⟨_, rfl, _, _, _, _, true, rfl, .ty "tuple", tyT (SqT.of' B.tu), kit_ty (by decide +kernel), _, rfl, iteF ?_⟩
    refine ⟨_, rfl, t, _, rfl, SqT.of' B.tu, ?_⟩
    refine for_it walk_enumT (fun i σ H' => ∃ v2 v3, σ = [some (.int n), some (.ref t), v2, v3] ∧ Same H H') ⟨_, _, rfl, Same.refl H⟩ (fun i σ H' _ ⟨_, _, _, s1⟩ => SqT.of' (s1 _ _ B.tu)) ?_ ?_
    · rintro i x σ H1 H2 hi ⟨v2, v3, rfl, s1⟩ ⟨T, x1, x2, rfl, hT, rfl, e1, e2⟩
      have e1' : V.int (i : Nat) = x1 := Option.some.inj e1
      subst e1'
      have e2 : (ks.map fun k => V.ref k.1)[i]? = some x2 := e2
      rw [List.getElem?_map] at e2
      cases ek : ks[i]? with
      | none => rw [ek] at e2; cases e2
      | some kk =>
        rw [ek] at e2
        have e2' : V.ref kk.1 = x2 := Option.some.inj e2
        subst e2'
        have s2 : Same H (upd H1 T (.tup [.int (i : Nat), .ref kk.1])) := s1.trans (same_upd hT)
        have hm : kk ∈ ks := List.mem_of_getElem? ek
        have hok : kk.2.ok n := O.ok _ (List.mem_map.mpr ⟨kk, hm, rfl⟩)
        refine ⟨T, _, rfl, SqT.of' upd_same, rfl, _, _, rfl, _, _, rfl, rfl, ?_⟩
        refine ⟨_, rfl, _, rfl, spIsBar_ok hok (SqT.of' (s2 _ _ (B.el kk hm))) ⟨_, rfl, iteF ?_⟩⟩
        refine ⟨_, rfl, _, _, rfl, rfl, _, rfl, ?_⟩
        refine ite2 (fun z => ?_) (fun z => iteF ⟨_, _, rfl, s2⟩)
        have h0 : 0 < i := by have := of_decide_eq_true z; omega
        obtain ⟨kp, ep⟩ : ∃ kp, ks[i - 1]? = some kp := by
          have := (List.getElem?_eq_some_iff.mp ek).1
          exact ⟨ks[i - 1]'(by omega), List.getElem?_eq_getElem (by omega)⟩
        have hmp : kp ∈ ks := List.mem_of_getElem? ep
        have hokp : kp.2.ok n := O.ok _ (List.mem_map.mpr ⟨kp, hmp, rfl⟩)
        refine ⟨_, rfl, _, rfl, _, rfl, _, _, rfl, rfl, t, _, _, .ref kp.1, rfl, rfl, SqT.of' (s2 _ _ B.tu), at_prev h0 (by rw [List.getElem?_map, ep]; rfl), ?_⟩
        refine ⟨kk.1, kp.1, kk.2, kp.2, rfl, rfl, SqT.of' (s2 _ _ (B.el kk hm)), SqT.of' (s2 _ _ (B.el kp hmp)), _, rfl, ?_⟩
        have hlt : kp.2.code < kk.2.code := pw_prev O.asc h0 (by rw [List.getElem?_map, ep]; rfl) (by rw [List.getElem?_map, ek]; rfl)
        rw [not_leq hn hokp hok hlt]
        exact iteF ⟨_, _, rfl, s2⟩
    · rintro σ H' ⟨v2, v3, rfl, s1⟩
      exact k H' s1
theorem scInit : FnScope ["self", "drawers", "bars"] ["self", "drawers", "bars"] (defScope sInit) := ⟨rfl, rfl, rfl, by decide +kernel, rfl, by decide +kernel, by decide +kernel⟩
theorem ok_init {f f1 f2 C : Addr} {fd fd1 fd2 : FuncData} (F : Fun K "__init__" "Cabinet.__init__" sInit f fd) (T : CabT K mg C) (G1 : FnOk P w K mg base CX0 3 f1 fd1 ["drawers"] spCheckDrawers) (g1 : mg "check_drawers" = some (.ref f1)) (k1 : PySem.W.keepIn K (.ref f1) = true) (b1 : Binds K fd1 ["drawers"] [])
    (G2 : FnOk P w K mg base CX0 4 f2 fd2 ["drawers", "bars"] spCheckBars) (g2 : mg "check_bars" = some (.ref f2)) (k2 : PySem.W.keepIn K (.ref f2) = true) (b2 : Binds K fd2 ["drawers", "bars"] []) : FnOk P w K mg base CX0 5 f fd ["self", "drawers", "bars"] (spInit C) := by
  refine F.ok scInit (fun vs H Q E h => ?_) (fun cdv A outer s H vs Q E hr h => ?_)
  · obtain ⟨p, dx, n, t, ks, rfl, _⟩ := h.h
    rfl
  · obtain ⟨p, dx, n, t, ks, rfl, hp, h1, h7, B, O, k⟩ := h.h
    refine ⟨_, pss_cons (ps_expr (pe_call G1 (hr.mono (by decide)) rfl g1 k1 b1 .nil pass0 (pa_cons (pv 1) pa_nil))) (pss_cons (ps_expr (pe_call G2 (hr.mono (by decide)) rfl g2 k2 b2 .nil pass0 (pa_cons (pv 1) (pa_cons (pv 2) pa_nil))))
      (pss_cons (ps_fld (pv 0) (pv 1) rfl) (pss_one (ps_fld (pv 0) (pv 2) rfl)))), ?_⟩
    refine ⟨_, rfl, ⟨n, rfl, h1, h7, ?_⟩⟩
    refine ⟨_, rfl, _, rfl, ⟨n, t, ks, rfl, h7, B, O, fun H1 s1 => ?_⟩⟩
    refine ⟨_, rfl, _, rfl, p, C, dx, _, rfl, s1 _ _ hp, T.cl, T.nD, (by show 0 < 1000; decide), _, rfl, _, rfl, p, C, dx, _, rfl, upd_same, T.cl, T.nB, (by show 1 < 1000; decide), ?_⟩
    refine k _ upd_same fun b o hb e => ?_
    rw [upd_ne hb, upd_ne hb]
    exact s1 _ _ e
end
end DL

set_option Elab.async false
set_option maxRecDepth 100000
set_option maxHeartbeats 1000000
namespace DL
open PySem PySem.Spec PyProof.Rows L2
/-- super().__init__(..) called: the error's args are laid anew -/
theorem mw_call {P : Program} {w : World} {A : Around} {E : Value → Shared → Prop} {h : Heap} {g : Array GenState} {d : Drawn} {t : Nat} {os : OsState} {nm q : Str} {C N : Addr} {bs bm : List Value} {hdct : Bool} {sn : List Str} {sub : List Value} {ab : Bool} {col : Option Bool} {dd : Option Addr} {k0 k1 k2 k3 k5 : Option Value}
    {u e t0 : Addr} {rest : List Value} {Q : Value → Shared → Prop}
    (hC : h.get? C = some (excClassObj nm q C N bs bm hdct sn sub ab col dd k0 k1 k2 k3 k5 "ValueError.__new__")) (he : h.get? e = some ({ cls := .ref C, dict := none, data := .fields #[.ref t0, .none, .none, .none, .bool false, .none] } : Obj)) (hu : h.get? u = some (PySem.W.kxs_mw "ValueError.__init__" e)) (hrest : rest.length ≤ sizeLine)
    (hq : ∀ h' t1, (∀ b o, b ≠ e → h.get? b = some o → h'.get? b = some o) → h'.get? e = some ({ cls := .ref C, dict := none, data := .fields #[.ref t1, .none, .none, .none, .bool false, .none] } : Obj) → Q .none ⟨h', g, d, t, os⟩) :
    wpAny (model P w) A (call (.ref u) rest) Q E ⟨h, g, d, t, os⟩ := by
  have FB := F.excBase_ValueError
  refine wpAny_call (codeAny_of_tree ?_)
  show wpAny _ A.in1 (callAny (.ref u) ⟨rest, []⟩) _ _ _
  simp only [callAny]
  refine wpAny_bind (wpAny_load hu ?_)
  simp only [PySem.W.kxs_mw, show (Value.type "method-wrapper" == Value.type "method" || Value.type "method-wrapper" == Value.type "builtin_function_or_method" || Value.type "method-wrapper" == Value.type "method-wrapper") = true by decide, if_true]
  refine PySem.W.KFB.if_so (by decide) ?_
  refine wpAny_bind (PySem.W.check_bound_init FB.toExcCallFacts hC he rfl ?_)
  refine wpAny_bind (wpAny_pure (wpAny_pure ?_))
  refine ⟨plainId_quiet FB.init.plain _, codeAny_builtin FB.initEntry ?_⟩
  exact PySem.W.exc_init_tree (cls := .ref C) (t0 := t0) (dv := none) (c2 := .none) (c3 := .none) (b4 := .bool false) he hrest fun h' k he' _ => hq h' _ k he'
structure SupK (K : PySem.W.Frag) (P : Program) (f C cc cda : Addr) (fd : FuncData) (slf : Str) : Prop where
  T : OexC K C
  mro : ∃ cd, PySem.W.clsIn K C = some cd ∧ PySem.W.alongIn K "__init__" ((cd.mro.dropWhile (· != .ref C)).drop 1) = some (some (.builtin "ValueError.__init__"))
  lf : ∃ oc od osl, K.lookup f = some ⟨oc, od, .func fd, osl⟩
  hp : ∃ ar, (fd.params.posonlyargs ++ fd.params.args).head? = some ar ∧ ar.arg = slf
  code : ∃ ccl cdd vs ccs file tf, K.lookup cda = some ⟨ccl, cdd, .fields vs, ccs⟩ ∧ vs[2]? = some (.str file tf) ∧ ((P.main.file : Str) == file) = true
  cell : ∃ cl cld csl, K.lookup cc = some ⟨cl, cld, .cell (some (.ref C)), csl⟩
  sub : PySem.W.mroIn K C (.ref C) = some true
  any : PySem.W.nsIn K cStatics "thirdparty.any" = some none
  subB : PySem.W.subIn K (.ref C) (.type "ValueError") = some true
  top : (P.main.scope.names.lookup ("super" : Str)).isSome = false
theorem boot_super_ : bootBuiltins ("super" : Str) = some (.type "super") := by decide +kernel
section
variable {X : Cx} {pins : List (Addr × Obj)} {σ : L2.St} {H : Hp} {s : Shared} {D : Ends} {f C cc cda a : Addr} {fd : FuncData} {slf : Str} {e : Expr} {es : List Expr} {ta : TA} {body : List Stmt} {p0 p1 apos pos pos' : Pos} {pl : Sem Bool}
theorem sup_run (S : SupK X.K X.prog f C cc cda fd slf) (hfu : X.env.func = some f) (hco : X.env.code = .ref cda) (hcl : X.env.cells.lookup ("__class__" : Str) = some cc) (hks : X.env.kindOf "super" = some .globalImplicit) (hkc : X.env.kindOf "__class__" = some .free)
    (hka : X.env.kindOf slf = some .local) (hN : X.N[0]? = some slf) (hm : X.mg "super" = none) (ha : PA X (e :: es) ta) (I : Inv X pins σ H s) (hσ : σ[0]? = some (some (.ref a))) (hea : H a = some (exo a C none))
    (h : ta σ H fun vs H1 => vs.length ≤ 1000 ∧ H1 a = some (exo a C none) ∧ D.nx σ H1)
    (hev : eval (.Call (.Attribute (.Call (.Name "super" p0) [] [] p1) "__init__" apos) (e :: es) [] pos) X.env = (do
      let ov ← attributeBase (.Call (.Name "super" p0) [] [] p1) "__init__" X.env (eval (.Call (.Name "super" p0) [] [] p1) X.env)
      standAt apos.atName
      let (f, first) ← holding [ov] (getMethod ov "__init__" pl)
      callWith pos f first (backTo pos (starEach (e :: es) X.env)) []) := by rfl)
    (hi : interactive X.env = false := by rfl) (hsw : swapsWith (.Call (.Attribute (.Call (.Name "super" p0) [] [] p1) "__init__" apos) (e :: es) [] pos) none pos'.line X.env = pure false := by rfl)
    (hst : starEach (e :: es) X.env = (false, eval e X.env) :: starEach es X.env := by rfl) (hpl : (backTo pos (starEach es X.env)).any (·.1) = false := by rfl) :
    PySem.wpAt (model X.prog X.w) X.A (.func body X.env) (exec (.Expr (.Call (.Attribute (.Call (.Name "super" p0) [] [] p1) "__init__" apos) (e :: es) [] pos) pos') X.env) (SP X pins D) X.xe s := by
  obtain ⟨cd, hcd, halong⟩ := S.mro
  obtain ⟨oc, od, osl, lf⟩ := S.lf
  obtain ⟨ar, har, hslf⟩ := S.hp
  obtain ⟨ccl, cdd, vs, ccs, file, tf, hcode, hvs, hfile⟩ := S.code
  obtain ⟨cl, cld, csl, hcell⟩ := S.cell
  have X0 := I.kIn
  obtain ⟨mb, hb1, hb2⟩ := I.mod.blt
  obtain ⟨m, hn, hl⟩ := I.loc
  obtain ⟨u, ru, hlook⟩ := hl 0 slf (.ref a) hN hσ (.inl hka)
  have hmv : m slf = some (.ref a) := by
    obtain rfl : u = Value.ref a := ru
    rcases hlook with ⟨_, q⟩ | ⟨q | q, _⟩
    · exact q
    · rw [hka] at q; cases q
    · rw [hka] at q; cases q
  have hbk := I.bk
  have hok := I.ok
  obtain ⟨t1, ho⟩ := exo_at I.hok hea
  have hac : a ≠ C := fun z => by
    obtain ⟨nm, q, N, bs, bm, sn, sub, ab, col, dd, k0, k1, k2, k3, k5, hC, _⟩ := S.T.cls
    have := (I.bs C _ (I.mod.kin _ _ hC)).2
    rw [← z, hea] at this
    cases this
  have hD : ∃ oD, s.heap.get? C = some oD ∧ oD.data = .cls cd := by
    unfold PySem.W.clsIn at hcd
    split at hcd
    · rename_i c d cd' sl ho'
      cases hcd
      exact ⟨_, X0 _ _ ho', rfl⟩
    · cases hcd
  obtain ⟨oD, hD1, hD2⟩ := hD
  obtain ⟨hh, g, d, t, os⟩ := s
  refine PySem.ks_wpAt_Expr_any ?_ hi hsw
  refine PySem.ks_wpAt_MethodCall ?_ hev
  refine PySem.ks_wpAt_super_base hks hkc rfl hfu (X0 _ _ lf) rfl har hco (X0 _ _ hcode) rfl hvs hfile S.top ?_
  refine PySem.W.ks_loadName_global hok.kind hks (Calls.loadGlobal_builtin (by rw [hok.glob]; exact I.mod.glob.keeps hbk) hm (by rw [hok.blt]; exact hb1.keeps hbk) ((hb2 "super" (by decide)).trans boot_super_) ⟨rfl, ?_⟩)
  refine wpAny_loadName_free hok.kind hkc hcl ⟨_, X0 _ _ hcell, rfl⟩ ?_
  rw [hslf]
  refine wpAny_loadName_local hok.kind hka hn hmv ?_
  refine PySem.ks_wpAny_isType_cls hD1 hD2 ⟨rfl, ?_⟩
  refine PySem.ks_wpAny_call_super hD1 hD2 ho rfl (fun c z => by cases z) (PySem.W.looks_mroIn X0 S.sub) (fun h' e' k => ?_)
  have I1 : Inv X pins σ H ⟨h', g, d, t, os⟩ := I.kept (t' := t) k
  have X1 := I1.kIn
  obtain ⟨t2, ho1⟩ := exo_at I1.hok hea
  have hI : PySem.W.Looks (model X.prog X.w) h' (isInstance (.ref a) (.type "ValueError")) true := (show PySem.W.InstAt h' a _ C none from ⟨ho1, rfl, rfl, trivial⟩).type.andThen (PySem.W.looks_subIn X1 S.subB)
  refine PySem.W.kxs_getMethod PySem.W.kxs_ValueError e' (PySem.W.looks_opaque X1 S.any) (l₀ := cd.mro) (fun A Q E s k q => wpAny_bind ((PySem.W.looks_clsIn X1 hcd) A _ E s k (wpAny_pure q))) rfl X1 halong hI hac rfl ?_
  have I2 : Inv X ((h'.objs.size, PySem.W.kxs_mw "ValueError.__init__" a) :: pins) σ H ⟨h'.push (PySem.W.kxs_mw "ValueError.__init__" a), g, d, t + 1, os⟩ :=
    ClX.pin_new (t' := t + 1) I1 (fun b u z => Heap.get?_push_of_some _ z) (Nat.le_refl _) (Heap.get?_push_size _ rfl) (fun v z => by cases z)
  rw [hst]
  refine PySem.W.kxs_callWith (i := "ValueError.__init__") (x := a) (by show (false || (backTo pos (starEach es X.env)).any (·.1)) = false; rw [hpl]; rfl) ?_
  refine PySem.Calls.evalArgs_plain ?_
  have hrun := ha.run pos _ _ σ H _ I2 h
  rw [hst] at hrun
  refine thn hrun fun us s1 ⟨vs1, H1, I3, r1, hlen, hea3, q⟩ => ⟨ClX.pin_at I3, ?_⟩
  obtain ⟨t3, ho3⟩ := exo_at I3.hok hea3
  obtain ⟨nm, q', N', bs, bm, sn, sub, ab, col, dd, k0, k1, k2, k3, k5, hC, hbm⟩ := S.T.cls
  have hlen2 : us.length ≤ sizeLine := by
    rw [← Paired.length r1, sizeLine_eq]
    omega
  obtain ⟨hh3, g3, d3, t4, os3⟩ := s1
  refine mw_call (I3.kIn _ _ hC) ho3 (ClX.pin_at I3) hlen2 fun h4 t5 k4 e4 => ?_
  have J := (ClX.unpin I3).write (t' := t4) (x := a) (e := a) (o := exo a C none) (by rw [hea3]; exact True.intro) (.inl rfl) k4 ⟨_, e4⟩ (exo_ok e4)
  have eu : upd H1 a (exo a C none) = H1 := by
    funext b
    by_cases hb : b = a
    · rw [hb, upd_same, hea3]
    · rw [upd_ne hb]
  rw [eu] at J
  exact ⟨σ, H1, J, q⟩
end
/-! ### a method that says super(): its body runs where its class's cell is read -/
structure SupScope (N ps : List Str) (sc : Scope) : Prop where
  kind : sc.kind = .function
  co : sc.isCoroutine = false
  gen : sc.isGenerator = false
  nd : N.Nodup
  pre : N.take ps.length = ps
  par : ∀ x ∈ ps, sc.names.lookup x = some .local
  nocell : ∀ y ∈ sc.names, y.2 ≠ .cell
  only : ∀ y ∈ sc.names, y.2 = .free → y.1 = "__class__"
def cxS (CX : CXT) (P : Program) (w : World) (K : PySem.W.Frag) (mg : Str → Option Value) (base : Heap) (N : List Str) (qual : Str) (scope : Scope) (f : Addr) (cd : Value) (cc : Addr) (A : Around) (outer : List Env) (s : Shared) (H : Hp) (E : XK) : Cx where
  prog := P
  w := w
  K := K
  mg := mg
  base := base
  A := A.deeper (PySem.W.ksEnv qual scope s.heap.objs.size f cd cc)
  N := N
  s_0 := s
  H_0 := H
  env := PySem.W.ksEnv qual scope s.heap.objs.size f cd cc
  outer := outer
  stack := PySem.W.ksEnv qual scope s.heap.objs.size f cd cc :: outer
  ex := []
  calm := true
  fn := fun _ => false
  pn := []
  xe := fun e s' => wpAny (model P w) (A.deeper (PySem.W.ksEnv qual scope s.heap.objs.size f cd cc)) (leaving (PySem.W.ksEnv qual scope s.heap.objs.size f cd cc) e) (fun _ s'' => CX outer H s E e s'') (fun e' s'' => CX outer H s E e' s'') s'
theorem zip_sub : ∀ (ps : List Str) (us : List Value), ((ps.zip us).map (·.1)).Sublist ps
  | [], us => by simp
  | p :: ps, [] => by simp
  | p :: ps, u :: us => by
    show (p :: (ps.zip us).map (·.1)).Sublist (p :: ps)
    exact (zip_sub ps us).cons₂ p
theorem zip_get : ∀ {ps : List Str} {us : List Value} {i : Nat} {x : Str} {u : Value}, ps.Nodup → ps[i]? = some x → us[i]? = some u → (ps.zip us).reverse.lookup x = some u := by
  intro ps us i x u nd hp hu
  have hm : (x, u) ∈ (ps.zip us).reverse := by
    rw [List.mem_reverse]
    have : (ps.zip us)[i]? = some (x, u) := by
      rw [List.getElem?_zip_eq_some]
      exact ⟨hp, hu⟩
    exact List.mem_of_getElem? this
  have nd' : ((ps.zip us).reverse.map (·.1)).Nodup := by
    rw [List.map_reverse]
    refine (List.reverse_perm _).nodup_iff.mpr ?_
    exact nd.sublist (zip_sub ps us)
  clear hp hu nd
  generalize (ps.zip us).reverse = l at hm nd'
  induction l with
  | nil => cases hm
  | cons p l ih =>
    obtain ⟨y, v⟩ := p
    rw [List.map_cons, List.nodup_cons] at nd'
    rcases List.mem_cons.mp hm with e | e
    · cases e
      simp [List.lookup]
    · have hne : ¬ x = y := fun z => nd'.1 (z ▸ List.mem_map.mpr ⟨(x, u), e, rfl⟩)
      have : (x == y) = false := by simpa using hne
      simp only [List.lookup, this]
      exact ih e nd'.2
theorem inv_startS {CX : CXT} {P : Program} {w : World} {K : PySem.W.Frag} {mg : Str → Option Value} {base : Heap} {N ps : List Str} {qual : Str} {scope : Scope} {f cc D : Addr} {cd cl : Value} {cld : Option Addr} {csl : Array (Option Value)} {A : Around} {outer : List Env} {s : Shared} {h₀ : Heap} {H : Hp} {E : XK} {us : List Value} {vs : List V} {tk : Nat}
    (S : SupScope N ps scope) (hcell : K.lookup cc = some ⟨cl, cld, .cell (some (.ref D)), csl⟩) (hd : A.handled = none) (e0 : Env0 P w K mg base A outer s H) (hl : vs.length = ps.length) (r : Vals vs us)
    (hns : h₀.Ns s.heap.objs.size (fun x => (ps.zip us).reverse.lookup x)) (hk : ∀ b o, s.heap.get? b = some o → h₀.get? b = some o) :
    Inv (cxS CX P w K mg base N qual scope f cd cc A outer s H E) [] (L2.start N vs) H { s with heap := h₀, toks := tk } := by
  have hpl : ps.length ≤ N.length := by have := congrArg List.length S.pre; rw [List.length_take] at this; omega
  have noA : ∀ b : Addr, b ∉ (cxS CX P w K mg base N qual scope f cd cc A outer s H E).ex := fun b z => absurd (show b ∈ ([] : List Addr) from z) (by simp)
  have one : ∀ {y : Str} {c : Addr}, (cxS CX P w K mg base N qual scope f cd cc A outer s H E).env.cells.lookup y = some c → y = "__class__" ∧ c = cc := fun {y c} z => by
    have z : ([("__class__", cc)] : List (Str × Addr)).lookup y = some c := z
    by_cases q : y = "__class__"
    · subst q
      simp [List.lookup] at z
      exact ⟨rfl, z.symm⟩
    · have : (y == ("__class__" : Str)) = false := by simpa using q
      simp [List.lookup, this] at z
  have hcb := e0.mod.kin _ _ hcell
  refine ⟨⟨e0.mod, S.kind, rfl, rfl, Nat.le_refl _, fun y z c h1 h2 => ?_, fun y hy => ?_, fun y c z _ => (by cases z), fun _ => hd, Around.frames_deeper e0.frames, .inr ⟨rfl, rfl⟩, fun b z => absurd z (noA b), e0.bs, e0.bsz, fun b _ _ => noA b, fun b z => absurd z (noA b), e0.funs, e0.frf⟩,
    rfl, e0.bare, Un.kept hk, ⟨_, hns, fun i y v h1 h2 h3 => ?_⟩, fun y c h => ?_, e0.hok.fresh (Nat.le_refl _), fun y c h => ?_, fun p hp => absurd (show p ∈ ([] : List (Addr × Obj)) from hp) (by simp), e0.hok.kept hk, ?_⟩
  · rw [(one h1).1, (one h2).1]
  · have hy : scope.names.lookup y = some .cell ∨ scope.names.lookup y = some .free := hy
    rcases hy with hy | hy
    · exact absurd rfl (S.nocell _ (PySem.mem_of_lookup hy))
    · have := S.only _ (PySem.mem_of_lookup hy) rfl
      have this : y = "__class__" := this
      subst this
      exact ⟨cc, by show ([("__class__", cc)] : List (Str × Addr)).lookup ("__class__" : Str) = some cc; simp [List.lookup]⟩
  · have hi : i < vs.length := by
      unfold L2.start at h2
      by_cases hi : i < vs.length
      · exact hi
      · rw [List.getElem?_append_right (by simpa using hi)] at h2
        rw [List.getElem?_replicate] at h2
        split at h2 <;> cases h2
    have ha : vs[i]? = some v := by
      unfold L2.start at h2
      rw [List.getElem?_append_left (by simpa using hi), List.getElem?_map] at h2
      cases e : vs[i]? with
      | none => rw [e] at h2; cases h2
      | some a => rw [e] at h2; cases h2; rfl
    obtain ⟨u, hu, rv⟩ := r.get ha
    have hp : ps[i]? = some y := by
      rw [← S.pre, List.getElem?_take_of_lt (by omega)]; exact h1
    have ndP : ps.Nodup := by rw [← S.pre]; exact S.nd.sublist (List.take_sublist _ _)
    exact ⟨u, rv, .inl ⟨S.par y (List.mem_of_getElem? hp), zip_get ndP hp hu⟩⟩
  · rw [(one h).2]
    exact ⟨_, _, hk _ _ (e0.bs _ _ hcb).1, rfl⟩
  · rw [(one h).2]
    exact (e0.bs _ _ hcb).2
  · unfold L2.start
    show _ = N.length
    rw [List.length_append, List.length_map, List.length_replicate]
    omega
theorem fn_ofS {CX : CXT} {P : Program} {w : World} {K : PySem.W.Frag} {mg : Str → Option Value} {base : Heap} {k : Nat} {f cc D : Addr} {name qual : Str} {params : Arguments} {body : List Stmt} {scope : Scope} {dV kV doc pm cdv ct oc cl : Value} {an od cld : Option Addr}
    {osl csl : Array (Option Value)} {N ps : List Str} {sp : Sp} (lk : K.lookup f = some ⟨oc, od, .func (PySem.W.ksFn name qual params body scope dV kV doc pm an cdv ct cc), osl⟩) (hcd : PySem.W.codeIn K cdv qual = true) (hcell : K.lookup cc = some ⟨cl, cld, .cell (some (.ref D)), csl⟩) (S : SupScope N ps scope)
    (len : ∀ vs H Q E, sp vs H Q E → vs.length = ps.length)
    (hbody : ∀ (A : Around) (outer : List Env) (s s1 : Shared) (H : Hp) (vs : List V) (Q : VK) (E : XK), sp vs H Q E → Inv (cxS CX P w K mg base N qual scope f cdv cc A outer s H E) [] (L2.start N vs) H s1 →
      PySem.wpAt (model P w) (cxS CX P w K mg base N qual scope f cdv cc A outer s H E).A (.func body (cxS CX P w K mg base N qual scope f cdv cc A outer s H E).env) (execs body (cxS CX P w K mg base N qual scope f cdv cc A outer s H E).env)
        (SP (cxS CX P w K mg base N qual scope f cdv cc A outer s H E) [] { nx := fun _ H' => Q .non H', rt := Q }) (cxS CX P w K mg base N qual scope f cdv cc A outer s H E).xe s1) :
    FnOk P w K mg base CX (k + 1) f (PySem.W.ksFn name qual params body scope dV kV doc pm an cdv ct cc) ps sp := by
  refine ⟨len, fun A outer s H args us vs Q E hr e0 hb r hsp => ?_⟩
  have hl := len _ _ _ _ hsp
  have KX : K.In s.heap := e0.mod.kin.keeps fun b o e => (e0.bs b o e).1
  have lim : s.heap.NoLimit := e0.mod.nolimit.keeps fun b o e => (e0.bs b o e).1
  refine PySem.ks_codeAny_call_defAt (fd := PySem.W.ksFn name qual params body scope dV kV doc pm an cdv ct cc) (body := body) (binds := ps.zip us) hr.depth (KX _ _ lk) rfl lim (PySem.W.codeRec_of KX hcd) rfl hb S.nocell (fun y hy => S.par _ (List.of_mem_zip hy).1) (fun h₀ hns hk => ?_) S.co S.gen S.kind
  have I : Inv (cxS CX P w K mg base N qual scope f cdv cc A outer s H E) [] (L2.start N vs) H { s with heap := h₀, toks := s.toks + (ps.zip us).length } := inv_startS S hcell hr.hd e0 hl r hns hk
  refine PySem.ks_wpAt_mono (hbody A outer s _ H vs Q E hsp I) (fun fl s' hs => ?_) fun e s' hs => hs
  have fin : ∀ {σ' : L2.St} {H' : Hp} {v : V} {u : Value}, Inv (cxS CX P w K mg base N qual scope f cdv cc A outer s H E) [] σ' H' s' → RelV v u → Q v H' → CE outer P w H s Q u s' :=
    fun {σ' H' v u} J rv q => ⟨v, H', J.os, J.bare, J.base, J.hok, rv, q⟩
  cases fl with
  | ret u =>
    obtain ⟨v, σ', H', J, rv, q⟩ := hs
    exact fin J rv q
  | next =>
    obtain ⟨σ', H', J, q⟩ := hs
    exact fin (v := V.non) (u := Value.none) J rfl q
  | brk =>
    obtain ⟨_, _, _, q⟩ := hs
    exact False.elim q
  | cont =>
    obtain ⟨_, _, _, q⟩ := hs
    exact False.elim q
end DL

set_option Elab.async false
set_option maxRecDepth 100000
set_option maxHeartbeats 1000000
namespace DL
open PySem PySem.Spec PyProof.Rows L2
/-! ### {x}: None or a number -/
def tFmtN (te : TE) : TE := fun σ H Q => te σ H fun x H1 => (x = .non ∧ Q (.str "None") H1) ∨ ∃ i : Int, x = .int i ∧ i.natAbs.log2 < 1920 ∧ Q (.str (toString i)) H1
theorem pe_fmtN {X : Cx} {e : Expr} {te : TE} {pos : Pos} (he : PE X e te) : PE X (.FormattedValue e (-1) none pos) (tFmtN te) := by
  refine ⟨fun pins s σ H Q I h => ?_⟩
  refine wpAny_FormattedValue_plain (thn (he.run pins s σ H _ I h) fun v s1 hv => ?_)
  obtain ⟨x, H1, I1, r1, q⟩ := hv
  rcases q with ⟨rfl, q⟩ | ⟨i, rfl, hz, q⟩
  · obtain rfl : v = Value.none := r1
    exact wpAny_formatField_none ⟨.str "None", H1, I1.tok _, ⟨_, rfl⟩, q⟩
  · obtain ⟨t, rfl⟩ := r1
    exact wpAny_formatField_int hz ⟨.str (toString i), H1, I1.tok _, ⟨_, rfl⟩, q⟩
/-- a def of a class with super() in it -/
structure FunS (K : PySem.W.Frag) (x qual : Str) (st : Stmt) (f cda cc : Addr) (fd : FuncData) : Prop where
  ex : ∃ (oc : Value) (od an : Option Addr) (kV doc pm ct : Value) (osl : Array (Option Value)), fd = PySem.W.ksFn x qual (defArgs st) (defBody st) (defScope st) .none kV doc pm an (.ref cda) ct cc ∧ K.lookup f = some ⟨oc, od, .func fd, osl⟩ ∧ PySem.W.codeIn K (.ref cda) qual = true
structure spBad (C : Addr) (vs : List V) (H : Hp) (Q : VK) (_ : XK) : Prop where
  h : ∃ (a : Addr) (x : V), vs = [.ref a, x] ∧ (x = .non ∨ ∃ i : Int, x = .int i ∧ 0 ≤ i ∧ i ≤ 100) ∧ H a = some (exo a C none) ∧ ∀ dx, H dx = none → dx ≠ a → Q .non (upd (upd H dx (exd dx [("index", x)])) a (exo a C (some dx)))
theorem small_log {i : Int} (h0 : 0 ≤ i) (h1 : i ≤ 1000) : i.natAbs.log2 < 1920 := by
  have : i.natAbs < 2 ^ 1920 := Nat.lt_of_le_of_lt (show i.natAbs ≤ 1000 by omega) (by decide +kernel)
  by_cases z : i.natAbs = 0
  · rw [z]; decide
  · exact (Nat.log2_lt z).mpr this
theorem int_len {i : Int} (h0 : 0 ≤ i) (h1 : i ≤ 100) : ((Str.empty ++ ("wrong bars, index " : Str)) ++ (toString i : Str)).length ≤ sizeLine := by
  have z : ∀ n : Fin 101, ((Str.empty ++ ("wrong bars, index " : Str)) ++ (toString ((n.val : Nat) : Int) : Str)).length ≤ sizeLine := by decide +kernel
  have := z ⟨i.toNat, by omega⟩
  rw [show ((i.toNat : Nat) : Int) = i by omega] at this
  exact this
section
variable {P : Program} {w : World} {K : PySem.W.Frag} {mg : Str → Option Value} {base : Heap}
theorem scBad : SupScope ["self", "index"] ["self", "index"] (defScope s_BadBars__init_) := ⟨rfl, rfl, rfl, by decide +kernel, rfl, by decide +kernel, by decide +kernel, by decide +kernel⟩
theorem ok_badInit {f C cc cda : Addr} {fd : FuncData} (F : FunS K "__init__" "BadBars.__init__" s_BadBars__init_ f cda cc fd) (S : SupK K P f C cc cda fd "self") (hm : mg "super" = none) (hi : PySem.W.findIn K (.ref C) "index" = some none) : FnOk P w K mg base CX0 1 f fd ["self", "index"] (spBad C) := by
  obtain ⟨oc, od, an, kV, doc, pm, ct, osl, rfl, lk, hcd⟩ := F.ex
  obtain ⟨cl, cld, csl, hcell⟩ := S.cell
  refine fn_ofS lk hcd hcell scBad (fun vs H Q E h => ?_) (fun A outer s s1 H vs Q E hsp I => ?_)
  · obtain ⟨a, x, rfl, _⟩ := h.h
    rfl
  · obtain ⟨a, x, rfl, hx, hea, q⟩ := hsp.h
    have rest : PSs (cxS CX0 P w K mg base ["self", "index"] "BadBars.__init__" (defScope s_BadBars__init_) f (.ref cda) cc A outer s H E) ((defBody s_BadBars__init_).drop 1) _ := pss_one (ps_ost (pv 0) (pv 1))
    refine PySem.ks_wpAt_execs_cons (PySem.ks_wpAt_mono (sup_run (D := { nx := fun σ' H' => σ' = L2.start ["self", "index"] [.ref a, x] ∧ H' = H, rt := fun _ _ => False }) S rfl rfl rfl rfl rfl rfl rfl hm
      (pa_cons (pe_joined (.cons pe_str (.cons (pe_fmtN (pv 1)) .nil))) pa_nil) I rfl hea ?_) (fun fl s' hs => ?_) fun _ _ z => z)
    · refine ⟨_, rfl, by decide +kernel, _, rfl, ?_⟩
      rcases hx with rfl | ⟨i, rfl, i0, i1⟩
      · exact .inl ⟨rfl, _, rfl, by decide +kernel, by show 1 ≤ 1000; decide, hea, rfl, rfl⟩
      · exact .inr ⟨i, rfl, small_log i0 (by omega), _, rfl, int_len i0 i1, by show 1 ≤ 1000; decide, hea, rfl, rfl⟩
    · cases fl with
      | next =>
        obtain ⟨σ', H', J, rfl, rfl⟩ := hs
        exact PySem.wpAt_of_wpAny (rest.run [] s' _ _ _ J ⟨_, rfl, _, rfl, a, C, rfl, S.T, hi, .inl ⟨hea, fun dx hdx hda => q dx hdx hda⟩⟩)
      | ret u =>
        obtain ⟨_, _, _, _, _, z⟩ := hs
        exact False.elim z
      | brk =>
        obtain ⟨_, _, _, z⟩ := hs
        exact False.elim z
      | cont =>
        obtain ⟨_, _, _, z⟩ := hs
        exact False.elim z
end
end DL

set_option Elab.async false
set_option maxRecDepth 100000
set_option maxHeartbeats 1000000
namespace DL
open PySem L2
/-! ### the checks with what they raise -/
/-- an own error without its own making -/
structure ErrT (K : PySem.W.Frag) (mg : Str → Option Value) (x : Str) (CB : Addr) : Prop where
  g : mg x = some (.ref CB)
  x : PySem.W.excIn K CB [.type "ValueError", .type "Exception", .type "BaseException", .type "object"] "ValueError.__new__" = true
  k : PySem.W.keepIn K (.ref CB) = true
  b : PySem.W.subIn K (.ref CB) (.type "BaseException") = some true
  t : PySem.W.typeIn K (.ref CB) = some (.type "type")
/-- BadBars: the class, its __init__ -/
structure BadT (P : Program) (w : World) (K : PySem.W.Frag) (mg : Str → Option Value) (base : Heap) (CB : Addr) : Prop where
  T : OexC K CB
  g : mg "BadBars" = some (.ref CB)
  i : ∃ fI fd, PySem.W.findIn K (.ref CB) "__init__" = some (some (.ref fI)) ∧ PySem.W.typeIn K (.ref fI) = some (.type "function") ∧ FnOk P w K mg base CX0 1 fI fd ["self", "index"] (spBad CB) ∧ Binds K fd ["self", "index"] []
/-- the raised error: its dict is new -/
def exBad (CB : Addr) (x : V) (H : Hp) (E : XK) : Prop := ∀ (d : Addr) (H' : Hp), H d = none → Same H H' → H' d = some (.xd [("index", x)]) → E (.ref CB) (some d) H'
structure spCkDX (K : PySem.W.Frag) (CD : Addr) (vs : List V) (H : Hp) (Q : VK) (E : XK) : Prop where
  h : (∃ n : Int, vs = [.int n] ∧ (1 ≤ n ∧ n ≤ 7 → Q .non H) ∧ (¬ (1 ≤ n ∧ n ≤ 7) → E (.ref CD) none H)) ∨
  ∃ (v : V) (t : Value) (b1 b2 : Bool), vs = [v] ∧ TyX K H v t ∧ PySem.W.kitOne K t (.type "int") = some b1 ∧ PySem.W.kitOne K t (.type "bool") = some b2 ∧ (b1 && !b2) = false ∧ E (.ref CD) none H
/-- what is_bar says False of -/
def NoBar (K : PySem.W.Frag) (H : Hp) (n : Int) (v : V) : Prop := (∃ t : Value, TyX K H v t ∧ PySem.W.kitOne K t (.type "tuple") = some false) ∨
  (∃ (a : Addr) (xs : List V), v = .ref a ∧ SqT K H a xs ∧ xs.length ≠ 4) ∨
  ∃ (a : Addr) (x0 x1 x2 x3 : V), v = .ref a ∧ SqT K H a [x0, x1, x2, x3] ∧ scV x0 = true ∧ scV x1 = true ∧ scV x2 = true ∧ scV x3 = true ∧ barB n x0 x1 x2 x3 = false
theorem NoBar.sp {K : PySem.W.Frag} {H : Hp} {n : Int} {v : V} {Q : VK} {E : XK} (h : NoBar K H n v) (k : Q (.bl false) H) : spIsBar K [.int n, v] H Q E := by
  rcases h with ⟨t, h1, h2⟩ | ⟨a, xs, rfl, h1, h2⟩ | ⟨a, x0, x1, x2, x3, rfl, h1, c0, c1, c2, c3, h2⟩
  · exact ⟨⟨n, .inl ⟨v, t, rfl, h1, h2, k⟩⟩⟩
  · exact ⟨⟨n, .inr (.inl ⟨a, xs, rfl, h1, h2, k⟩)⟩⟩
  · exact ⟨⟨n, .inr (.inr ⟨a, x0, x1, x2, x3, rfl, h1, c0, c1, c2, c3, by rw [h2]; exact k⟩)⟩⟩
/-- wrong bars, no tuple: None; else the first wrong one stands behind good ones -/
structure spCkBX (K : PySem.W.Frag) (CB : Addr) (vs : List V) (H : Hp) (Q : VK) (E : XK) : Prop where
  h : (∃ (n : Int) (t : Addr) (ks : List (Addr × Bar)), vs = [.int n, .ref t] ∧ n ≤ 7 ∧ BarsAt H t ks ∧ OkBars n (ks.map (·.2)) ∧ ∀ H', Same H H' → Q .non H') ∨
  (∃ (n : Int) (v : V) (t : Value), vs = [.int n, v] ∧ TyX K H v t ∧ PySem.W.kitOne K t (.type "tuple") = some false ∧ exBad CB .non H E) ∨
  ∃ (n : Int) (t : Addr) (ks : List (Addr × Bar)) (x : V) (ys : List V), vs = [.int n, .ref t] ∧ n ≤ 7 ∧ H t = some (.tup ((ks.map fun k => V.ref k.1) ++ x :: ys)) ∧ (∀ k ∈ ks, H k.1 = some (.tup k.2.vs)) ∧ OkBars n (ks.map (·.2)) ∧ ks.length ≤ 100 ∧
    ((∀ H', Same H H' → NoBar K H' n x) ∨ ∃ (a : Addr) (b : Bar) (kp : Addr × Bar), x = .ref a ∧ H a = some (.tup b.vs) ∧ b.ok n ∧ 0 < ks.length ∧ ks[ks.length - 1]? = some kp ∧ b.leq kp.2 = true) ∧ ∀ H', Same H H' → exBad CB (.int ks.length) H' E
section
variable {P : Program} {w : World} {K : PySem.W.Frag} {mg : Str → Option Value} {base : Heap}
theorem ok_ckDX {f f1 CD : Addr} {fd fd1 : FuncData} (F : Fun K "check_drawers" "check_drawers" sCheckDrawers f fd) (BT : ErrT K mg "BadDrawers" CD) (G : FnOk P w K mg base CX0 2 f1 fd1 ["value"] (spIsCount K)) (g1 : mg "is_drawer_count" = some (.ref f1)) (k1 : PySem.W.keepIn K (.ref f1) = true) (b1 : Binds K fd1 ["value"] []) :
    FnOk P w K mg base (L2.CX P w) 3 f fd ["drawers"] (spCkDX K CD) := by
  refine F.okX scCheckDrawers (fun vs H Q E h => ?_) (fun cdv A outer s H vs Q E hr h => ?_)
  · rcases h.h with ⟨n, rfl, _⟩ | ⟨v, t, c1, c2, rfl, _⟩ <;> rfl
  · refine ⟨_, pss_one (ps_if (pt_not (pt_val (pe_call G (hr.mono (by decide)) rfl g1 k1 b1 .nil pass0 (pa_cons (pv 0) pa_nil)))) (pss_one (ps_raise rfl (takes_of rfl rfl rfl rfl) (pmk_own PySem.F.excBase_ValueError BT.x BT.g BT.k (raises_own BT.b BT.t) (by exact rfl)))) pss_nil), ?_⟩
    rcases h.h with ⟨n, rfl, kq, ke⟩ | ⟨v, t, c1, c2, rfl, ty, e1, e2, e3, ke⟩
    · refine ⟨_, rfl, ⟨.inl ⟨n, rfl, _, rfl, ?_⟩⟩⟩
      by_cases h1 : 1 ≤ n ∧ n ≤ 7
      · rw [decide_eq_true h1.1, decide_eq_true h1.2]
        exact iteF (kq h1)
      · have e : (decide (1 ≤ n) && decide (n ≤ 7)) = false := by
          rw [Bool.and_eq_false_iff]
          by_cases q : 1 ≤ n
          · exact .inr (decide_eq_false fun z => h1 ⟨q, z⟩)
          · exact .inl (decide_eq_false q)
        rw [e]
        exact iteT (ke h1)
    · exact ⟨_, rfl, ⟨.inr ⟨v, t, c1, c2, rfl, ty, e1, e2, e3, _, rfl, iteT ke⟩⟩⟩
theorem bad_end {CB a dx : Addr} {x : V} {H H1 : Hp} {E : XK} (hs : Same H H1) (ha : H1 a = none) (hd : (upd H1 a (exo a CB none)) dx = none) (hda : dx ≠ a) (k : exBad CB x H E) :
    E (.ref CB) (some dx) (upd (del (upd (upd (upd H1 a (exo a CB none)) dx (exd dx [("index", x)])) a (exo a CB (some dx))) a) dx (.xd [("index", x)])) := by
  have hd1 : H1 dx = none := by rw [upd_ne hda] at hd; exact hd
  refine k dx _ (hs.free hd1) (fun b o e => ?_) upd_same
  have hb1 := hs _ _ e
  have hba : b ≠ a := ne_of_none hb1 ha
  have hbd : b ≠ dx := ne_of_none hb1 hd1
  rw [upd_ne hbd, del_ne hba, upd_ne hba, upd_ne hbd, upd_ne hba]
  exact hb1
theorem bad_mk {CB a : Addr} {x : V} {H1 : Hp} {E : XK} {E2 : XK} (ha : H1 a = none) (hx : x = .non ∨ ∃ i : Int, x = .int i ∧ 0 ≤ i ∧ i ≤ 100) (k : exBad CB x H1 E) :
    spBad CB [.ref a, x] (upd H1 a (exo a CB none)) (fun v H2 => v = .non ∧ ∃ (d : Addr) (fs : List (Str × V)), H2 a = some (exo a CB (some d)) ∧ H2 d = some (exd d fs) ∧ H1 d = none ∧ E (.ref CB) (some d) (upd (del H2 a) d (.xd fs))) E2 :=
  ⟨⟨a, x, rfl, hx, upd_same, fun dx hdx hda => ⟨rfl, dx, _, upd_same, by rw [upd_ne hda, upd_same], by rw [upd_ne hda] at hdx; exact hdx, bad_end (Same.refl H1) ha hdx hda k⟩⟩⟩
theorem ok_ckBX {f f1 CB : Addr} {fd fd1 : FuncData} (F : Fun K "check_bars" "check_bars" sCheckBars f fd) (T : Bt mg) (BT : BadT P w K mg base CB) (G : FnOk P w K mg base CX0 3 f1 fd1 ["drawers", "value"] (spIsBar K)) (g1 : mg "is_bar" = some (.ref f1)) (k1 : PySem.W.keepIn K (.ref f1) = true) (b1 : Binds K fd1 ["drawers", "value"] []) :
    FnOk P w K mg base (L2.CX P w) 4 f fd ["drawers", "bars"] (spCkBX K CB) := by
  refine F.okX scCheckBars (fun vs H Q E h => ?_) (fun cdv A outer s H vs Q E hr h => ?_)
  · rcases h.h with ⟨n, t, ks, rfl, _⟩ | ⟨n, v, t, rfl, _⟩ | ⟨n, t, ks, x, ys, rfl, _⟩ <;> rfl
  · have hu : _ < cLine := hr.units0
    obtain ⟨fI, fdI, i1, i2, GI, bI⟩ := BT.i
    refine ⟨_, pss_cons (ps_if (pt_not (pt_val (pe_callB call_isi (by rfl) T.isinstance (by decide +kernel) (pa_cons (pv 1) (pa_cons (pe_bltn (v := .ty "tuple") (by rfl) T.tuple (by decide +kernel) rfl) pa_nil)))))
        (pss_one (ps_raise rfl (takes_of rfl rfl rfl rfl) (pmk_oex BT.T i1 i2 GI (hr.mono (by decide)) bI .nil pass0 rfl BT.g (pa_cons pe_non pa_nil)))) pss_nil)
      (pss_one (ps_for (passes_of rfl) rfl (pi_enumT (by rfl) T.enumerate (pa_cons (pv 1) pa_nil)) (pg_tup (by rfl) (pgs_cons (pg_name (i := 2) scCheckBars.nd rfl (.inl rfl)) (pgs_cons (pg_name (i := 3) scCheckBars.nd rfl (.inl rfl)) pgs_nil)))
        (pss_cons (ps_if (pt_not (pt_val (pe_call G (hr.mono (by decide)) rfl g1 k1 b1 .nil pass0 (pa_cons (pv 0) (pa_cons (pv 3) pa_nil))))) (pss_one (ps_raise rfl (takes_of rfl rfl rfl rfl) (pmk_oex BT.T i1 i2 GI (hr.mono (by decide)) bI .nil pass0 rfl BT.g (pa_cons (pv 2) pa_nil)))) pss_nil)
        (pss_one (ps_if (PW.pt (pw_and (pt_cmpR op_gt (pv 2) pe_int (nomark _)) (pw_and1 (pt_cmpR (op_leB hu) (pv 3) (pe_ix ix_tup (pv 1) (pe_op op_sub (pv 2) pe_int) (fun _ _ => rfl)) (nomark _))))) (pss_one (ps_raise rfl (takes_of rfl rfl rfl rfl) (pmk_oex BT.T i1 i2 GI (hr.mono (by decide)) bI .nil pass0 rfl BT.g (pa_cons (pv 2) pa_nil)))) pss_nil))))), ?_⟩
    rcases h.h with ⟨n, t, ks, rfl, hn, B, O, k⟩ | ⟨n, v, t, rfl, ty, hk, ke⟩ | ⟨n, t, ks, x, ys, rfl, hn, ht, hel, O, h100, hbad, ke⟩
    · refine ⟨_, rfl, _, _, _, _, true, rfl, .ty "tuple", tyT (SqT.of' B.tu), kit_ty (by decide +kernel), _, rfl, iteF ?_⟩
      refine ⟨_, rfl, t, _, rfl, SqT.of' B.tu, ?_⟩
      refine for_it walk_enumT (fun i σ H' => ∃ v2 v3, σ = [some (.int n), some (.ref t), v2, v3] ∧ Same H H') ⟨_, _, rfl, Same.refl H⟩ (fun i σ H' _ ⟨_, _, _, s1⟩ => SqT.of' (s1 _ _ B.tu)) ?_ ?_
      · rintro i x σ H1 H2 hi ⟨v2, v3, rfl, s1⟩ ⟨T, x1, x2, rfl, hT, rfl, e1, e2⟩
        have e1' : V.int (i : Nat) = x1 := Option.some.inj e1
        subst e1'
        have e2 : (ks.map fun k => V.ref k.1)[i]? = some x2 := e2
        rw [List.getElem?_map] at e2
        cases ek : ks[i]? with
        | none => rw [ek] at e2; cases e2
        | some kk =>
          rw [ek] at e2
          have e2' : V.ref kk.1 = x2 := Option.some.inj e2
          subst e2'
          have s2 : Same H (upd H1 T (.tup [.int (i : Nat), .ref kk.1])) := s1.trans (same_upd hT)
          have hm : kk ∈ ks := List.mem_of_getElem? ek
          have hok : kk.2.ok n := O.ok _ (List.mem_map.mpr ⟨kk, hm, rfl⟩)
          refine ⟨T, _, rfl, SqT.of' upd_same, rfl, _, _, rfl, _, _, rfl, rfl, ?_⟩
          refine ⟨_, rfl, _, rfl, spIsBar_ok hok (SqT.of' (s2 _ _ (B.el kk hm))) ⟨_, rfl, iteF ?_⟩⟩
          refine ⟨_, rfl, _, _, rfl, rfl, _, rfl, ?_⟩
          refine ite2 (fun z => ?_) (fun z => iteF ⟨_, _, rfl, s2⟩)
          have h0 : 0 < i := by have := of_decide_eq_true z; omega
          obtain ⟨kp, ep⟩ : ∃ kp, ks[i - 1]? = some kp := by
            have := (List.getElem?_eq_some_iff.mp ek).1
            exact ⟨ks[i - 1]'(by omega), List.getElem?_eq_getElem (by omega)⟩
          have hmp : kp ∈ ks := List.mem_of_getElem? ep
          have hokp : kp.2.ok n := O.ok _ (List.mem_map.mpr ⟨kp, hmp, rfl⟩)
          refine ⟨_, rfl, _, rfl, _, rfl, _, _, rfl, rfl, t, _, _, .ref kp.1, rfl, rfl, SqT.of' (s2 _ _ B.tu), at_prev h0 (by rw [List.getElem?_map, ep]; rfl), ?_⟩
          refine ⟨kk.1, kp.1, kk.2, kp.2, rfl, rfl, SqT.of' (s2 _ _ (B.el kk hm)), SqT.of' (s2 _ _ (B.el kp hmp)), _, rfl, ?_⟩
          have hlt : kp.2.code < kk.2.code := pw_prev O.asc h0 (by rw [List.getElem?_map, ep]; rfl) (by rw [List.getElem?_map, ek]; rfl)
          rw [not_leq hn hokp hok hlt]
          exact iteF ⟨_, _, rfl, s2⟩
      · rintro σ H' ⟨v2, v3, rfl, s1⟩
        exact k H' s1
    · refine ⟨_, rfl, _, _, _, _, false, rfl, .ty "tuple", ty, hk, _, rfl, iteT ?_⟩
      exact ⟨by show 1 ≤ 1000; decide, fun a ha => bad_mk ha (.inl rfl) ke⟩
    · have hS : ∀ {H' : Hp}, Same H H' → SqT K H' t ((ks.map fun k => V.ref k.1) ++ x :: ys) := fun s => SqT.of' (s _ _ ht)
      refine ⟨_, rfl, _, _, _, _, true, rfl, .ty "tuple", tyT (hS (Same.refl H)), kit_ty (by decide +kernel), _, rfl, iteF ?_⟩
      refine ⟨_, rfl, t, _, rfl, hS (Same.refl H), ?_⟩
      refine for_it walk_enumT (fun i σ H' => i ≤ ks.length ∧ ∃ v2 v3, σ = [some (.int n), some (.ref t), v2, v3] ∧ Same H H') ⟨Nat.zero_le _, _, _, rfl, Same.refl H⟩ (fun i σ H' _ ⟨_, _, _, _, s1⟩ => hS s1) ?_ ?_
      · rintro i y σ H1 H2 hi ⟨hik, v2, v3, rfl, s1⟩ ⟨T, x1, x2, rfl, hT, rfl, e1, e2⟩
        have e1' : V.int (i : Nat) = x1 := Option.some.inj e1
        subst e1'
        have e2 : ((ks.map fun k => V.ref k.1) ++ x :: ys)[i]? = some x2 := e2
        have s2 : Same H (upd H1 T (.tup [.int (i : Nat), x2])) := s1.trans (same_upd hT)
        refine ⟨T, _, rfl, SqT.of' upd_same, rfl, _, _, rfl, _, _, rfl, rfl, ?_⟩
        have hlen : (ks.map fun k => V.ref k.1).length = ks.length := List.length_map ..
        rcases Nat.lt_or_ge i ks.length with hlt | hge
        · rw [List.getElem?_append_left (by rw [hlen]; exact hlt), List.getElem?_map] at e2
          cases ek : ks[i]? with
          | none => rw [ek] at e2; cases e2
          | some kk =>
            rw [ek] at e2
            have e2' : V.ref kk.1 = x2 := Option.some.inj e2
            subst e2'
            have hm : kk ∈ ks := List.mem_of_getElem? ek
            have hok : kk.2.ok n := O.ok _ (List.mem_map.mpr ⟨kk, hm, rfl⟩)
            refine ⟨_, rfl, _, rfl, spIsBar_ok hok (SqT.of' (s2 _ _ (hel kk hm))) ⟨_, rfl, iteF ?_⟩⟩
            refine ⟨_, rfl, _, _, rfl, rfl, _, rfl, ?_⟩
            refine ite2 (fun z => ?_) (fun z => iteF ⟨hlt, _, _, rfl, s2⟩)
            have h0 : 0 < i := by have := of_decide_eq_true z; omega
            obtain ⟨kp, ep⟩ : ∃ kp, ks[i - 1]? = some kp := ⟨ks[i - 1]'(by omega), List.getElem?_eq_getElem (by omega)⟩
            have hmp : kp ∈ ks := List.mem_of_getElem? ep
            have hokp : kp.2.ok n := O.ok _ (List.mem_map.mpr ⟨kp, hmp, rfl⟩)
            refine ⟨_, rfl, _, rfl, _, rfl, _, _, rfl, rfl, t, _, _, .ref kp.1, rfl, rfl, hS s2, at_prev h0 (by rw [List.getElem?_append_left (by rw [hlen]; omega), List.getElem?_map, ep]; rfl), ?_⟩
            refine ⟨kk.1, kp.1, kk.2, kp.2, rfl, rfl, SqT.of' (s2 _ _ (hel kk hm)), SqT.of' (s2 _ _ (hel kp hmp)), _, rfl, ?_⟩
            have hlt2 : kp.2.code < kk.2.code := pw_prev O.asc h0 (by rw [List.getElem?_map, ep]; rfl) (by rw [List.getElem?_map, ek]; rfl)
            rw [not_leq hn hokp hok hlt2]
            exact iteF ⟨hlt, _, _, rfl, s2⟩
        · obtain rfl : i = ks.length := by omega
          have ex2 : x = x2 := by
            rw [List.getElem?_append_right (by rw [hlen]; exact Nat.le_refl _), hlen, Nat.sub_self] at e2
            exact Option.some.inj e2
          subst ex2
          have raise : ∀ (σ' : L2.St), σ'[2]? = some (some (V.int (ks.length : Nat))) → True := fun _ _ => trivial
          clear raise
          rcases hbad with hno | ⟨b, bb, kp, rfl, hb, hbok, h0, hkp, hleq⟩
          · refine ⟨_, rfl, _, rfl, (hno _ s2).sp ⟨_, rfl, iteT ?_⟩⟩
            exact ⟨_, rfl, by show 1 ≤ 1000; decide, fun a ha => bad_mk ha (.inr ⟨_, rfl, by omega, by omega⟩) (ke _ s2)⟩
          · refine ⟨_, rfl, _, rfl, spIsBar_ok hbok (SqT.of' (s2 _ _ hb)) ⟨_, rfl, iteF ?_⟩⟩
            refine ⟨_, rfl, _, _, rfl, rfl, _, rfl, ?_⟩
            have hgt : decide ((ks.length : Int) > 0) = true := decide_eq_true (by omega)
            refine ite2 (fun _ => ?_) (fun z => absurd hgt (by simpa using z))
            have hmp : kp ∈ ks := List.mem_of_getElem? hkp
            refine ⟨_, rfl, _, rfl, _, rfl, _, _, rfl, rfl, t, _, _, .ref kp.1, rfl, rfl, hS s2, at_prev h0 (by rw [List.getElem?_append_left (by rw [hlen]; omega), List.getElem?_map, hkp]; rfl), ?_⟩
            refine ⟨b, kp.1, bb, kp.2, rfl, rfl, SqT.of' (s2 _ _ hb), SqT.of' (s2 _ _ (hel kp hmp)), _, rfl, ?_⟩
            rw [hleq]
            refine iteT ?_
            exact ⟨_, rfl, by show 1 ≤ 1000; decide, fun a ha => bad_mk ha (.inr ⟨_, rfl, by omega, by omega⟩) (ke _ s2)⟩
      · rintro σ H' ⟨hik, _⟩
        rw [List.length_append, List.length_map, List.length_cons] at hik
        omega
end
end DL

set_option Elab.async false
set_option maxRecDepth 100000
namespace DL
open PySem L2
/-! ### drawing: the row of draws stands at r, the script at sc -/
def But (r : Addr) (H H' : Hp) : Prop := ∀ b o, b ≠ r → H b = some o → H' b = some o
theorem But.refl (r : Addr) (H : Hp) : But r H H := fun _ _ _ h => h
theorem But.trans {r : Addr} {H H1 H2 : Hp} (a : But r H H1) (b : But r H1 H2) : But r H H2 := fun c o hc h => b c o hc (a c o hc h)
theorem sbut {r : Addr} {H H' : Hp} (s : Same H H') : But r H H' := fun c o _ h => s c o h
theorem but_upd {r : Addr} {H : Hp} {o : HO} : But r H (upd H r o) := fun c u hc h => by rw [upd_ne hc]; exact h
theorem But.seq {K : PySem.W.Frag} {r : Addr} {H H' : Hp} {a : Addr} {xs : List V} (s : But r H H') (ha : a ≠ r) (h : SqL K H a xs) : SqL K H' a xs := by
  rcases h with (h | ⟨o, h⟩) | h
  · exact .inl (.inl (s _ _ ha h))
  · exact .inl (.inr ⟨o, s _ _ ha h⟩)
  · exact .inr h
theorem But.tup {r : Addr} {H H' : Hp} {a : Addr} {xs : List V} {ys : List V} (s : But r H H') (hr : H r = some (.lst ys)) (h : H a = some (.tup xs)) : H' a = some (.tup xs) :=
  s _ _ (ne_of h hr (by intro z; cases z)) h
structure RowOk (H : Hp) (r sc : Addr) : Prop where
  h : ∃ i m e : Int, H r = some (.lst [.ref sc, .int i, .int m, .int e]) ∧ 0 ≤ i ∧ 0 ≤ m ∧ m < 2147483647 ∧ 0 ≤ e
theorem RowOk.same {H H' : Hp} {r sc : Addr} (R : RowOk H r sc) (s : Same H H') : RowOk H' r sc := by
  obtain ⟨i, m, e, h, q⟩ := R.h
  exact ⟨⟨i, m, e, s _ _ h, q⟩⟩
theorem But.seqR {K : PySem.W.Frag} {r sc : Addr} {H H' : Hp} {a : Addr} {ns : List Int} (s : But r H H') (R : RowOk H r sc) (h : SqL K H a (ns.map V.int)) : SqL K H' a (ns.map V.int) := by
  obtain ⟨i, m, e, hR, _⟩ := R.h
  have nd : ∀ u : HO, H a = some u → u ≠ .lst [.ref sc, .int i, .int m, .int e] → a ≠ r := fun u hu hn z => by
    rw [z, hR] at hu
    exact hn (Option.some.inj hu).symm
  rcases h with (h | ⟨o, h⟩) | h
  · refine .inl (.inl (s _ _ (nd _ h fun z => ?_) h))
    injection z with z
    cases ns with
    | nil => cases z
    | cons n ns => injection z with z _; cases z
  · exact .inl (.inr ⟨o, s _ _ (nd _ h fun z => by cases z) h⟩)
  · exact .inr h
structure spTaken (K : PySem.W.Frag) (vs : List V) (H : Hp) (Q : VK) (_ : XK) : Prop where
  h : ∃ (r sc : Addr) (ns : List Int) (many : Int), vs = [.ref r, .int many] ∧ RowOk H r sc ∧ SqL K H sc (ns.map V.int) ∧ 1 ≤ many ∧ many ≤ 1000 ∧
    ∀ (v : Int) (H' : Hp), 0 ≤ v → v < many → RowOk H' r sc → But r H H' → Q (.int v) H'
section
variable {P : Program} {w : World} {K : PySem.W.Frag} {mg : Str → Option Value} {base : Heap}
theorem scTaken : FnScope ["_law_row", "_law_many", "_law_found", "_law_cell"] ["_law_row", "_law_many"] (defScope sTaken) := ⟨rfl, rfl, rfl, by decide +kernel, rfl, by decide +kernel, by decide +kernel⟩
theorem ok_taken {f : Addr} {fd : FuncData} (F : Fun K "_law_taken" "_law_taken" sTaken f fd) (T : Bt mg) : FnOk P w K mg base CX0 1 f fd ["_law_row", "_law_many"] (spTaken K) := by
  refine F.ok scTaken (fun vs H Q E h => ?_) (fun cdv A outer s H vs Q E hr h => ?_)
  · obtain ⟨r, sc, ns, many, rfl, _⟩ := h.h
    rfl
  · obtain ⟨r, sc, ns, many, rfl, R, S, h1, h2, k⟩ := h.h
    obtain ⟨i, m, e, hR, hi, hm0, hm, he⟩ := R.h
    have dv : CDivW e many := wide_div (b := 10) (by omega) (by omega) (by decide) (by decide)
    refine ⟨_, pss_cons (ps_if (pt_cmpR op_gt (pe_ix ix_list (pv 0) pe_int (fun _ _ => rfl)) pe_int (nomark _))
        (pss_cons (ps_set (i := 2) scTaken.nd rfl (.inl rfl) (pe_op op_mod (pe_callTy call_int1 (by rfl) T.int (by decide +kernel) (pa_cons (pe_ix ix_list (pv 0) pe_int (fun _ _ => rfl)) pa_nil)) (pv 1)))
        (pss_cons (ps_asg (pe_op op_fdivW (pe_ix ix_list (pv 0) pe_int (fun _ _ => rfl)) (pv 1)) (pg_sub (pv 0) pe_int set_list))
        (pss_one (ps_ret (pv 2))))) pss_nil)
      (pss_cons (ps_asg (pe_op op_add (pe_ix ix_list (pv 0) pe_int (fun _ _ => rfl)) pe_int) (pg_sub (pv 0) pe_int set_list))
      (pss_cons (ps_if (pt_cmpR op_gt (pe_ix ix_list (pv 0) pe_int (fun _ _ => rfl)) (pe_callB call_len_seq (by rfl) T.len PySem.boot_len (pa_cons (pe_ix ix_list (pv 0) pe_int (fun _ _ => rfl)) pa_nil)) (nomark _))
        (pss_cons (ps_asg (pe_op op_mod (pe_callTy call_int1 (by rfl) T.int (by decide +kernel) (pa_cons (pe_op op_add (pe_op op_mul (pe_ix ix_list (pv 0) pe_int (fun _ _ => rfl)) pe_int) pe_int) pa_nil)) pe_int) (pg_sub (pv 0) pe_int set_list))
        (pss_one (ps_ret (pe_op op_mod (pe_callTy call_int1 (by rfl) T.int (by decide +kernel) (pa_cons (pe_op op_fdiv (pe_ix ix_list (pv 0) pe_int (fun _ _ => rfl)) pe_int) pa_nil)) (pv 1))))) pss_nil)
      (pss_cons (ps_set (i := 3) scTaken.nd rfl (.inl rfl) (pe_ix ix_list (pe_ix ix_list (pv 0) pe_int (fun _ _ => rfl)) (pe_op op_sub (pe_ix ix_list (pv 0) pe_int (fun _ _ => rfl)) pe_int) (fun _ _ => rfl)))
      (pss_cons (ps_asg (pe_op op_mod (pe_callTy call_int1 (by rfl) T.int (by decide +kernel) (pa_cons (pe_op op_add (pe_op op_add (pe_op op_mul (pe_ix ix_list (pv 0) pe_int (fun _ _ => rfl)) pe_int) (pv 3)) pe_int) pa_nil)) pe_int) (pg_sub (pv 0) pe_int set_list))
      (pss_cons (ps_if (pt_cmpR op_ge (pv 3) (pe_op op_pow pe_int pe_int) (nomark _)) (pss_one (ps_asg (pe_op op_fdivW (pv 3) (pv 1)) (pg_sub (pv 0) pe_int set_list))) pss_nil)
      (pss_one (ps_ret (pe_op op_mod (pe_callTy call_int1 (by rfl) T.int (by decide +kernel) (pa_cons (pv 3) pa_nil)) (pv 1))))))))), ?_⟩
    refine ⟨_, rfl, r, _, _, .int e, rfl, rfl, SqL.of hR, rfl, _, _, rfl, rfl, _, rfl, ?_⟩
    refine ite2 (fun z => ?_) (fun _ => ?_)
    · refine ⟨_, rfl, r, _, _, .int e, rfl, rfl, SqL.of hR, rfl, .inl ⟨_, rfl, _, rfl, _, _, rfl, rfl, (by omega), ?_⟩⟩
      refine ⟨_, rfl, r, _, _, .int e, rfl, rfl, SqL.of hR, rfl, _, rfl, _, _, rfl, rfl, dv, ?_⟩
      refine ⟨_, rfl, r, _, _, 3, rfl, rfl, hR, rfl, _, rfl, ?_⟩
      exact k _ _ (Int.emod_nonneg _ (by omega)) (Int.emod_lt_of_pos _ (by omega)) ⟨⟨i, m, e / many, upd_same, hi, hm0, hm, Int.ediv_nonneg he (by omega)⟩⟩ but_upd
    · refine ⟨_, rfl, r, _, _, .int i, rfl, rfl, SqL.of hR, rfl, _, _, rfl, rfl, ?_⟩
      refine ⟨_, rfl, r, _, _, 1, rfl, rfl, hR, rfl, ?_⟩
      have S1 : SqL K (upd H r (.lst [.ref sc, .int (i + 1), .int m, .int e])) sc (ns.map V.int) := but_upd.seqR R S
      refine ⟨_, rfl, r, _, _, .int (i + 1), rfl, rfl, SqL.of upd_same, rfl, ?_⟩
      refine ⟨_, rfl, r, _, _, .ref sc, rfl, rfl, SqL.of upd_same, rfl, sc, _, rfl, .inl S1, _, _, rfl, rfl, _, rfl, ?_⟩
      refine ite2 (fun z => ?_) (fun z => ?_)
      · refine ⟨_, rfl, r, _, _, .int m, rfl, rfl, SqL.of upd_same, rfl, _, _, rfl, rfl, .inl ⟨by omega, by omega⟩, _, _, rfl, rfl, .inl ⟨_, rfl, _, _, rfl, rfl, (by show (0 : Int) < 2147483647; decide), ?_⟩⟩
        refine ⟨_, rfl, r, _, _, 2, rfl, rfl, upd_same, rfl, ?_⟩
        refine ⟨_, rfl, r, _, _, .int ((m * 48271 + 11) % 2147483647), rfl, rfl, SqL.of upd_same, rfl, _, _, rfl, rfl, ⟨by decide, by decide⟩, .inl ⟨_, rfl, _, rfl, _, _, rfl, rfl, (by omega), ?_⟩⟩
        refine k _ _ (Int.emod_nonneg _ (by omega)) (Int.emod_lt_of_pos _ (by omega)) ⟨⟨i + 1, (m * 48271 + 11) % 2147483647, e, upd_same, by omega, Int.emod_nonneg _ (by decide), Int.emod_lt_of_pos _ (by decide), he⟩⟩ (but_upd.trans but_upd)
      · have hlt : i < ns.length := by
          have := of_decide_eq_false (by simpa using z : decide ((ns.map V.int).length < i + 1) = false)
          rw [List.length_map] at this
          omega
        have hc : ∃ c, ns[i.toNat]? = some c := ⟨ns[i.toNat]'(by omega), List.getElem?_eq_getElem (by omega)⟩
        obtain ⟨c, hc⟩ := hc
        have hat : atI (ns.map V.int) ((i + 1) - 1) = some (.int c) := by
          have e1 : (i + 1) - 1 = ((i.toNat : Nat) : Int) := by omega
          rw [e1]
          exact atI_nat (by rw [List.getElem?_map, hc]; rfl)
        refine ⟨_, rfl, r, _, _, .ref sc, rfl, rfl, SqL.of upd_same, rfl, _, rfl, r, _, _, .int (i + 1), rfl, rfl, SqL.of upd_same, rfl, _, _, rfl, rfl, sc, _, _, .int c, rfl, rfl, S1, hat, ?_⟩
        refine ⟨_, rfl, r, _, _, .int m, rfl, rfl, SqL.of upd_same, rfl, _, _, rfl, rfl, .inl ⟨by omega, by omega⟩, _, rfl, _, _, rfl, rfl, _, _, rfl, rfl, .inl ⟨_, rfl, _, _, rfl, rfl, (by show (0 : Int) < 2147483647; decide), ?_⟩⟩
        refine ⟨_, rfl, r, _, _, 2, rfl, rfl, upd_same, rfl, ?_⟩
        refine ⟨_, rfl, _, _, rfl, rfl, ⟨by decide, by decide, by decide⟩, _, _, rfl, rfl, _, rfl, ?_⟩
        have m1 := Int.emod_nonneg (m * 48271 + c + 11) (show (2147483647 : Int) ≠ 0 by decide)
        have m2 := Int.emod_lt_of_pos (m * 48271 + c + 11) (show (0 : Int) < 2147483647 by decide)
        have v1 := Int.emod_nonneg c (show many ≠ 0 by omega)
        have v2 := Int.emod_lt_of_pos c (show 0 < many by omega)
        refine ite2 (fun z => ?_) (fun _ => ?_)
        · have hc0 : (10 : Int) ^ (18 : Int).toNat ≤ c := of_decide_eq_true z
          have hc1 : 0 ≤ c := by
            have : (0 : Int) ≤ (10 : Int) ^ (18 : Int).toNat := by decide
            omega
          refine ⟨_, rfl, _, rfl, _, _, rfl, rfl, wide_div (b := 10) (by omega) (by omega) (by decide) (by decide), ?_⟩
          refine ⟨_, rfl, r, _, _, 3, rfl, rfl, upd_same, rfl, ?_⟩
          refine ⟨_, rfl, .inl ⟨_, rfl, _, rfl, _, _, rfl, rfl, (by omega), ?_⟩⟩
          exact k _ _ v1 v2 ⟨⟨i + 1, _, c / many, upd_same, by omega, m1, m2, Int.ediv_nonneg hc1 (by omega)⟩⟩ ((but_upd.trans but_upd).trans but_upd)
        · refine ⟨_, rfl, .inl ⟨_, rfl, _, rfl, _, _, rfl, rfl, (by omega), ?_⟩⟩
          exact k _ _ v1 v2 ⟨⟨i + 1, _, e, upd_same, by omega, m1, m2, he⟩⟩ (but_upd.trans but_upd)
end
end DL

set_option Elab.async false
set_option maxRecDepth 100000

set_option Elab.async false
set_option maxRecDepth 100000
namespace DL
open PySem L2
/-! ### rules with the written part named, for blocks within blocks -/
theorem boot_all_ : bootBuiltins ("all" : Str) = some (.builtin "all") := by decide +kernel
end DL

set_option Elab.async false
set_option maxRecDepth 100000
namespace DL
open PySem L2 HT TL
/-! ### standings: a truth value a drawer (true: open) -/
def sg (b : Bool) : Nat := if b = true then 111 else 115
def sstr (st : List Bool) : Str := ⟨(st.map sg).toArray⟩
theorem sstr_tl (st : List Bool) : (sstr st).cps.toList = st.map sg := by simp [sstr]
theorem sstr_len (st : List Bool) : (sstr st).length = st.length := by
  show (sstr st).cps.size = st.length
  rw [← Array.length_toList, sstr_tl, List.length_map]
theorem sg_inj : ∀ {a b : Bool}, sg a = sg b → a = b := by decide
theorem sstr_inj {a b : List Bool} (h : sstr a = sstr b) : a = b := by
  have h1 : a.map sg = b.map sg := by rw [← sstr_tl, ← sstr_tl, h]
  have : ∀ {a b : List Bool}, a.map sg = b.map sg → a = b := by
    intro a
    induction a with
    | nil => intro b h; cases b with | nil => rfl | cons y b => simp at h
    | cons x a ih =>
      intro b h
      cases b with
      | nil => simp at h
      | cons y b =>
        rw [List.map_cons, List.map_cons] at h
        injection h with h1 h2
        rw [sg_inj h1, ih h2]
  exact this h1
def sat (st : List Bool) (i : Int) : Bool := st.getD i.toNat false
theorem sstr_at {st : List Bool} {i : Int} (h0 : 0 ≤ i) (h1 : i < st.length) : atI (sstr st).cps.toList i = some (sg (sat st i)) := by
  have e : i = ((i.toNat : Nat) : Int) := by omega
  have hl : i.toNat < st.length := by omega
  rw [e]
  refine atI_nat ?_
  rw [sstr_tl, List.getElem?_map]
  unfold sat
  rw [Int.toNat_natCast, List.getD_eq_getElem?_getD, List.getElem?_eq_getElem hl]
  rfl
def sgn (b : Bool) : Str := if b = true then "s" else "o"
theorem sgs_sgn (x b : Bool) : decide ((V.str ⟨#[sg x]⟩) = V.str (sgn b)) = (x != b) := by revert x b; decide +kernel
theorem sgs_s (x : Bool) : decide ((V.str ⟨#[sg x]⟩) = V.str "s") = !x := by revert x; decide +kernel
/-- whether the bar stands against the pull -/
def hind (b : Bar) (st : List Bool) (d : Int) : Bool := decide (b.d = d) && ((sat st d == b.w) && (sat st b.o == b.t))
def goesB (bs : List Bar) (st : List Bool) (d : Int) : Bool := !(bs.any fun b => hind b st d)
def flip (st : List Bool) (d : Int) : List Bool := st.set d.toNat (!sat st d)
theorem flip_len (st : List Bool) (d : Int) : (flip st d).length = st.length := by unfold flip; rw [List.length_set]
def drs (n : Nat) : List Int := (List.range n).map fun (i : Nat) => (i : Int)
def freeL (bs : List Bar) (st : List Bool) : List Int := (drs st.length).filter fun d => goesB bs st d
/-- the table of signs -/
structure SgT (K : PySem.W.Frag) (w : World) (mg : Str → Option Value) (aS : Addr) : Prop where
  g : mg "SIGNS" = some (.ref aS)
  o : KDct K w aS "open" (.str "o")
  s : KDct K w aS "shut" (.str "s")
theorem SgT.at {K : PySem.W.Frag} {w : World} {mg : Str → Option Value} {aS : Addr} (T : SgT K w mg aS) (b : Bool) : KDct K w aS (wd b) (.str (sgn b)) := by
  cases b
  · exact T.o
  · exact T.s
structure spHold (K : PySem.W.Frag) (vs : List V) (H : Hp) (Q : VK) (_ : XK) : Prop where
  h : ∃ (a : Addr) (b : Bar) (st : List Bool) (d : Int), vs = [.ref a, .str (sstr st), .int d] ∧ SqT K H a b.vs ∧ b.ok st.length ∧ st.length ≤ 7 ∧ 0 ≤ d ∧ d < st.length ∧ Q (.bl (hind b st d)) H
structure spMoved (vs : List V) (H : Hp) (Q : VK) (_ : XK) : Prop where
  h : ∃ (st : List Bool) (d : Int), vs = [.str (sstr st), .int d] ∧ st.length ≤ 7 ∧ 0 ≤ d ∧ d < st.length ∧ ∀ H', Same H H' → Q (.str (sstr (flip st d))) H'
theorem str_small {st : List Bool} (h : st.length ≤ 7) : (sstr st).length ≤ sizeLine := by rw [sstr_len]; exact Nat.le_of_lt (small1000 (by omega))
theorem cut_flip (st : List Bool) (d : Int) (h0 : 0 ≤ d) (h1 : d < st.length) (x : Str) (hx : x.cps.toList = [sg (!sat st d)]) : (cutS (sstr st) none (some d) ++ x) ++ cutS (sstr st) (some (d + 1)) none = sstr (flip st d) := by
  refine PyProof.Rows.ext_toList ?_
  obtain ⟨k, rfl⟩ : ∃ k : Nat, d = (k : Int) := ⟨d.toNat, by omega⟩
  have hk : k < st.length := by omega
  have e1 : ((k : Int) + 1) = ((k + 1 : Nat) : Int) := by omega
  have t1 : tl (cutS (sstr st) none (some (k : Int))) = (st.map sg).take k := by
    unfold tl cutS
    rw [HT.sIx_none, HT.sIx_nat, sstr_len, sstr_tl]
    simp [Nat.min_eq_left (Nat.le_of_lt hk)]
  have t2 : tl (cutS (sstr st) (some ((k : Int) + 1)) none) = (st.map sg).drop (k + 1) := by
    unfold tl cutS
    rw [e1, HT.sIx_none, HT.sIx_nat, sstr_len, sstr_tl]
    simp only [Nat.min_eq_left (show k + 1 ≤ st.length by omega)]
    rw [List.take_of_length_le (by rw [List.length_drop, List.length_map]; omega)]
  show tl _ = tl _
  rw [tl_append, tl_append, t1, t2, show tl x = _ from hx, show tl (sstr (flip st (k : Int))) = _ from sstr_tl _]
  unfold flip
  rw [Int.toNat_natCast, List.map_set, List.set_eq_take_append_cons_drop, if_pos (by rw [List.length_map]; exact hk)]
  simp
section
variable {P : Program} {w : World} {K : PySem.W.Frag} {mg : Str → Option Value} {base : Heap}
theorem scHinders : FnScope ["bar", "standing", "drawer", "barred", "way", "other", "stand"] ["bar", "standing", "drawer"] (defScope s_hinders) := ⟨rfl, rfl, rfl, by decide +kernel, rfl, by decide +kernel, by decide +kernel⟩
theorem ok_hinders {f aS : Addr} {fd : FuncData} (F : Fun K "hinders" "hinders" s_hinders f fd) (T : SgT K w mg aS) : FnOk P w K mg base CX0 1 f fd ["bar", "standing", "drawer"] (spHold K) := by
  refine F.ok scHinders (fun vs H Q E h => ?_) (fun cdv A outer s H vs Q E hr h => ?_)
  · obtain ⟨a, b, st, d, rfl, _⟩ := h.h
    rfl
  · obtain ⟨a, b, st, d, rfl, hq, hb, h7, d0, d1, k⟩ := h.h
    obtain ⟨b1, b2, b3, b4, b5⟩ := hb
    refine ⟨_, pss_cons (ps_asg (pv 0) (pg_tup (by rfl) (pgs_cons (pg_name (i := 3) scHinders.nd rfl (.inl rfl)) (pgs_cons (pg_name (i := 4) scHinders.nd rfl (.inl rfl)) (pgs_cons (pg_name (i := 5) scHinders.nd rfl (.inl rfl)) (pgs_cons (pg_name (i := 6) scHinders.nd rfl (.inl rfl)) pgs_nil))))))
      (pss_cons (ps_if (PW.pt (pw_or (pt_cmpR op_ne (pv 3) (pv 2) (nomark _)) (pw_or1 (pt_cmpR op_eq (pe_ix ix_str (pv 1) (pv 2) (fun _ _ => rfl)) (pe_ix ix_kdict (pe_glob (v := .ref aS) rfl T.g rfl) (pv 4) (fun _ _ => rfl)) (nomark _))))) (pss_one (ps_ret pe_bl)) pss_nil)
      (pss_one (ps_ret (pe_cmpR op_ne (pe_ix ix_str (pv 1) (pv 5) (fun _ _ => rfl)) (pe_ix ix_kdict (pe_glob (v := .ref aS) rfl T.g rfl) (pv 6) (fun _ _ => rfl)) (nomark _))))), ?_⟩
    refine ⟨_, rfl, a, _, rfl, hq, rfl, _, _, rfl, _, _, rfl, _, _, rfl, _, _, rfl, rfl, ?_⟩
    refine ⟨_, rfl, _, rfl, rfl, _, rfl, ?_⟩
    have e0 : decide ((V.int b.d) = V.int d) = decide (b.d = d) := decide_eq_decide.mpr ⟨fun z => by injection z, fun z => by rw [z]⟩
    show if (!decide ((V.int b.d) = V.int d)) = true then _ else _
    rw [e0]
    by_cases q : b.d = d
    · rw [decide_eq_true q]
      refine iteF ?_
      refine ⟨_, rfl, _, rfl, _, d, _, rfl, rfl, str_small h7, sstr_at d0 d1, _, rfl, aS, wd b.w, _, rfl, rfl, T.at b.w, rfl, _, rfl, ?_⟩
      show if decide ((V.str ⟨#[sg (sat st d)]⟩) = V.str (sgn b.w)) = true then _ else _
      rw [sgs_sgn]
      unfold hind at k
      rw [decide_eq_true q] at k
      cases e : (sat st d != b.w) with
      | true =>
        have e' : (sat st d == b.w) = false := by rw [bne, Bool.not_eq_true'] at e; exact e
        rw [e'] at k
        exact iteT k
      | false =>
        have e' : (sat st d == b.w) = true := by rw [bne, Bool.not_eq_false'] at e; exact e
        rw [e'] at k
        refine iteF ?_
        refine ⟨_, rfl, _, rfl, _, b.o, _, rfl, rfl, str_small h7, sstr_at b3 b4, _, rfl, aS, wd b.t, _, rfl, rfl, T.at b.t, rfl, ?_⟩
        show Q (.bl (!decide ((V.str ⟨#[sg (sat st b.o)]⟩) = V.str (sgn b.t)))) H
        rw [sgs_sgn, bne, Bool.not_not]
        exact k
    · rw [decide_eq_false q]
      unfold hind at k
      rw [decide_eq_false q] at k
      exact iteT k
theorem scMoved : FnScope ["standing", "drawer", "word"] ["standing", "drawer"] (defScope s_moved) := ⟨rfl, rfl, rfl, by decide +kernel, rfl, by decide +kernel, by decide +kernel⟩
theorem ok_moved {f aS : Addr} {fd : FuncData} (F : Fun K "moved" "moved" s_moved f fd) (T : SgT K w mg aS) : FnOk P w K mg base CX0 1 f fd ["standing", "drawer"] spMoved := by
  refine F.ok scMoved (fun vs H Q E h => ?_) (fun cdv A outer s H vs Q E hr h => ?_)
  · obtain ⟨st, d, rfl, _⟩ := h.h
    rfl
  · obtain ⟨st, d, rfl, h7, d0, d1, k⟩ := h.h
    refine ⟨_, pss_cons (ps_set (i := 2) scMoved.nd rfl (.inl rfl) (pe_ifExp (pt_cmpR op_eq (pe_ix ix_str (pv 0) (pv 1) (fun _ _ => rfl)) (pe_ix ix_kdict (pe_glob (v := .ref aS) rfl T.g rfl) pe_str (fun _ _ => rfl)) (nomark _)) pe_str pe_str))
      (pss_one (ps_ret (pe_op op_add_str (pe_op op_add_str (pe_slice sl_str (pv 0) po_none (po_some (pv 1))) (pe_ix ix_kdict (pe_glob (v := .ref aS) rfl T.g rfl) (pv 2) (fun _ _ => rfl))) (pe_slice sl_str (pv 0) (po_some (pe_op op_add (pv 1) pe_int)) po_none)))), ?_⟩
    refine ⟨_, rfl, _, rfl, _, d, _, rfl, rfl, str_small h7, sstr_at d0 d1, aS, _, _, rfl, rfl, T.s, rfl, _, rfl, ?_⟩
    show if decide ((V.str ⟨#[sg (sat st d)]⟩) = V.str "s") = true then _ else _
    rw [sgs_s]
    have fin : ∀ x : Bool, x = sat st d → (∃ v, ((L2.start ["standing", "drawer", "word"] [.str (sstr st), .int d]).set 2 (some (.str (wd x))))[0]? = some (some v) ∧ (∃ z, v = .str z ∧ ∃ i, i = d ∧ True)) → True := fun _ _ _ => trivial
    have small : ∀ a b : Str, a.length ≤ 7 → b.length ≤ 7 → a.length + b.length ≤ sizeLine := fun a b ha hb => Nat.le_of_lt (small1000 (by omega))
    have c7 : ∀ lo hi, (cutS (sstr st) lo hi).length ≤ 7 := fun lo hi => by
      show (cutS (sstr st) lo hi).cps.size ≤ 7
      unfold cutS
      rw [List.size_toArray, List.length_take, List.length_drop, sstr_tl, List.length_map]
      omega
    have one : ∀ b : Bool, (sgn b).length ≤ 7 ∧ (sgn b).cps.toList = [sg (!b)] := by decide +kernel
    have app : ∀ a b : Str, (a ++ b).length = a.length + b.length := fun a b => by
      show (a ++ b).cps.size = a.cps.size + b.cps.size
      rw [← Array.length_toList, ← Array.length_toList, ← Array.length_toList]
      exact (congrArg List.length (tl_append a b)).trans (List.length_append ..)
    cases e : sat st d with
    | false =>
      refine iteT ?_
      refine ⟨_, rfl, _, rfl, _, rfl, _, rfl, str_small h7, _, rfl, aS, wd false, _, rfl, rfl, T.at false, _, _, rfl, rfl, small _ _ (c7 _ _) (one false).1, ?_⟩
      refine ⟨_, rfl, _, rfl, _, _, rfl, rfl, _, rfl, _, rfl, str_small h7, _, _, rfl, rfl, ?_, ?_⟩
      · have h1 := c7 none (some d)
        have h2 := (one false).1
        have h3 := c7 (some (d + 1)) none
        have h4 := app (cutS (sstr st) none (some d)) (sgn false)
        exact Nat.le_of_lt (small1000 (by omega))
      · have := k H (Same.refl H)
        rw [← cut_flip st d d0 d1 (sgn false) (by rw [(one false).2, e])] at this
        exact this
    | true =>
      refine iteF ?_
      refine ⟨_, rfl, _, rfl, _, rfl, _, rfl, str_small h7, _, rfl, aS, wd true, _, rfl, rfl, T.at true, _, _, rfl, rfl, small _ _ (c7 _ _) (one true).1, ?_⟩
      refine ⟨_, rfl, _, rfl, _, _, rfl, rfl, _, rfl, _, rfl, str_small h7, _, _, rfl, rfl, ?_, ?_⟩
      · have h1 := c7 none (some d)
        have h2 := (one true).1
        have h3 := c7 (some (d + 1)) none
        have h4 := app (cutS (sstr st) none (some d)) (sgn true)
        exact Nat.le_of_lt (small1000 (by omega))
      · have := k H (Same.refl H)
        rw [← cut_flip st d d0 d1 (sgn true) (by rw [(one true).2, e])] at this
        exact this
end
end DL

set_option Elab.async false
set_option maxRecDepth 100000
namespace DL
open PySem L2 HT TL
theorem new_at {H : Hp} {a : Addr} {o : HO} (h : H a = none) : Same H (upd H a o) ∧ (upd H a o) a = some o := ⟨same_upd h, upd_same⟩
/-! ### comprehensions that pick, in one word -/
theorem take_pick {α : Type} (p : α → Bool) (v : α → V) {l : List α} {i : Nat} {z : α} (h : l[i]? = some z) :
    ((l.take (i + 1)).filter p).map v = if p z = true then ((l.take i).filter p).map v ++ [v z] else ((l.take i).filter p).map v := by
  obtain ⟨hl, e⟩ := List.getElem?_eq_some_iff.mp h
  rw [List.take_succ_eq_append_getElem hl, List.filter_append, e]
  by_cases q : p z = true
  · rw [if_pos q, List.filter_cons_of_pos q, List.filter_nil, List.map_append]
    rfl
  · rw [if_neg q, List.filter_cons_of_neg q, List.filter_nil, List.append_nil]
/-- what a comprehension asks once its walk is told -/
def lcC (J : It) (g : TG) (tt : TT) (te : TE) (vs : List Nat) (σ : L2.St) (Q : VK) (H1 : Hp) : Prop := ∀ D, H1 D = none → ∃ W : Nat → Nat → Hp → Prop, (∃ m, W 0 m (upd H1 D (.lst []))) ∧ ∀ i m H, W i m H →
  (J.stop i H ∧ Q (.ref D) H) ∨ (J.go i H ∧ ∃ Nx : Hp → Prop, (∀ H', Nx H' → ∃ m', m' < m ∧ W (i + 1) m' H') ∧ ∀ x H', J.yld i H x H' → g x (wipe σ vs) H' fun σ2 H2 => wipe σ2 vs = wipe σ vs ∧ tt σ2 H2 fun b H3 =>
    if b = true then te σ2 H3 fun y H4 => ∃ acc, H4 D = some (.lst acc) ∧ acc.length < sizeLine ∧ Nx (upd H4 D (.lst (acc ++ [y]))) else Nx H3)
theorem lc_pick {α : Type} {J : It} {n : Nat} {G : Hp → Prop} {Y : Nat → Hp → V → Hp → Prop} (wk : Walk J n G Y) (l : List α) (hl : l.length = n) (hn : n ≤ 3000) (p : α → Bool) (v : α → V) {g : TG} {tt : TT} {te : TE} {vs : List Nat} {σ : L2.St} {H1 : Hp} {D : Addr} {Qd : Hp → Prop}
    (hD : H1 D = none) (hG : ∀ H, Same H1 H → G H)
    (hs : ∀ i x z H H' (Tk : V → Hp → Prop) (Nk : Hp → Prop), l[i]? = some z → Same H1 H → Y i H x H' → (∀ H4, p z = true → Same H H4 → Tk (v z) H4) → (∀ H4, p z = false → Same H H4 → Nk H4) →
      g x (wipe σ vs) H' fun σ2 H2 => wipe σ2 vs = wipe σ vs ∧ tt σ2 H2 fun b H3 => if b = true then te σ2 H3 Tk else Nk H3)
    (hd : ∀ H, Same H1 H → H D = some (.lst ((l.filter p).map v)) → Qd H) :
    ∃ W : Nat → Nat → Hp → Prop, (∃ m, W 0 m (upd H1 D (.lst []))) ∧ ∀ i m H, W i m H →
      (J.stop i H ∧ Qd H) ∨ (J.go i H ∧ ∃ Nx : Hp → Prop, (∀ H', Nx H' → ∃ m', m' < m ∧ W (i + 1) m' H') ∧ ∀ x H', J.yld i H x H' → g x (wipe σ vs) H' fun σ2 H2 => wipe σ2 vs = wipe σ vs ∧ tt σ2 H2 fun b H3 =>
        if b = true then te σ2 H3 fun y H4 => ∃ acc, H4 D = some (.lst acc) ∧ acc.length < sizeLine ∧ Nx (upd H4 D (.lst (acc ++ [y]))) else Nx H3) := by
  refine lc_it wk (fun i H' => Same H1 H' ∧ H' D = some (.lst (((l.take i).filter p).map v))) ⟨same_upd hD, upd_same⟩ (fun i H' _ q => hG H' q.1) ?_ ?_
  · rintro i x H H' hi ⟨s1, hD1⟩ y
    have hi' : i < l.length := by omega
    have ez : l[i]? = some l[i] := List.getElem?_eq_getElem hi'
    refine hs i x l[i] H H' _ _ ez s1 y (fun H4 hp s4 => ?_) (fun H4 hp s4 => ?_)
    · refine ⟨_, s4 _ _ hD1, ?_, fun b o e => ?_, ?_⟩
      · rw [List.length_map]
        have h1 := List.length_filter_le p (l.take i)
        rw [List.length_take] at h1
        have h2 : (3000 : Nat) < sizeLine := by decide
        omega
      · rw [upd_ne (ne_of_none e hD)]
        exact s4 _ _ (s1 b o e)
      · rw [upd_same, take_pick p v ez, if_pos hp]
    · refine ⟨s1.trans s4, ?_⟩
      rw [take_pick p v ez, if_neg (by rw [hp]; exact Bool.false_ne_true)]
      exact s4 _ _ hD1
  · rintro H ⟨s1, hD1⟩
    rw [← hl, List.take_length] at hD1
    exact hd H s1 hD1
/-! ### walks over the bars of a tuple -/
theorem walk_bars {K : PySem.W.Frag} {a : Addr} {α : Type} {l : List α} {f : α → V} : Walk (Itt K a) l.length (fun H => SqT K H a (l.map f)) (fun i H x H' => H' = H ∧ ∃ z, l[i]? = some z ∧ x = f z) := by
  have e : l.length = (l.map f).length := by rw [List.length_map]
  rw [e]
  refine (walk_tup (K := K) (a := a) (xs := l.map f)).mono (fun H h => h) fun i H x H' _ _ y => ⟨y.1, ?_⟩
  have h := y.2
  rw [List.getElem?_map] at h
  cases q : l[i]? with
  | none => rw [q] at h; cases h
  | some z => rw [q] at h; cases h; exact ⟨z, rfl, rfl⟩
end DL

set_option Elab.async false
set_option maxRecDepth 100000
namespace DL
open PySem L2 HT TL
structure CabOk (C : Addr) (H : Hp) (c : Addr) (n : Int) (bs : List Bar) : Prop where
  h : ∃ (t : Addr) (ks : List (Addr × Bar)), CabAt C H c n t ∧ BarsAt H t ks ∧ ks.map (·.2) = bs ∧ OkBars n bs ∧ 1 ≤ n ∧ n ≤ 7 ∧ bs.length ≤ 100
theorem tYes_of {σ : L2.St} {H : Hp} {Q : Bool → Hp → Prop} (h : Q true H) : tYes σ H Q := h
theorem CabOk.same {C : Addr} {H H' : Hp} {c : Addr} {n : Int} {bs : List Bar} (B : CabOk C H c n bs) (s : Same H H') : CabOk C H' c n bs := by
  obtain ⟨t, ks, ⟨dx, h1⟩, h2, h3⟩ := B.h
  exact ⟨⟨t, ks, ⟨dx, s _ _ h1⟩, h2.same s, h3⟩⟩
structure spGetD (C : Addr) (vs : List V) (H : Hp) (Q : VK) (_ : XK) : Prop where
  h : ∃ (c dx : Addr) (n : Int) (t : Addr), vs = [.ref c] ∧ H c = some (.ins C dx (cfl n t)) ∧ Q (.int n) H
structure spGetB (C : Addr) (vs : List V) (H : Hp) (Q : VK) (_ : XK) : Prop where
  h : ∃ (c dx : Addr) (n : Int) (t : Addr), vs = [.ref c] ∧ H c = some (.ins C dx (cfl n t)) ∧ Q (.ref t) H
/-- the two properties of the class -/
structure CabP (P : Program) (w : World) (K : PySem.W.Frag) (mg : Str → Option Value) (base : Heap) (C : Addr) : Prop where
  cl : Cls K C
  d : ∃ p g fd, PropOf K C "drawers" p g ∧ FnOk P w K mg base CX0 1 g fd ["self"] (spGetD C) ∧ Binds K fd ["self"] []
  b : ∃ p g fd, PropOf K C "bars" p g ∧ FnOk P w K mg base CX0 1 g fd ["self"] (spGetB C) ∧ Binds K fd ["self"] []
structure spGoes (C : Addr) (vs : List V) (H : Hp) (Q : VK) (_ : XK) : Prop where
  h : ∃ (c : Addr) (bs : List Bar) (st : List Bool) (d : Int), vs = [.ref c, .str (sstr st), .int d] ∧ CabOk C H c st.length bs ∧ 0 ≤ d ∧ d < st.length ∧ ∀ H', Same H H' → Q (.bl (goesB bs st d)) H'
structure spBarring (C : Addr) (vs : List V) (H : Hp) (Q : VK) (_ : XK) : Prop where
  h : ∃ (c t : Addr) (ks : List (Addr × Bar)) (st : List Bool) (d : Int), vs = [.ref c, .str (sstr st), .int d] ∧ CabAt C H c st.length t ∧ BarsAt H t ks ∧ OkBars st.length (ks.map (·.2)) ∧ st.length ≤ 7 ∧ ks.length ≤ 100 ∧ 0 ≤ d ∧ d < st.length ∧
    ∀ (p : Addr) (H' : Hp), H p = none → Same H H' → H' p = some (.lst ((ks.filter fun k => hind k.2 st d).map fun k => V.ref k.1)) → Q (.ref p) H'
section
variable {P : Program} {w : World} {K : PySem.W.Frag} {mg : Str → Option Value} {base : Heap}
theorem scDrawers : FnScope ["self"] ["self"] (defScope sDrawers) := ⟨rfl, rfl, rfl, by decide +kernel, rfl, by decide +kernel, by decide +kernel⟩
theorem ok_getD {f C : Addr} {fd : FuncData} (F : Fun K "drawers" "Cabinet.drawers" sDrawers f fd) (T : CabT K mg C) : FnOk P w K mg base CX0 1 f fd ["self"] (spGetD C) := by
  refine F.ok scDrawers (fun vs H Q E h => ?_) (fun cdv A outer s H vs Q E hr h => ?_)
  · obtain ⟨c, dx, n, t, rfl, _⟩ := h.h
    rfl
  · obtain ⟨c, dx, n, t, rfl, hc, k⟩ := h.h
    exact ⟨_, pss_one (ps_ret (pe_fld (pv 0) rfl)), ⟨_, rfl, c, C, dx, _, _, rfl, hc, T.cl, T.nD, cfl_d n t, k⟩⟩
theorem scBars : FnScope ["self"] ["self"] (defScope sBars) := ⟨rfl, rfl, rfl, by decide +kernel, rfl, by decide +kernel, by decide +kernel⟩
theorem ok_getB {f C : Addr} {fd : FuncData} (F : Fun K "bars" "Cabinet.bars" sBars f fd) (T : CabT K mg C) : FnOk P w K mg base CX0 1 f fd ["self"] (spGetB C) := by
  refine F.ok scBars (fun vs H Q E h => ?_) (fun cdv A outer s H vs Q E hr h => ?_)
  · obtain ⟨c, dx, n, t, rfl, _⟩ := h.h
    rfl
  · obtain ⟨c, dx, n, t, rfl, hc, k⟩ := h.h
    exact ⟨_, pss_one (ps_ret (pe_fld (pv 0) rfl)), ⟨_, rfl, c, C, dx, _, _, rfl, hc, T.cl, T.nB, cfl_b n t, k⟩⟩
abbrev nGoes : List Str := ["cabinet", "standing", "drawer", "bar"]
theorem scAg : FnScope nGoes ["cabinet", "standing", "drawer"] (defScope s_bars_against) := ⟨rfl, rfl, rfl, by decide +kernel, rfl, by decide +kernel, by decide +kernel⟩
theorem ok_against {f f1 C : Addr} {fd fd1 : FuncData} (F : Fun K "bars_against" "bars_against" s_bars_against f fd) (CP : CabP P w K mg base C) (G : FnOk P w K mg base CX0 1 f1 fd1 ["bar", "standing", "drawer"] (spHold K)) (g1 : mg "hinders" = some (.ref f1)) (k1 : PySem.W.keepIn K (.ref f1) = true) (b1 : Binds K fd1 ["bar", "standing", "drawer"] []) :
    FnOk P w K mg base CX0 4 f fd ["cabinet", "standing", "drawer"] (spBarring C) := by
  refine F.ok scAg (fun vs H Q E h => ?_) (fun cdv A outer s H vs Q E hr h => ?_)
  · obtain ⟨c, t, ks, st, d, rfl, _⟩ := h.h
    rfl
  · obtain ⟨c, t, ks, st, d, rfl, ⟨dx, hc⟩, B, O, n7, n100, d0, d1, k⟩ := h.h
    obtain ⟨pB, gB, fdB, hpB, GB, bB⟩ := CP.b
    refine ⟨_, pss_one (ps_ret (pe_lc (own := [("bar", 3)]) (g := gName 3) (by rfl) scAg.nd (pi_tup (pe_prop (pv 0) CP.cl hpB GB (hr.mono (by decide)) bB .nil pass0 rfl)) (blkOk_by (N := nGoes) (sc := defScope s_bars_against) (by decide +kernel)) (fun _ _ _ _ _ => pg_name (i := 3) scAg.nd rfl (Or.inl rfl))
        (fun _ _ _ _ _ => pts_one (pt_val (pe_call G (hr.mono (by decide)) rfl g1 k1 b1 .nil pass0 (pa_cons (pv 3) (pa_cons (pv 1) (pa_cons (pv 2) pa_nil)))))) (fun _ _ _ _ _ => pv 3))), ?_⟩
    refine ⟨_, rfl, c, dx, _, rfl, hc, ⟨⟨c, dx, _, t, rfl, hc, ?_⟩⟩⟩
    refine ⟨t, rfl, ⟨_, SqT.of' B.tu⟩, fun D hD => ?_⟩
    refine lc_pick (walk_bars (K := K) (a := t) (l := ks) (f := fun k => V.ref k.1)) ks rfl (by omega) (fun k => hind k.2 st d) (fun k => V.ref k.1) hD (fun H' s1 => SqT.of' (s1 _ _ B.tu)) ?_ (fun H' s1 hD1 => k D H' hD s1 hD1)
    rintro i x kk H1 H1' Tk Nk ek s1 ⟨rfl, z, ez, rfl⟩ kT kF
    rw [ek] at ez
    cases ez
    have hm : kk ∈ ks := List.mem_of_getElem? ek
    have hok : kk.2.ok st.length := O.ok _ (List.mem_map.mpr ⟨kk, hm, rfl⟩)
    refine ⟨rfl, ?_⟩
    refine ⟨_, rfl, _, rfl, _, rfl, ⟨⟨kk.1, kk.2, st, d, rfl, SqT.of' (s1 _ _ (B.el kk hm)), hok, by omega, d0, d1, _, rfl, ?_⟩⟩⟩
    cases e : hind kk.2 st d with
    | true => exact iteT ⟨_, rfl, kT _ e (Same.refl _)⟩
    | false => exact iteF (kF _ e (Same.refl _))
theorem goes_empty {ks : List (Addr × Bar)} {bs : List Bar} (e : ks.map (·.2) = bs) (st : List Bool) (d : Int) : ((ks.filter fun k => hind k.2 st d).map fun k => V.ref k.1).isEmpty = goesB bs st d := by
  subst e
  unfold goesB
  induction ks with
  | nil => rfl
  | cons k ks ih =>
    rw [List.map_cons, List.any_cons]
    by_cases q : hind k.2 st d = true
    · rw [List.filter_cons, if_pos q, q]
      rfl
    · rw [List.filter_cons, if_neg q]
      have q' : hind k.2 st d = false := by simpa using q
      rw [q', Bool.false_or]
      exact ih
theorem scGoes : FnScope ["cabinet", "standing", "drawer"] ["cabinet", "standing", "drawer"] (defScope s_goes) := ⟨rfl, rfl, rfl, by decide +kernel, rfl, by decide +kernel, by decide +kernel⟩
theorem ok_goes {f f1 C : Addr} {fd fd1 : FuncData} (F : Fun K "goes" "goes" s_goes f fd) (G : FnOk P w K mg base CX0 4 f1 fd1 ["cabinet", "standing", "drawer"] (spBarring C)) (g1 : mg "bars_against" = some (.ref f1)) (k1 : PySem.W.keepIn K (.ref f1) = true) (b1 : Binds K fd1 ["cabinet", "standing", "drawer"] []) :
    FnOk P w K mg base CX0 6 f fd ["cabinet", "standing", "drawer"] (spGoes C) := by
  refine F.ok scGoes (fun vs H Q E h => ?_) (fun cdv A outer s H vs Q E hr h => ?_)
  · obtain ⟨c, bs, st, d, rfl, _⟩ := h.h
    rfl
  · obtain ⟨c, bs, st, d, rfl, B, d0, d1, k⟩ := h.h
    obtain ⟨t, ks, hc, hB, ebs, O, n1, n7, n100⟩ := B.h
    refine ⟨_, pss_one (ps_ret (pe_notT (pe_call G (hr.mono (by decide)) rfl g1 k1 b1 .nil pass0 (pa_cons (pv 0) (pa_cons (pv 1) (pa_cons (pv 2) pa_nil)))))), ?_⟩
    refine ⟨_, rfl, _, rfl, _, rfl, ⟨⟨c, t, ks, st, d, rfl, hc, hB, by rw [ebs]; exact O, by omega, by rw [← ebs, List.length_map] at n100; exact n100, d0, d1, fun p H' hp s1 h1 => ?_⟩⟩⟩
    refine ⟨_, .inl ⟨_, SqL.of h1, rfl⟩, ?_⟩
    rw [Bool.not_not, goes_empty ebs]
    exact k H' s1
end
end DL

set_option Elab.async false
set_option maxRecDepth 100000
namespace DL
open PySem L2 HT TL
theorem drs_len (n : Nat) : (drs n).length = n := by unfold drs; rw [List.length_map, List.length_range]
/-- a drawn cabinet's parts: the list at p -/
structure DrOk (H : Hp) (p : Addr) (n : Int) (bs : List Bar) : Prop where
  h : ∃ (t : Addr) (ks : List (Addr × Bar)) (zs : List V), H p = some (.lst (.int n :: .ref t :: zs)) ∧ BarsAt H t ks ∧ ks.map (·.2) = bs ∧ OkBars n bs ∧ 1 ≤ n ∧ n ≤ 7 ∧ bs.length ≤ 100
theorem DrOk.same {H H' : Hp} {p : Addr} {n : Int} {bs : List Bar} (B : DrOk H p n bs) (s : Same H H') : DrOk H' p n bs := by
  obtain ⟨t, ks, zs, h1, h2, h3⟩ := B.h
  exact ⟨⟨t, ks, zs, s _ _ h1, h2.same s, h3⟩⟩
end DL

set_option Elab.async false
set_option maxRecDepth 100000

set_option Elab.async false
set_option maxRecDepth 100000

set_option Elab.async false
set_option maxRecDepth 100000
namespace DL
open PySem L2 HT TL
/-! ### the checks -/
structure spSigns (vs : List V) (H : Hp) (Q : VK) (_ : XK) : Prop where
  h : ∃ (n : Int) (y z : Str), vs = [.int n, .str y, .str z] ∧ (y.length : Int) = n ∧ n ≤ 7 ∧ (∀ c ∈ y.cps.toList, c ∈ z.cps.toList) ∧ ∀ H', Same H H' → Q (.bl true) H'
structure spIsStd (vs : List V) (H : Hp) (Q : VK) (_ : XK) : Prop where
  h : ∃ st : List Bool, vs = [.int st.length, .str (sstr st)] ∧ st.length ≤ 7 ∧ ∀ H', Same H H' → Q (.bl true) H'
/-- isinstance of a cabinet -/
structure CabI (K : PySem.W.Frag) (mg : Str → Option Value) (C : Addr) : Prop where
  cl : Cls K C
  mgC : mg "Cabinet" = some (.ref C)
  ha : PySem.W.findIn K (.ref C) "__class__" = some (some (.builtin "object.__class__"))
  hn : PySem.W.specialIn K (.builtin "object.__class__") "__get__" = some (some (.builtin "getset_descriptor.__get__"))
  htk : PySem.W.takesIn K (.builtin "object.__class__") = some true
  hm : PySem.W.mroIn K C (.type "object") = some true
  kk : PySem.W.kitOne K (.ref C) (.ref C) = some true
structure spCkCab (C : Addr) (vs : List V) (H : Hp) (Q : VK) (_ : XK) : Prop where
  h : ∃ (c : Addr) (n : Int) (t : Addr), vs = [.ref c] ∧ CabAt C H c n t ∧ Q .non H
structure spCkStd (C : Addr) (vs : List V) (H : Hp) (Q : VK) (_ : XK) : Prop where
  h : ∃ (c : Addr) (st : List Bool) (t : Addr), vs = [.ref c, .str (sstr st)] ∧ CabAt C H c st.length t ∧ st.length ≤ 7 ∧ ∀ H', Same H H' → Q .non H'
structure spCkDrawer (C : Addr) (vs : List V) (H : Hp) (Q : VK) (_ : XK) : Prop where
  h : ∃ (c : Addr) (n d : Int) (t : Addr), vs = [.ref c, .int d] ∧ CabAt C H c n t ∧ 0 ≤ d ∧ d < n ∧ Q .non H
structure spBehind (C CB : Addr) (vs : List V) (H : Hp) (Q : VK) (E : XK) : Prop where
  h : ∃ (c : Addr) (bs : List Bar) (st : List Bool) (d : Int), vs = [.ref c, .str (sstr st), .int d] ∧ CabOk C H c st.length bs ∧ 0 ≤ d ∧ d < st.length ∧
    (goesB bs st d = true → ∀ H', Same H H' → Q (.str (sstr (flip st d))) H') ∧ (goesB bs st d = false → ∀ H', Same H H' → E (.ref CB) none H')
theorem sstr_codes {st : List Bool} : ∀ c ∈ (sstr st).cps.toList, c ∈ ("os" : Str).cps.toList := fun c hc => by
  rw [sstr_tl] at hc
  obtain ⟨b, _, rfl⟩ := List.mem_map.mp hc
  have z : ∀ b : Bool, sg b ∈ ("os" : Str).cps.toList := by decide +kernel
  exact z b
theorem all_true (n : Nat) : (List.replicate n true).all id = true := by
  rw [List.all_eq_true]
  intro x hx
  exact (List.mem_replicate.mp hx).2 ▸ rfl
theorem CabOk.cab {C : Addr} {H : Hp} {c : Addr} {n : Int} {bs : List Bar} (B : CabOk C H c n bs) : ∃ t, CabAt C H c n t ∧ n ≤ 7 := by
  obtain ⟨t, ks, h1, h2, h3, h4, h5, h6, h7⟩ := B.h
  exact ⟨t, h1, h6⟩
section
variable {P : Program} {w : World} {K : PySem.W.Frag} {mg : Str → Option Value} {base : Heap}
abbrev nHS : List Str := ["drawers", "value", "signs", "sign"]
theorem scHS : FnScope nHS ["drawers", "value", "signs"] (defScope s_has_signs) := ⟨rfl, rfl, rfl, by decide +kernel, rfl, by decide +kernel, by decide +kernel⟩
theorem ok_hasSigns {f : Addr} {fd : FuncData} (F : Fun K "has_signs" "has_signs" s_has_signs f fd) (T : Bt mg) (zS : mg "str" = none) (zA : mg "all" = none) : FnOk P w K mg base CX0 1 f fd ["drawers", "value", "signs"] spSigns := by
  refine F.ok scHS (fun vs H Q E h => ?_) (fun cdv A outer s H vs Q E hr h => ?_)
  · obtain ⟨n, y, z, rfl, _⟩ := h.h
    rfl
  · obtain ⟨n, y, z, rfl, hl, h7, hc, k⟩ := h.h
    refine ⟨_, pss_cons (ps_if (PW.pt (pw_or (pt_not (pt_val (pe_callB call_isi (by rfl) T.isinstance (by decide +kernel) (pa_cons (pv 1) (pa_cons (pe_bltn (v := .ty "str") (by rfl) zS (by decide +kernel) rfl) pa_nil)))))
        (pw_or1 (pt_cmpR op_ne (pe_callB call_len_str (by rfl) T.len PySem.boot_len (pa_cons (pv 1) pa_nil)) (pv 0) (nomark _))))) (pss_one (ps_ret pe_bl)) pss_nil)
      (pss_one (ps_ret (pe_callB (cr_all rfl) (by rfl) zA boot_all_ (pa_cons
        (pe_lc (own := [("sign", 3)]) (g := gName 3) (tt := tYes) (by rfl) scHS.nd (pi_str (pv 1)) (blkOk_by (N := nHS) (sc := defScope s_has_signs) (by decide +kernel)) (fun _ _ _ _ _ => pg_name (i := 3) scHS.nd rfl (by first | exact Or.inl rfl | exact Or.inr rfl)) (fun _ _ _ _ _ => pts_nil)
          (fun _ _ _ _ _ => pe_cmpR op_in_sign (pv 3) (pv 2) (by rfl))) pa_nil)))), ?_⟩
    have ysz : y.length ≤ sizeLine := Nat.le_of_lt (small1000 (by omega))
    refine ⟨_, rfl, _, _, _, _, true, rfl, .ty "str", .base (.str y), kit_ty (by decide +kernel), _, rfl, iteF ?_⟩
    refine ⟨_, rfl, _, rfl, ysz, _, rfl, rfl, _, rfl, ?_⟩
    have e0 : decide ((V.int (y.length : Int)) = V.int n) = true := decide_eq_true (by rw [hl])
    show if (!decide ((V.int (y.length : Int)) = V.int n)) = true then _ else _
    rw [e0]
    refine iteF ?_
    refine ⟨_, rfl, _, rfl, fun D hD => ?_⟩
    refine lc_it walk_str (fun i H' => Same H H' ∧ H' D = some (.lst ((List.replicate i true).map V.bl))) ⟨same_upd hD, upd_same⟩ (fun _ _ _ _ => trivial) ?_ ?_
    · rintro i x H1 H2 hi ⟨s1, hD1⟩ ⟨rfl, c, hcc, rfl⟩
      refine ⟨rfl, tYes_of (iteT ?_)⟩
      have hm : c ∈ z.cps.toList := hc c (List.mem_of_getElem? (by rw [Array.getElem?_toList]; exact hcc))
      refine ⟨_, rfl, _, rfl, c, z, rfl, rfl, ?_⟩
      rw [decide_eq_true hm]
      refine ⟨_, hD1, ?_, fun b o e => ?_, ?_⟩
      · rw [List.length_map, List.length_replicate]
        have : y.length = y.cps.size := rfl
        exact small1000 (by omega)
      · rw [upd_ne (ne_of_none e hD)]
        exact s1 b o e
      · rw [upd_same, List.replicate_succ', List.map_append]
        rfl
    · rintro H' ⟨s1, hD1⟩
      refine ⟨D, _, rfl, SqL.of hD1, ?_⟩
      rw [all_true]
      exact k H' s1
theorem scIsStd : FnScope ["drawers", "value"] ["drawers", "value"] (defScope s_is_standing) := ⟨rfl, rfl, rfl, by decide +kernel, rfl, by decide +kernel, by decide +kernel⟩
theorem ok_isStd {f f1 : Addr} {fd fd1 : FuncData} (F : Fun K "is_standing" "is_standing" s_is_standing f fd) (G : FnOk P w K mg base CX0 1 f1 fd1 ["drawers", "value", "signs"] spSigns) (g1 : mg "has_signs" = some (.ref f1)) (k1 : PySem.W.keepIn K (.ref f1) = true) (b1 : Binds K fd1 ["drawers", "value", "signs"] [])
    (gS : ∃ t, mg "STANDING_SIGNS" = some (.str "os" t)) : FnOk P w K mg base CX0 2 f fd ["drawers", "value"] spIsStd := by
  refine F.ok scIsStd (fun vs H Q E h => ?_) (fun cdv A outer s H vs Q E hr h => ?_)
  · obtain ⟨st, rfl, _⟩ := h.h
    rfl
  · obtain ⟨st, rfl, h7, k⟩ := h.h
    obtain ⟨tS, gS⟩ := gS
    refine ⟨_, pss_one (ps_ret (pe_call G (hr.mono (by decide)) rfl g1 k1 b1 .nil pass0 (pa_cons (pv 0) (pa_cons (pv 1) (pa_cons (pe_glob (v := .str "os") rfl gS ⟨_, rfl⟩) pa_nil))))), ?_⟩
    exact ⟨_, rfl, _, rfl, ⟨⟨_, sstr st, _, rfl, by rw [sstr_len], by omega, sstr_codes, k⟩⟩⟩
theorem scCkCab : FnScope ["cabinet"] ["cabinet"] (defScope s_check_cabinet) := ⟨rfl, rfl, rfl, by decide +kernel, rfl, by decide +kernel, by decide +kernel⟩
theorem ok_ckCab {f C : Addr} {fd : FuncData} (F : Fun K "check_cabinet" "check_cabinet" s_check_cabinet f fd) (T : Bt mg) (I : CabI K mg C) : FnOk P w K mg base CX0 1 f fd ["cabinet"] (spCkCab C) := by
  refine F.ok scCkCab (fun vs H Q E h => ?_) (fun cdv A outer s H vs Q E hr h => ?_)
  · obtain ⟨c, n, t, rfl, _⟩ := h.h
    rfl
  · obtain ⟨c, n, t, rfl, ⟨dx, hc⟩, k⟩ := h.h
    refine ⟨_, pss_one (ps_if (pt_not (pt_val (pe_callB call_isi (by rfl) T.isinstance (by decide +kernel) (pa_cons (pv 0) (pa_cons (pe_glob (v := .ref C) rfl I.mgC rfl) pa_nil))))) (pss_one ps_never) pss_nil), ?_⟩
    exact ⟨_, rfl, _, _, _, _, true, rfl, .own C, .base (.ins hc I.cl I.ha I.hn I.htk I.hm), I.kk, _, rfl, iteF k⟩
theorem scCkStd : FnScope ["cabinet", "standing"] ["cabinet", "standing"] (defScope s_check_standing) := ⟨rfl, rfl, rfl, by decide +kernel, rfl, by decide +kernel, by decide +kernel⟩
theorem ok_ckStd {f f1 C : Addr} {fd fd1 : FuncData} (F : Fun K "check_standing" "check_standing" s_check_standing f fd) (CP : CabP P w K mg base C) (G : FnOk P w K mg base CX0 2 f1 fd1 ["drawers", "value"] spIsStd) (g1 : mg "is_standing" = some (.ref f1)) (k1 : PySem.W.keepIn K (.ref f1) = true) (b1 : Binds K fd1 ["drawers", "value"] []) :
    FnOk P w K mg base CX0 3 f fd ["cabinet", "standing"] (spCkStd C) := by
  refine F.ok scCkStd (fun vs H Q E h => ?_) (fun cdv A outer s H vs Q E hr h => ?_)
  · obtain ⟨c, st, t, rfl, _⟩ := h.h
    rfl
  · obtain ⟨c, st, t, rfl, ⟨dx, hc⟩, h7, k⟩ := h.h
    obtain ⟨pD, gD, fdD, hpD, GD, bD⟩ := CP.d
    refine ⟨_, pss_one (ps_if (pt_not (pt_val (pe_call G (hr.mono (by decide)) rfl g1 k1 b1 .nil pass0 (pa_cons (pe_prop (pv 0) CP.cl hpD GD (hr.mono (by decide)) bD .nil pass0 rfl) (pa_cons (pv 1) pa_nil))))) (pss_one ps_never) pss_nil), ?_⟩
    exact ⟨_, rfl, c, dx, _, rfl, hc, ⟨⟨c, dx, _, t, rfl, hc, _, rfl, ⟨⟨st, rfl, h7, fun H' s1 => ⟨_, rfl, iteF (k H' s1)⟩⟩⟩⟩⟩⟩
theorem scCkDrawer : FnScope ["cabinet", "drawer"] ["cabinet", "drawer"] (defScope s_check_drawer) := ⟨rfl, rfl, rfl, by decide +kernel, rfl, by decide +kernel, by decide +kernel⟩
theorem ok_ckDrawer {f f1 C : Addr} {fd fd1 : FuncData} (F : Fun K "check_drawer" "check_drawer" s_check_drawer f fd) (CP : CabP P w K mg base C) (G : FnOk P w K mg base CX0 2 f1 fd1 ["drawers", "value"] (spIsDrawer K)) (g1 : mg "is_drawer" = some (.ref f1)) (k1 : PySem.W.keepIn K (.ref f1) = true) (b1 : Binds K fd1 ["drawers", "value"] []) :
    FnOk P w K mg base CX0 3 f fd ["cabinet", "drawer"] (spCkDrawer C) := by
  refine F.ok scCkDrawer (fun vs H Q E h => ?_) (fun cdv A outer s H vs Q E hr h => ?_)
  · obtain ⟨c, n, d, t, rfl, _⟩ := h.h
    rfl
  · obtain ⟨c, n, d, t, rfl, ⟨dx, hc⟩, d0, d1, k⟩ := h.h
    obtain ⟨pD, gD, fdD, hpD, GD, bD⟩ := CP.d
    refine ⟨_, pss_one (ps_if (pt_not (pt_val (pe_call G (hr.mono (by decide)) rfl g1 k1 b1 .nil pass0 (pa_cons (pe_prop (pv 0) CP.cl hpD GD (hr.mono (by decide)) bD .nil pass0 rfl) (pa_cons (pv 1) pa_nil))))) (pss_one ps_never) pss_nil), ?_⟩
    refine ⟨_, rfl, c, dx, _, rfl, hc, ⟨⟨c, dx, _, t, rfl, hc, _, rfl, ?_⟩⟩⟩
    refine spIsDrawer_sc (n := n) (x := .int d) rfl ⟨_, rfl, ?_⟩
    show if (!(decide (0 ≤ d) && decide (d < n))) = true then _ else _
    rw [decide_eq_true d0, decide_eq_true d1]
    exact iteF k
/-- Barred, an own error without its own making -/
structure BarT (K : PySem.W.Frag) (mg : Str → Option Value) (CB : Addr) : Prop where
  g : mg "Barred" = some (.ref CB)
  x : PySem.W.excIn K CB [.type "ValueError", .type "Exception", .type "BaseException", .type "object"] "ValueError.__new__" = true
  k : PySem.W.keepIn K (.ref CB) = true
  b : PySem.W.subIn K (.ref CB) (.type "BaseException") = some true
  t : PySem.W.typeIn K (.ref CB) = some (.type "type")
  e : PySem.W.exmOne K (.ref CB) (.ref CB) = some true
theorem scBh : FnScope ["cabinet", "standing", "drawer"] ["cabinet", "standing", "drawer"] (defScope s_behind) := ⟨rfl, rfl, rfl, by decide +kernel, rfl, by decide +kernel, by decide +kernel⟩
theorem ok_behind {f f1 f2 f3 f4 f5 C CB : Addr} {fd fd1 fd2 fd3 fd4 fd5 : FuncData} (F : Fun K "behind" "behind" s_behind f fd) (BT : BarT K mg CB) (G1 : FnOk P w K mg base CX0 1 f1 fd1 ["cabinet"] (spCkCab C)) (g1 : mg "check_cabinet" = some (.ref f1)) (k1 : PySem.W.keepIn K (.ref f1) = true) (b1 : Binds K fd1 ["cabinet"] [])
    (G2 : FnOk P w K mg base CX0 3 f2 fd2 ["cabinet", "standing"] (spCkStd C)) (g2 : mg "check_standing" = some (.ref f2)) (k2 : PySem.W.keepIn K (.ref f2) = true) (b2 : Binds K fd2 ["cabinet", "standing"] [])
    (G3 : FnOk P w K mg base CX0 3 f3 fd3 ["cabinet", "drawer"] (spCkDrawer C)) (g3 : mg "check_drawer" = some (.ref f3)) (k3 : PySem.W.keepIn K (.ref f3) = true) (b3 : Binds K fd3 ["cabinet", "drawer"] [])
    (G4 : FnOk P w K mg base CX0 6 f4 fd4 ["cabinet", "standing", "drawer"] (spGoes C)) (g4 : mg "goes" = some (.ref f4)) (k4 : PySem.W.keepIn K (.ref f4) = true) (b4 : Binds K fd4 ["cabinet", "standing", "drawer"] [])
    (G5 : FnOk P w K mg base CX0 1 f5 fd5 ["standing", "drawer"] spMoved) (g5 : mg "moved" = some (.ref f5)) (k5 : PySem.W.keepIn K (.ref f5) = true) (b5 : Binds K fd5 ["standing", "drawer"] []) : FnOk P w K mg base (L2.CX P w) 8 f fd ["cabinet", "standing", "drawer"] (spBehind C CB) := by
  refine F.okX scBh (fun vs H Q E h => ?_) (fun cdv A outer s H vs Q E hr h => ?_)
  · obtain ⟨c, bs, st, d, rfl, _⟩ := h.h
    rfl
  · obtain ⟨c, bs, st, d, rfl, B, d0, d1, kQ, kE⟩ := h.h
    obtain ⟨t, hc, n7⟩ := B.cab
    refine ⟨_, pss_cons (ps_expr (pe_call G1 (hr.mono (by decide)) rfl g1 k1 b1 .nil pass0 (pa_cons (pv 0) pa_nil))) (pss_cons (ps_expr (pe_call G2 (hr.mono (by decide)) rfl g2 k2 b2 .nil pass0 (pa_cons (pv 0) (pa_cons (pv 1) pa_nil))))
      (pss_cons (ps_expr (pe_call G3 (hr.mono (by decide)) rfl g3 k3 b3 .nil pass0 (pa_cons (pv 0) (pa_cons (pv 2) pa_nil))))
      (pss_cons (ps_if (pt_not (pt_val (pe_call G4 (hr.mono (by decide)) rfl g4 k4 b4 .nil pass0 (pa_cons (pv 0) (pa_cons (pv 1) (pa_cons (pv 2) pa_nil))))))
        (pss_one (ps_raise rfl (takes_of rfl rfl rfl rfl) (pmk_own PySem.F.excBase_ValueError BT.x BT.g BT.k (raises_own BT.b BT.t) (by exact rfl)))) pss_nil)
      (pss_one (ps_ret (pe_call G5 (hr.mono (by decide)) rfl g5 k5 b5 .nil pass0 (pa_cons (pv 1) (pa_cons (pv 2) pa_nil)))))))), ?_⟩
    refine ⟨_, rfl, ⟨⟨c, _, t, rfl, hc, ?_⟩⟩⟩
    refine ⟨_, rfl, _, rfl, ⟨⟨c, st, t, rfl, hc, by omega, fun H1 s1 => ?_⟩⟩⟩
    obtain ⟨dx, hc0⟩ := hc
    refine ⟨_, rfl, _, rfl, ⟨⟨c, _, d, t, rfl, ⟨dx, s1 _ _ hc0⟩, d0, d1, ?_⟩⟩⟩
    refine ⟨_, rfl, _, rfl, _, rfl, ⟨⟨c, bs, st, d, rfl, B.same s1, d0, d1, fun H2 s2 => ⟨_, rfl, ?_⟩⟩⟩⟩
    cases e : goesB bs st d with
    | false => exact iteT (kE e H2 (s1.trans s2))
    | true =>
      refine iteF ?_
      exact ⟨_, rfl, _, rfl, ⟨⟨st, d, rfl, by omega, d0, d1, fun H3 s3 => kQ e H3 ((s1.trans s2).trans s3)⟩⟩⟩
end
end DL

set_option Elab.async false
set_option maxRecDepth 100000
set_option maxHeartbeats 1000000

set_option Elab.async false
set_option maxRecDepth 100000
namespace DL
open PySem L2
/-! ### what the top tells of own errors -/
/-- which clause takes an error of the class at S: the clause names the class at T -/
theorem exm_of {K : PySem.W.Frag} {S T : Addr} {r : Bool} (h1 : PySem.W.subIn K (.ref T) (.type "BaseException") = some true) (h2 : PySem.W.isClsIn K T = true) (h3 : PySem.W.typeIn K (.ref T) = some (.type "type")) (h4 : PySem.W.subIn K (.ref S) (.ref T) = some r) :
    PySem.W.exmOne K (.ref S) (.ref T) = some r := by
  have e1 : (PySem.W.subIn K (.ref T) (.type "BaseException") == some true) = true := by rw [h1] <;> rfl
  have e2 : ((PySem.W.clsIn K T).isSome && PySem.W.typeIn K (.ref T) == some (.type "type")) = true := by
    have h2' : (PySem.W.clsIn K T).isSome = true := h2
    rw [h2', h3] <;> rfl
  show (if (PySem.W.subIn K (.ref T) (.type "BaseException") == some true) = true then (if ((PySem.W.clsIn K T).isSome && PySem.W.typeIn K (.ref T) == some (.type "type")) = true then PySem.W.subIn K (.ref S) (.ref T) else none) else none) = some r
  rw [if_pos e1, if_pos e2]
  exact h4
theorem drop_self (C : Addr) (bm : List Value) : ((Value.ref C :: bm).dropWhile (· != Value.ref C)).drop 1 = bm := by
  have : (Value.ref C != Value.ref C) = false := by
    have e : (Value.ref C == Value.ref C) = true := by simp
    simp [bne, e]
  rw [List.dropWhile_cons, this]
  rfl
theorem mro_is {K : PySem.W.Frag} {nm q : Str} {C N : Addr} {bs bm : List Value} {hdct : Bool} {sn : List Str} {sub : List Value} {ab : Bool} {col : Option Bool} {dd : Option Addr} {k0 k1 k2 k3 k5 : Option Value} {x : Option (Option Value)}
    (h : K.lookup C = some (excClassObj nm q C N bs bm hdct sn sub ab col dd k0 k1 k2 k3 k5 "ValueError.__new__")) (al : PySem.W.alongIn K "__init__" bm = x) :
    ∃ cd, PySem.W.clsIn K C = some cd ∧ PySem.W.alongIn K "__init__" ((cd.mro.dropWhile (· != .ref C)).drop 1) = x := by
  refine ⟨_, by unfold PySem.W.clsIn; rw [h], ?_⟩
  exact (congrArg _ (drop_self C bm)).trans al
theorem bindsS {K : PySem.W.Frag} {fd : FuncData} {ps : List Str} (h : ∀ us : List Value, us.length = ps.length → bindArgs fd ⟨us, []⟩ = pure (ps.zip us)) : Binds K fd ps [] := .all h
end DL

set_option Elab.async false
set_option maxRecDepth 100000
set_option maxHeartbeats 1000000
namespace DL
open PySem PySem.Spec PyProof.Rows L2
/-! ### own errors with a field, each by its own __init__ -/
structure spIni (C : Addr) (fld : Str) (good : V → Prop) (vs : List V) (H : Hp) (Q : VK) (_ : XK) : Prop where
  h : ∃ (a : Addr) (x : V), vs = [.ref a, x] ∧ good x ∧ H a = some (exo a C none) ∧ ∀ dx, H dx = none → dx ≠ a → Q .non (upd (upd H dx (exd dx [(fld, x)])) a (exo a C (some dx)))
def goodI (x : V) : Prop := x = .non ∨ ∃ i : Int, x = .int i ∧ 0 ≤ i ∧ i ≤ 100
def goodA (_ : V) : Prop := True
/-- the class, its making -/
structure IniT (P : Program) (w : World) (K : PySem.W.Frag) (mg : Str → Option Value) (base : Heap) (nm fld : Str) (good : V → Prop) (CB : Addr) : Prop where
  T : OexC K CB
  g : mg nm = some (.ref CB)
  i : ∃ fI fd, PySem.W.findIn K (.ref CB) "__init__" = some (some (.ref fI)) ∧ PySem.W.typeIn K (.ref fI) = some (.type "function") ∧ FnOk P w K mg base CX0 1 fI fd ["self", fld] (spIni CB fld good) ∧ Binds K fd ["self", fld] []
def exIni (CB : Addr) (fld : Str) (x : V) (H : Hp) (E : XK) : Prop := ∀ (d : Addr) (H' : Hp), H d = none → Same H H' → H' d = some (.xd [(fld, x)]) → E (.ref CB) (some d) H'
theorem ini_mk {CB a : Addr} {fld : Str} {good : V → Prop} {x : V} {H1 : Hp} {E : XK} {E2 : XK} (ha : H1 a = none) (hx : good x) (k : exIni CB fld x H1 E) :
    spIni CB fld good [.ref a, x] (upd H1 a (exo a CB none)) (fun v H2 => v = .non ∧ ∃ (d : Addr) (fs : List (Str × V)), H2 a = some (exo a CB (some d)) ∧ H2 d = some (exd d fs) ∧ H1 d = none ∧ E (.ref CB) (some d) (upd (del H2 a) d (.xd fs))) E2 := by
  refine ⟨⟨a, x, rfl, hx, upd_same, fun dx hdx hda => ?_⟩⟩
  have hd1 : H1 dx = none := by rw [upd_ne hda] at hdx; exact hdx
  refine ⟨rfl, dx, _, upd_same, by rw [upd_ne hda, upd_same], hd1, ?_⟩
  refine k dx _ hd1 (fun b o e => ?_) upd_same
  have hba : b ≠ a := ne_of_none e ha
  have hbd : b ≠ dx := ne_of_none e hd1
  rw [upd_ne hbd, del_ne hba, upd_ne hba, upd_ne hbd, upd_ne hba]
  exact e
theorem msg_len (m : Str) (hm : m.length ≤ 100) {i : Int} (h0 : 0 ≤ i) (h1 : i ≤ 100) : ((Str.empty ++ m) ++ (toString i : Str)).length ≤ sizeLine := by
  have app : ∀ a b : Str, (a ++ b).length = a.length + b.length := fun a b => by
    show (a ++ b).cps.size = a.cps.size + b.cps.size
    rw [← Array.length_toList, ← Array.length_toList, ← Array.length_toList]
    exact (congrArg List.length (TL.tl_append a b)).trans (List.length_append ..)
  have z : ∀ n : Fin 101, ((toString ((n.val : Nat) : Int) : Str)).length ≤ 3 := by decide +kernel
  have := z ⟨i.toNat, by omega⟩
  rw [show ((i.toNat : Nat) : Int) = i by omega] at this
  have e0 : (Str.empty).length = 0 := by decide +kernel
  rw [app, app, e0]
  have : (103 : Nat) < sizeLine := by decide
  omega
section
variable {P : Program} {w : World} {K : PySem.W.Frag} {mg : Str → Option Value} {base : Heap}
theorem scBadPairs : SupScope ["self", "index"] ["self", "index"] (defScope s_BadPairs__init_) := ⟨rfl, rfl, rfl, by decide +kernel, rfl, by decide +kernel, by decide +kernel, by decide +kernel⟩
theorem ok_BadPairsInit {f C cc cda : Addr} {fd : FuncData} (F : FunS K "__init__" "BadPairs.__init__" s_BadPairs__init_ f cda cc fd) (S : SupK K P f C cc cda fd "self") (hm : mg "super" = none) (hi : PySem.W.findIn K (.ref C) "index" = some none) : FnOk P w K mg base CX0 1 f fd ["self", "index"] (spIni C "index" goodI) := by
  obtain ⟨oc, od, an, kV, doc, pm, ct, osl, rfl, lk, hcd⟩ := F.ex
  obtain ⟨cl, cld, csl, hcell⟩ := S.cell
  refine fn_ofS lk hcd hcell scBadPairs (fun vs H Q E h => ?_) (fun A outer s s1 H vs Q E hsp I => ?_)
  · obtain ⟨a, x, rfl, _⟩ := h.h
    rfl
  · obtain ⟨a, x, rfl, hx, hea, q⟩ := hsp.h
    have rest : PSs (cxS CX0 P w K mg base ["self", "index"] "BadPairs.__init__" (defScope s_BadPairs__init_) f (.ref cda) cc A outer s H E) ((defBody s_BadPairs__init_).drop 1) _ := pss_one (ps_ost (pv 0) (pv 1))
    refine PySem.ks_wpAt_execs_cons (PySem.ks_wpAt_mono (sup_run (D := { nx := fun σ' H' => σ' = L2.start ["self", "index"] [.ref a, x] ∧ H' = H, rt := fun _ _ => False }) S rfl rfl rfl rfl rfl rfl rfl hm
      (pa_cons (pe_joined (.cons pe_str (.cons (pe_fmtN (pv 1)) .nil))) pa_nil) I rfl hea ?_) (fun fl s' hs => ?_) fun _ _ z => z)
    · refine ⟨_, rfl, by decide +kernel, _, rfl, ?_⟩
      rcases hx with rfl | ⟨i, rfl, i0, i1⟩
      · exact .inl ⟨rfl, _, rfl, by decide +kernel, by show 1 ≤ 1000; decide, hea, rfl, rfl⟩
      · exact .inr ⟨i, rfl, small_log i0 (by omega), _, rfl, msg_len _ (by decide +kernel) i0 i1, by show 1 ≤ 1000; decide, hea, rfl, rfl⟩
    · cases fl with
      | next =>
        obtain ⟨σ', H', J, rfl, rfl⟩ := hs
        exact PySem.wpAt_of_wpAny (rest.run [] s' _ _ _ J ⟨_, rfl, _, rfl, a, C, rfl, S.T, hi, .inl ⟨hea, fun dx hdx hda => q dx hdx hda⟩⟩)
      | ret u =>
        obtain ⟨_, _, _, _, _, z⟩ := hs
        exact False.elim z
      | brk =>
        obtain ⟨_, _, _, z⟩ := hs
        exact False.elim z
      | cont =>
        obtain ⟨_, _, _, z⟩ := hs
        exact False.elim z
theorem scBadTries : SupScope ["self", "index"] ["self", "index"] (defScope s_BadTries__init_) := ⟨rfl, rfl, rfl, by decide +kernel, rfl, by decide +kernel, by decide +kernel, by decide +kernel⟩
theorem ok_BadTriesInit {f C cc cda : Addr} {fd : FuncData} (F : FunS K "__init__" "BadTries.__init__" s_BadTries__init_ f cda cc fd) (S : SupK K P f C cc cda fd "self") (hm : mg "super" = none) (hi : PySem.W.findIn K (.ref C) "index" = some none) : FnOk P w K mg base CX0 1 f fd ["self", "index"] (spIni C "index" goodI) := by
  obtain ⟨oc, od, an, kV, doc, pm, ct, osl, rfl, lk, hcd⟩ := F.ex
  obtain ⟨cl, cld, csl, hcell⟩ := S.cell
  refine fn_ofS lk hcd hcell scBadTries (fun vs H Q E h => ?_) (fun A outer s s1 H vs Q E hsp I => ?_)
  · obtain ⟨a, x, rfl, _⟩ := h.h
    rfl
  · obtain ⟨a, x, rfl, hx, hea, q⟩ := hsp.h
    have rest : PSs (cxS CX0 P w K mg base ["self", "index"] "BadTries.__init__" (defScope s_BadTries__init_) f (.ref cda) cc A outer s H E) ((defBody s_BadTries__init_).drop 1) _ := pss_one (ps_ost (pv 0) (pv 1))
    refine PySem.ks_wpAt_execs_cons (PySem.ks_wpAt_mono (sup_run (D := { nx := fun σ' H' => σ' = L2.start ["self", "index"] [.ref a, x] ∧ H' = H, rt := fun _ _ => False }) S rfl rfl rfl rfl rfl rfl rfl hm
      (pa_cons (pe_joined (.cons pe_str (.cons (pe_fmtN (pv 1)) .nil))) pa_nil) I rfl hea ?_) (fun fl s' hs => ?_) fun _ _ z => z)
    · refine ⟨_, rfl, by decide +kernel, _, rfl, ?_⟩
      rcases hx with rfl | ⟨i, rfl, i0, i1⟩
      · exact .inl ⟨rfl, _, rfl, by decide +kernel, by show 1 ≤ 1000; decide, hea, rfl, rfl⟩
      · exact .inr ⟨i, rfl, small_log i0 (by omega), _, rfl, msg_len _ (by decide +kernel) i0 i1, by show 1 ≤ 1000; decide, hea, rfl, rfl⟩
    · cases fl with
      | next =>
        obtain ⟨σ', H', J, rfl, rfl⟩ := hs
        exact PySem.wpAt_of_wpAny (rest.run [] s' _ _ _ J ⟨_, rfl, _, rfl, a, C, rfl, S.T, hi, .inl ⟨hea, fun dx hdx hda => q dx hdx hda⟩⟩)
      | ret u =>
        obtain ⟨_, _, _, _, _, z⟩ := hs
        exact False.elim z
      | brk =>
        obtain ⟨_, _, _, z⟩ := hs
        exact False.elim z
      | cont =>
        obtain ⟨_, _, _, z⟩ := hs
        exact False.elim z
theorem scTooMany : SupScope ["self", "most"] ["self", "most"] (defScope s_TooMany__init_) := ⟨rfl, rfl, rfl, by decide +kernel, rfl, by decide +kernel, by decide +kernel, by decide +kernel⟩
theorem ok_TooManyInit {f C cc cda : Addr} {fd : FuncData} (F : FunS K "__init__" "TooMany.__init__" s_TooMany__init_ f cda cc fd) (S : SupK K P f C cc cda fd "self") (hm : mg "super" = none) (hi : PySem.W.findIn K (.ref C) "most" = some none) : FnOk P w K mg base CX0 1 f fd ["self", "most"] (spIni C "most" goodI) := by
  obtain ⟨oc, od, an, kV, doc, pm, ct, osl, rfl, lk, hcd⟩ := F.ex
  obtain ⟨cl, cld, csl, hcell⟩ := S.cell
  refine fn_ofS lk hcd hcell scTooMany (fun vs H Q E h => ?_) (fun A outer s s1 H vs Q E hsp I => ?_)
  · obtain ⟨a, x, rfl, _⟩ := h.h
    rfl
  · obtain ⟨a, x, rfl, hx, hea, q⟩ := hsp.h
    have rest : PSs (cxS CX0 P w K mg base ["self", "most"] "TooMany.__init__" (defScope s_TooMany__init_) f (.ref cda) cc A outer s H E) ((defBody s_TooMany__init_).drop 1) _ := pss_one (ps_ost (pv 0) (pv 1))
    refine PySem.ks_wpAt_execs_cons (PySem.ks_wpAt_mono (sup_run (D := { nx := fun σ' H' => σ' = L2.start ["self", "most"] [.ref a, x] ∧ H' = H, rt := fun _ _ => False }) S rfl rfl rfl rfl rfl rfl rfl hm
      (pa_cons (pe_joined (.cons pe_str (.cons (pe_fmtN (pv 1)) .nil))) pa_nil) I rfl hea ?_) (fun fl s' hs => ?_) fun _ _ z => z)
    · refine ⟨_, rfl, by decide +kernel, _, rfl, ?_⟩
      rcases hx with rfl | ⟨i, rfl, i0, i1⟩
      · exact .inl ⟨rfl, _, rfl, by decide +kernel, by show 1 ≤ 1000; decide, hea, rfl, rfl⟩
      · exact .inr ⟨i, rfl, small_log i0 (by omega), _, rfl, msg_len _ (by decide +kernel) i0 i1, by show 1 ≤ 1000; decide, hea, rfl, rfl⟩
    · cases fl with
      | next =>
        obtain ⟨σ', H', J, rfl, rfl⟩ := hs
        exact PySem.wpAt_of_wpAny (rest.run [] s' _ _ _ J ⟨_, rfl, _, rfl, a, C, rfl, S.T, hi, .inl ⟨hea, fun dx hdx hda => q dx hdx hda⟩⟩)
      | ret u =>
        obtain ⟨_, _, _, _, _, z⟩ := hs
        exact False.elim z
      | brk =>
        obtain ⟨_, _, _, z⟩ := hs
        exact False.elim z
      | cont =>
        obtain ⟨_, _, _, z⟩ := hs
        exact False.elim z
theorem scBadNumber : SupScope ["self", "n"] ["self", "n"] (defScope s_BadNumber__init_) := ⟨rfl, rfl, rfl, by decide +kernel, rfl, by decide +kernel, by decide +kernel, by decide +kernel⟩
theorem ok_BadNumberInit {f C cc cda : Addr} {fd : FuncData} (F : FunS K "__init__" "BadNumber.__init__" s_BadNumber__init_ f cda cc fd) (S : SupK K P f C cc cda fd "self") (hm : mg "super" = none) (hi : PySem.W.findIn K (.ref C) "n" = some none) : FnOk P w K mg base CX0 1 f fd ["self", "n"] (spIni C "n" goodA) := by
  obtain ⟨oc, od, an, kV, doc, pm, ct, osl, rfl, lk, hcd⟩ := F.ex
  obtain ⟨cl, cld, csl, hcell⟩ := S.cell
  refine fn_ofS lk hcd hcell scBadNumber (fun vs H Q E h => ?_) (fun A outer s s1 H vs Q E hsp I => ?_)
  · obtain ⟨a, x, rfl, _⟩ := h.h
    rfl
  · obtain ⟨a, x, rfl, hx, hea, q⟩ := hsp.h
    have rest : PSs (cxS CX0 P w K mg base ["self", "n"] "BadNumber.__init__" (defScope s_BadNumber__init_) f (.ref cda) cc A outer s H E) ((defBody s_BadNumber__init_).drop 1) _ := pss_one (ps_ost (pv 0) (pv 1))
    refine PySem.ks_wpAt_execs_cons (PySem.ks_wpAt_mono (sup_run (D := { nx := fun σ' H' => σ' = L2.start ["self", "n"] [.ref a, x] ∧ H' = H, rt := fun _ _ => False }) S rfl rfl rfl rfl rfl rfl rfl hm
      (pa_cons pe_str pa_nil) I rfl hea ?_) (fun fl s' hs => ?_) fun _ _ z => z)
    · exact ⟨by show 1 ≤ 1000; decide, hea, rfl, rfl⟩
    · cases fl with
      | next =>
        obtain ⟨σ', H', J, rfl, rfl⟩ := hs
        exact PySem.wpAt_of_wpAny (rest.run [] s' _ _ _ J ⟨_, rfl, _, rfl, a, C, rfl, S.T, hi, .inl ⟨hea, fun dx hdx hda => q dx hdx hda⟩⟩)
      | ret u =>
        obtain ⟨_, _, _, _, _, z⟩ := hs
        exact False.elim z
      | brk =>
        obtain ⟨_, _, _, z⟩ := hs
        exact False.elim z
      | cont =>
        obtain ⟨_, _, _, z⟩ := hs
        exact False.elim z
end
end DL

set_option Elab.async false
set_option maxRecDepth 100000
namespace DL
open PySem PySem.Spec PyProof.Rows L2
/-! ### text * number -/
theorem op_mul_str {X : Cx} : OpR X (binaryOp .Mult) (fun x y H Q => ∃ (z : Str) (n : Int), x = .str z ∧ y = .int n ∧ MulOk z n ∧ Q (.str (Txt.mul z n)) H) := by
  intro pins s σ H x y v u Q I rx ry h
  obtain ⟨z, n, rfl, rfl, ok, q⟩ := h
  obtain ⟨t, rfl⟩ := rx
  obtain ⟨t', rfl⟩ := ry
  exact SB.mul ok fun t2 k => ⟨.str _, H, I.tok k, ⟨_, rfl⟩, q⟩
theorem mulOk_one {z : Str} {n : Int} (hz : z.length = 1) (h1 : 1 ≤ n) (h7 : n ≤ 7) : MulOk z n := by
  refine ⟨?_, fun _ _ => ?_, fun _ _ => ?_⟩
  · rw [decide_eq_false (by omega), decide_eq_false (by omega)]; rfl
  · rw [hz]
    have : n = 1 ∨ n = 2 ∨ n = 3 ∨ n = 4 ∨ n = 5 ∨ n = 6 ∨ n = 7 := by omega
    rcases this with rfl | rfl | rfl | rfl | rfl | rfl | rfl <;> decide
  · rw [hz]
    have : n = 1 ∨ n = 2 ∨ n = 3 ∨ n = 4 ∨ n = 5 ∨ n = 6 ∨ n = 7 := by omega
    rcases this with rfl | rfl | rfl | rfl | rfl | rfl | rfl <;> decide +kernel
/-! ### for a, b in zip(x, y), two texts -/
end DL

set_option Elab.async false
set_option maxRecDepth 100000
namespace DL
open PySem L2 HT TL
/-! ### patterns and rows -/
theorem pg_tupK {X : Cx} {K : PySem.W.Frag} {pos : Pos} {es : List Expr} {k : Nat} {t : TGs} {n : Nat} (hK : X.K = K) (hc : X.calm = true) (h : PGs X es t) (h1 : (assignEach es X.env).length = n := by rfl) (h2 : List.findIdx? (fun x => x.1) (assignEach es X.env) = none := by rfl) :
    PG X (.Tuple es k pos) (gTup K n t) := by subst hK; exact pg_tup hc h h1 h2
theorem SqT.same {K : PySem.W.Frag} {H H' : Hp} {a : Addr} {xs : List V} (s : Same H H') (h : SqT K H a xs) : SqT K H' a xs := by
  rcases h with (h | ⟨o, h⟩) | h
  · exact .inl (.inl (s _ _ h))
  · exact .inl (.inr ⟨o, s _ _ h⟩)
  · exact .inr h
def runB (bs : List Bar) (st : List Bool) : List Int → Option (List Bool)
  | [] => some st
  | d :: ds => if goesB bs st d = true then runB bs (flip st d) ds else none
theorem runB_cons (bs : List Bar) (st : List Bool) (d : Int) (ds : List Int) : runB bs st (d :: ds) = if goesB bs st d = true then runB bs (flip st d) ds else none := rfl
def shutS (n : Nat) : List Bool := List.replicate n false
def intOf : V → Int
  | .int i => i
  | _ => 0
theorem ints_of {n : Int} : ∀ {xs : List V}, xs.all (isD n) = true → xs = (xs.map intOf).map V.int ∧ ∀ d ∈ xs.map intOf, 0 ≤ d ∧ d < n
  | [], _ => ⟨rfl, fun d hd => by simp at hd⟩
  | x :: xs, h => by
    rw [List.all_cons, Bool.and_eq_true] at h
    obtain ⟨h1, h2⟩ := ints_of h.2
    cases x with
    | int i =>
      have hi : (decide (0 ≤ i) && decide (i < n)) = true := h.1
      rw [Bool.and_eq_true] at hi
      refine ⟨?_, fun d hd => ?_⟩
      · show V.int i :: xs = V.int i :: (xs.map intOf).map V.int
        rw [← h1]
      · rcases List.mem_cons.mp hd with rfl | hd
        · exact ⟨of_decide_eq_true hi.1, of_decide_eq_true hi.2⟩
        · exact h2 d hd
    | _ => exact absurd h.1 (by intro z; cases z)
structure spFirst (vs : List V) (H : Hp) (Q : VK) (_ : XK) : Prop where
  h : ∃ n : Nat, vs = [.int n] ∧ 1 ≤ n ∧ n ≤ 7 ∧ Q (.str (sstr (shutS n))) H
theorem mul_shut {n : Nat} (h1 : 1 ≤ n) (h7 : n ≤ 7) : Txt.mul "s" (n : Int) = sstr (shutS n) := by
  have : n = 1 ∨ n = 2 ∨ n = 3 ∨ n = 4 ∨ n = 5 ∨ n = 6 ∨ n = 7 := by omega
  rcases this with rfl | rfl | rfl | rfl | rfl | rfl | rfl <;> decide +kernel
section
variable {P : Program} {w : World} {K : PySem.W.Frag} {mg : Str → Option Value} {base : Heap}
theorem scFirst : FnScope ["drawers"] ["drawers"] (defScope s_first_standing) := ⟨rfl, rfl, rfl, by decide +kernel, rfl, by decide +kernel, by decide +kernel⟩
theorem ok_first {f aS : Addr} {fd : FuncData} (F : Fun K "first_standing" "first_standing" s_first_standing f fd) (T : SgT K w mg aS) : FnOk P w K mg base CX0 1 f fd ["drawers"] spFirst := by
  refine F.ok scFirst (fun vs H Q E h => ?_) (fun cdv A outer s H vs Q E hr h => ?_)
  · obtain ⟨n, rfl, _⟩ := h.h
    rfl
  · obtain ⟨n, rfl, h1, h7, k⟩ := h.h
    refine ⟨_, pss_one (ps_ret (pe_op op_mul_str (pe_ix ix_kdict (pe_glob (v := .ref aS) rfl T.g rfl) pe_str (fun _ _ => rfl)) (pv 0))), ?_⟩
    refine ⟨aS, _, _, rfl, rfl, T.s, _, rfl, "s", (n : Int), rfl, rfl, mulOk_one (by decide +kernel) (by omega) (by omega), ?_⟩
    rw [mul_shut h1 h7]
    exact k
end
end DL

set_option Elab.async false
set_option maxRecDepth 100000

set_option Elab.async false
set_option maxRecDepth 100000
namespace DL
open PySem L2 HT TL
/-! ### a drawn cabinet: its parts at p, itself at c; the row of draws at r -/
structure Lay (C r p c : Addr) (H : Hp) (n : Int) (bs : List Bar) : Prop where
  h : ∃ (t : Addr) (ks : List (Addr × Bar)) (zs : List V), H p = some (.lst (.int n :: .ref t :: zs)) ∧ CabAt C H c n t ∧ BarsAt H t ks ∧ ks.map (·.2) = bs ∧ OkBars n bs ∧ 1 ≤ n ∧ n ≤ 7 ∧ bs.length ≤ 100 ∧ p ≠ r
theorem Lay.cab {C r p c : Addr} {H : Hp} {n : Int} {bs : List Bar} (L : Lay C r p c H n bs) : CabOk C H c n bs := by
  obtain ⟨t, ks, zs, h1, h2, h3, h4, h5, h6, h7, h8, _⟩ := L.h
  exact ⟨⟨t, ks, h2, h3, h4, h5, h6, h7, h8⟩⟩
theorem Lay.but {C r sc p c : Addr} {H H' : Hp} {n : Int} {bs : List Bar} (L : Lay C r p c H n bs) (R : RowOk H r sc) (B : But r H H') : Lay C r p c H' n bs := by
  obtain ⟨t, ks, zs, h1, ⟨dx, h2⟩, h3, h4, h5, h6, h7, h8, h9⟩ := L.h
  obtain ⟨i, m, e, hR, _⟩ := R.h
  exact ⟨⟨t, ks, zs, B _ _ h9 h1, ⟨dx, B _ _ (ne_of h2 hR (by intro z; cases z)) h2⟩, ⟨B.tup hR h3.tu, fun k hk => B.tup hR (h3.el k hk)⟩, h4, h5, h6, h7, h8, h9⟩⟩
theorem Lay.same {C r p c : Addr} {H H' : Hp} {n : Int} {bs : List Bar} (L : Lay C r p c H n bs) (s : Same H H') : Lay C r p c H' n bs := by
  obtain ⟨t, ks, zs, h1, ⟨dx, h2⟩, h3, h4⟩ := L.h
  exact ⟨⟨t, ks, zs, s _ _ h1, ⟨dx, s _ _ h2⟩, h3.same s, h4⟩⟩
theorem Lay.n1 {C r p c : Addr} {H : Hp} {n : Int} {bs : List Bar} (L : Lay C r p c H n bs) : 1 ≤ n ∧ n ≤ 7 := by
  obtain ⟨t, ks, zs, h1, h2, h3, h4, h5, h6, h7, h8⟩ := L.h
  exact ⟨h6, h7⟩
theorem free_in {bs : List Bar} {st : List Bool} {d : Int} (h : d ∈ freeL bs st) : 0 ≤ d ∧ d < st.length := by
  have hm := (List.mem_filter.mp h).1
  unfold drs at hm
  obtain ⟨i, hi, rfl⟩ := List.mem_map.mp hm
  have := List.mem_range.mp hi
  omega
end DL

set_option Elab.async false
set_option maxRecDepth 100000
set_option maxHeartbeats 1000000
namespace DL
open PySem L2 HT TL
/-! ### forms of single values: standings, tries, whatever they are -/
def sgnB (n : Int) (z : Str) : V → Bool
  | .str y => decide ((y.length : Int) = n) && y.cps.toList.all fun c => decide (c ∈ z.cps.toList)
  | _ => false
def strB : V → Bool
  | .str _ => true
  | _ => false
def blB : V → Bool
  | .bl _ => true
  | _ => false
theorem sgn_str (n : Int) (z y : Str) : sgnB n z (.str y) = (decide ((y.length : Int) = n) && y.cps.toList.all fun c => decide (c ∈ z.cps.toList)) := rfl
structure spSignsG (vs : List V) (H : Hp) (Q : VK) (_ : XK) : Prop where
  h : ∃ (n : Int) (v : V) (z : Str), vs = [.int n, v, .str z] ∧ scV v = true ∧ (∀ y, v = .str y → y.length ≤ 1000) ∧ ∀ H', Same H H' → Q (.bl (sgnB n z v)) H'
structure spIsStdG (vs : List V) (H : Hp) (Q : VK) (_ : XK) : Prop where
  h : ∃ (n : Int) (v : V), vs = [.int n, v] ∧ scV v = true ∧ (∀ y, v = .str y → y.length ≤ 1000) ∧ ∀ H', Same H H' → Q (.bl (sgnB n "os" v)) H'
/-- the type of a plain value, and what it is an instance of -/
theorem sc_ty {K : PySem.W.Frag} {H : Hp} {v : V} (h : scV v = true) : ∃ t, TyX K H v t ∧ PySem.W.kitOne K t (.type "str") = some (strB v) ∧ PySem.W.kitOne K t (.type "bool") = some (blB v) ∧ PySem.W.kitOne K t (.type "tuple") = some false ∧ PySem.W.kitOne K t (.type "list") = some false := by
  cases v with
  | non => exact ⟨.type "NoneType", .base .non, show PySem.W.kitOne K (.type "NoneType") (.type "str") = some false from kit_ty (by decide +kernel), show PySem.W.kitOne K (.type "NoneType") (.type "bool") = some false from kit_ty (by decide +kernel), show PySem.W.kitOne K (.type "NoneType") (.type "tuple") = some false from kit_ty (by decide +kernel), show PySem.W.kitOne K (.type "NoneType") (.type "list") = some false from kit_ty (by decide +kernel)⟩
  | bl b => exact ⟨.type "bool", .base (.bl _), show PySem.W.kitOne K (.type "bool") (.type "str") = some false from kit_ty (by decide +kernel), show PySem.W.kitOne K (.type "bool") (.type "bool") = some true from kit_ty (by decide +kernel), show PySem.W.kitOne K (.type "bool") (.type "tuple") = some false from kit_ty (by decide +kernel), show PySem.W.kitOne K (.type "bool") (.type "list") = some false from kit_ty (by decide +kernel)⟩
  | int i => exact ⟨.type "int", .base (.int _), show PySem.W.kitOne K (.type "int") (.type "str") = some false from kit_ty (by decide +kernel), show PySem.W.kitOne K (.type "int") (.type "bool") = some false from kit_ty (by decide +kernel), show PySem.W.kitOne K (.type "int") (.type "tuple") = some false from kit_ty (by decide +kernel), show PySem.W.kitOne K (.type "int") (.type "list") = some false from kit_ty (by decide +kernel)⟩
  | str z => exact ⟨.type "str", .base (.str _), show PySem.W.kitOne K (.type "str") (.type "str") = some true from kit_ty (by decide +kernel), show PySem.W.kitOne K (.type "str") (.type "bool") = some false from kit_ty (by decide +kernel), show PySem.W.kitOne K (.type "str") (.type "tuple") = some false from kit_ty (by decide +kernel), show PySem.W.kitOne K (.type "str") (.type "list") = some false from kit_ty (by decide +kernel)⟩
  | _ => cases h
theorem int_dec (a b : Int) : decide ((V.int a) = V.int b) = decide (a = b) := decide_eq_decide.mpr ⟨fun z => by injection z, fun z => by rw [z]⟩
section
variable {P : Program} {w : World} {K : PySem.W.Frag} {mg : Str → Option Value} {base : Heap}
theorem ok_hasSignsG {f : Addr} {fd : FuncData} (F : Fun K "has_signs" "has_signs" s_has_signs f fd) (T : Bt mg) (zS : mg "str" = none) (zA : mg "all" = none) : FnOk P w K mg base CX0 1 f fd ["drawers", "value", "signs"] spSignsG := by
  refine F.ok scHS (fun vs H Q E h => ?_) (fun cdv A outer s H vs Q E hr h => ?_)
  · obtain ⟨n, v, z, rfl, _⟩ := h.h
    rfl
  · obtain ⟨n, v, z, rfl, hsc, h1000, k⟩ := h.h
    refine ⟨_, pss_cons (ps_if (PW.pt (pw_or (pt_not (pt_val (pe_callB call_isi (by rfl) T.isinstance (by decide +kernel) (pa_cons (pv 1) (pa_cons (pe_bltn (v := .ty "str") (by rfl) zS (by decide +kernel) rfl) pa_nil)))))
        (pw_or1 (pt_cmpR op_ne (pe_callB call_len_str (by rfl) T.len PySem.boot_len (pa_cons (pv 1) pa_nil)) (pv 0) (nomark _))))) (pss_one (ps_ret pe_bl)) pss_nil)
      (pss_one (ps_ret (pe_callB (cr_all rfl) (by rfl) zA boot_all_ (pa_cons
        (pe_lc (own := [("sign", 3)]) (g := gName 3) (tt := tYes) (by rfl) scHS.nd (pi_str (pv 1)) (blkOk_by (N := nHS) (sc := defScope s_has_signs) (by decide +kernel)) (fun _ _ _ _ _ => pg_name (i := 3) scHS.nd rfl (by first | exact Or.inl rfl | exact Or.inr rfl)) (fun _ _ _ _ _ => pts_nil)
          (fun _ _ _ _ _ => pe_cmpR op_in_sign (pv 3) (pv 2) (by rfl))) pa_nil)))), ?_⟩
    obtain ⟨t, ty, e1, _⟩ := sc_ty (K := K) (H := H) hsc
    cases v with
    | str y =>
      have ysz : y.length ≤ sizeLine := Nat.le_of_lt (small1000 (h1000 y rfl))
      refine ⟨_, rfl, _, _, t, _, true, rfl, .ty "str", ty, e1, _, rfl, iteF ?_⟩
      refine ⟨_, rfl, _, rfl, ysz, _, rfl, rfl, _, rfl, ?_⟩
      have ei := int_dec (y.length : Int) n
      show if (!decide ((V.int (y.length : Int)) = V.int n)) = true then _ else _
      rw [ei]
      cases en : decide ((y.length : Int) = n) with
      | false =>
        refine iteT ?_
        have := k H (Same.refl H)
        rw [sgn_str, en] at this
        exact this
      | true =>
        refine iteF ?_
        refine ⟨_, rfl, _, rfl, fun D hD => ?_⟩
        have hsz : y.cps.toList.length = y.cps.size := Array.length_toList
        have hyl : y.length = y.cps.size := rfl
        have := h1000 y rfl
        refine lc_pick walk_str y.cps.toList hsz (by omega) (fun _ => true) (fun c => V.bl (decide (c ∈ z.cps.toList))) hD (fun _ _ => trivial) ?_ ?_
        · rintro i x c H1 H1' Tk Nk ez s1 ⟨rfl, c', hc', rfl⟩ kT kF
          rw [Array.getElem?_toList, hc'] at ez
          cases ez
          refine ⟨rfl, tYes_of (iteT ?_)⟩
          exact ⟨_, rfl, _, rfl, _, z, rfl, rfl, kT _ rfl (Same.refl _)⟩
        · intro H1 s1 hD1
          rw [List.filter_eq_self.mpr fun _ _ => rfl] at hD1
          refine ⟨D, y.cps.toList.map fun c => decide (c ∈ z.cps.toList), rfl, SqL.of (by rw [hD1, List.map_map]; rfl), ?_⟩
          have := k H1 s1
          rw [sgn_str, en, Bool.true_and] at this
          have e9 : (y.cps.toList.map fun c => decide (c ∈ z.cps.toList)).all id = y.cps.toList.all fun c => decide (c ∈ z.cps.toList) := by rw [List.all_map]; rfl
          rw [e9]
          exact this
    | non => exact ⟨_, rfl, _, _, t, _, false, rfl, .ty "str", ty, e1, _, rfl, iteT (k H (Same.refl H))⟩
    | bl b => exact ⟨_, rfl, _, _, t, _, false, rfl, .ty "str", ty, e1, _, rfl, iteT (k H (Same.refl H))⟩
    | int i => exact ⟨_, rfl, _, _, t, _, false, rfl, .ty "str", ty, e1, _, rfl, iteT (k H (Same.refl H))⟩
    | _ => cases hsc
theorem ok_isStdG {f f1 : Addr} {fd fd1 : FuncData} (F : Fun K "is_standing" "is_standing" s_is_standing f fd) (G : FnOk P w K mg base CX0 1 f1 fd1 ["drawers", "value", "signs"] spSignsG) (g1 : mg "has_signs" = some (.ref f1)) (k1 : PySem.W.keepIn K (.ref f1) = true) (b1 : Binds K fd1 ["drawers", "value", "signs"] [])
    (gS : ∃ t, mg "STANDING_SIGNS" = some (.str "os" t)) : FnOk P w K mg base CX0 2 f fd ["drawers", "value"] spIsStdG := by
  refine F.ok scIsStd (fun vs H Q E h => ?_) (fun cdv A outer s H vs Q E hr h => ?_)
  · obtain ⟨n, v, rfl, _⟩ := h.h
    rfl
  · obtain ⟨n, v, rfl, hsc, h1000, k⟩ := h.h
    obtain ⟨tS, gS⟩ := gS
    refine ⟨_, pss_one (ps_ret (pe_call G (hr.mono (by decide)) rfl g1 k1 b1 .nil pass0 (pa_cons (pv 0) (pa_cons (pv 1) (pa_cons (pe_glob (v := .str "os") rfl gS ⟨_, rfl⟩) pa_nil))))), ?_⟩
    exact ⟨_, rfl, _, rfl, ⟨⟨n, v, _, rfl, hsc, h1000, k⟩⟩⟩
/-- a plain value told as a try: standing, drawer, whether it went -/
def tryB (n : Int) (x0 x1 x2 : V) : Bool := sgnB n "os" x0 && (isD n x1 && blB x2)
structure spIsTry (K : PySem.W.Frag) (vs : List V) (H : Hp) (Q : VK) (_ : XK) : Prop where
  h : ∃ (n : Int) (v : V), vs = [.int n, v] ∧ ((∃ t, TyX K H v t ∧ PySem.W.kitOne K t (.type "tuple") = some false ∧ Q (.bl false) H) ∨
    (∃ a xs, v = .ref a ∧ SqT K H a xs ∧ xs.length ≠ 3 ∧ Q (.bl false) H) ∨
    ∃ a x0 x1 x2, v = .ref a ∧ SqT K H a [x0, x1, x2] ∧ scV x0 = true ∧ scV x1 = true ∧ scV x2 = true ∧ (∀ y, x0 = .str y → y.length ≤ 1000) ∧ ∀ H', Same H H' → Q (.bl (tryB n x0 x1 x2)) H')
abbrev nIT : List Str := ["drawers", "value", "standing", "drawer", "went"]
theorem scIT : FnScope nIT ["drawers", "value"] (defScope s_is_try) := ⟨rfl, rfl, rfl, by decide +kernel, rfl, by decide +kernel, by decide +kernel⟩
theorem ok_isTry {f f1 f2 : Addr} {fd fd1 fd2 : FuncData} (F : Fun K "is_try" "is_try" s_is_try f fd) (T : Bt mg)
    (G1 : FnOk P w K mg base CX0 2 f1 fd1 ["drawers", "value"] spIsStdG) (g1 : mg "is_standing" = some (.ref f1)) (k1 : PySem.W.keepIn K (.ref f1) = true) (b1 : Binds K fd1 ["drawers", "value"] [])
    (G2 : FnOk P w K mg base CX0 2 f2 fd2 ["drawers", "value"] (spIsDrawer K)) (g2 : mg "is_drawer" = some (.ref f2)) (k2 : PySem.W.keepIn K (.ref f2) = true) (b2 : Binds K fd2 ["drawers", "value"] []) :
    FnOk P w K mg base CX0 4 f fd ["drawers", "value"] (spIsTry K) := by
  refine F.ok scIT (fun vs H Q E h => ?_) (fun cdv A outer s H vs Q E hr h => ?_)
  · obtain ⟨n, v, rfl, _⟩ := h.h
    rfl
  · obtain ⟨n, v, rfl, hv⟩ := h.h
    refine ⟨_, pss_cons (ps_if (PW.pt (pw_or (pt_not (pt_val (pe_callB call_isi (by rfl) T.isinstance (by decide +kernel) (pa_cons (pv 1) (pa_cons (pe_bltn (v := .ty "tuple") (by rfl) T.tuple (by decide +kernel) rfl) pa_nil)))))
        (pw_or1 (pt_cmpR op_ne (pe_callB call_len_seq (by rfl) T.len PySem.boot_len (pa_cons (pv 1) pa_nil)) pe_int (nomark _))))) (pss_one (ps_ret pe_bl)) pss_nil)
      (pss_cons (ps_asg (pv 1) (pg_tup (by rfl) (pgs_cons (pg_name (i := 2) scIT.nd rfl (.inl rfl)) (pgs_cons (pg_name (i := 3) scIT.nd rfl (.inl rfl)) (pgs_cons (pg_name (i := 4) scIT.nd rfl (.inl rfl)) pgs_nil)))))
      (pss_one (ps_ret (pe_and (pe_call G1 (hr.mono (by decide)) rfl g1 k1 b1 .nil pass0 (pa_cons (pv 0) (pa_cons (pv 2) pa_nil))) (pe_and (pe_call G2 (hr.mono (by decide)) rfl g2 k2 b2 .nil pass0 (pa_cons (pv 0) (pa_cons (pv 3) pa_nil)))
        (pe_one (pe_callB call_isi (by rfl) T.isinstance (by decide +kernel) (pa_cons (pv 4) (pa_cons (pe_bltn (v := .ty "bool") (by rfl) T.bool (by decide +kernel) rfl) pa_nil))))))))), ?_⟩
    rcases hv with ⟨t, ty, e, k⟩ | ⟨a, xs, rfl, S, hl, k⟩ | ⟨a, x0, x1, x2, rfl, S, c0, c1, c2, h1000, k⟩
    · exact ⟨_, rfl, _, _, t, _, false, rfl, .ty "tuple", ty, e, _, rfl, iteT k⟩
    · refine ⟨_, rfl, _, _, _, _, true, rfl, .ty "tuple", tyT S, kit_ty (by decide +kernel), _, rfl, iteF ?_⟩
      refine ⟨_, rfl, a, _, rfl, .inr S, rfl, _, rfl, ?_⟩
      have ei := int_dec (xs.length : Nat) 3
      show if (!decide ((V.int (xs.length : Nat)) = V.int 3)) = true then _ else _
      rw [ei, decide_eq_false (by omega)]
      exact iteT k
    · refine ⟨_, rfl, _, _, _, _, true, rfl, .ty "tuple", tyT S, kit_ty (by decide +kernel), _, rfl, iteF ?_⟩
      refine ⟨_, rfl, a, _, rfl, .inr S, rfl, _, rfl, ?_⟩
      refine iteF ?_
      refine ⟨_, rfl, a, _, rfl, S, rfl, _, _, rfl, _, _, rfl, _, _, rfl, rfl, ?_⟩
      refine ⟨_, rfl, _, rfl, ⟨⟨n, x0, rfl, c0, h1000, fun H1 s1 => ⟨_, rfl, ?_⟩⟩⟩⟩
      have kk := k
      unfold tryB at kk
      cases e0 : sgnB n "os" x0 with
      | false =>
        refine iteF ?_
        have := kk H1 s1
        rw [e0] at this
        exact this
      | true =>
        refine iteT ?_
        refine ⟨_, rfl, _, rfl, spIsDrawer_sc c1 ⟨_, rfl, ?_⟩⟩
        cases e1 : isD n x1 with
        | false =>
          refine iteF ?_
          have := kk H1 s1
          rw [e0, e1] at this
          exact this
        | true =>
          refine iteT ?_
          obtain ⟨t, ty, _, eb, _⟩ := sc_ty (K := K) (H := H1) c2
          refine ⟨_, rfl, _, _, t, _, blB x2, rfl, .ty "bool", ty, eb, ?_⟩
          have := kk H1 s1
          rw [e0, e1] at this
          exact this
end
end DL

set_option Elab.async false
set_option maxRecDepth 100000
namespace DL
open PySem L2 HT TL RZ
/-! ### sets of drawers -/
def ascB (ns : List Int) : Bool := (ns.zip (ns.drop 1)).all fun p => decide (p.1 < p.2)
def setB (n : Int) (xs : List V) : Bool := xs.all (isD n) && ascB (xs.map intOf)
structure spIsSet (K : PySem.W.Frag) (vs : List V) (H : Hp) (Q : VK) (_ : XK) : Prop where
  h : ∃ (n : Int) (v : V), vs = [.int n, v] ∧ ((∃ t : Value, TyX K H v t ∧ PySem.W.kitOne K t (.type "tuple") = some false ∧ Q (.bl false) H) ∨
    ∃ (a : Addr) (xs : List V), v = .ref a ∧ SqT K H a xs ∧ xs.length ≤ 1000 ∧ (∀ x ∈ xs, scV x = true) ∧ ∀ H', Same H H' → Q (.bl (setB n xs)) H')
theorem walk_zipT {K : PySem.W.Frag} {a b : Addr} {xs ys : List V} {n : Nat} (hn : n = min xs.length ys.length) : Walk (ItzT K a b) n (fun H => SqT K H a xs ∧ SqT K H b ys) (YPair (fun i => xs[i]?) (fun i => ys[i]?)) := by
  subst hn
  refine ⟨fun i _ hi q => ?_, fun _ q => ⟨xs, ys, q.1, q.2, by omega⟩, fun i H v H' _ q y => ?_⟩
  · have l1 : i < xs.length := by omega
    have l2 : i < ys.length := by omega
    exact ⟨xs, ys, xs[i], ys[i], q.1, q.2, List.getElem?_eq_getElem l1, List.getElem?_eq_getElem l2⟩
  · obtain ⟨T, x, z, e1, e2, e3, e4, e5⟩ := y
    exact ⟨T, x, z, e1, e2, e3, e4 xs q.1, e5 ys q.2⟩
theorem cut1_empty {xs : List V} : (HT.sIx xs.length 0 (some 1) = 0 ∧ HT.sIx xs.length xs.length none = xs.length) ↔ xs = [] := by
  rw [show (some (1 : Int)) = some ((1 : Nat) : Int) from rfl, HT.sIx_nat, HT.sIx_none]
  cases xs with
  | nil => simp
  | cons x xs => simp
theorem cut1 {xs : List V} : cutV xs (some 1) none = xs.drop 1 := by
  unfold cutV
  rw [show (some (1 : Int)) = some ((1 : Nat) : Int) from rfl, HT.sIx_nat, HT.sIx_none]
  cases xs with
  | nil => rfl
  | cons x xs => simp
theorem zip_pairs {ns : List Int} {i : Nat} {p : Int × Int} (h : (ns.zip (ns.drop 1))[i]? = some p) : (ns.map V.int)[i]? = some (.int p.1) ∧ ((ns.map V.int).drop 1)[i]? = some (.int p.2) := by
  rw [List.getElem?_zip_eq_some] at h
  rw [← List.map_drop, List.getElem?_map, List.getElem?_map, h.1, h.2]
  exact ⟨rfl, rfl⟩
theorem bl_all {α : Type} (l : List α) (f : α → Bool) : (l.map f).all id = l.all f := by rw [List.all_map]; rfl
section
variable {P : Program} {w : World} {K : PySem.W.Frag} {mg : Str → Option Value} {base : Heap}
abbrev nIS : List Str := ["drawers", "value", "drawer", "one", "other"]
theorem scIS : FnScope nIS ["drawers", "value"] (defScope s_is_set) := ⟨rfl, rfl, rfl, by decide +kernel, rfl, by decide +kernel, by decide +kernel⟩
theorem ok_isSet {f f1 : Addr} {fd fd1 : FuncData} (F : Fun K "is_set" "is_set" s_is_set f fd) (T : Bt mg) (zA : mg "all" = none) (zZ : mg "zip" = none) (G : FnOk P w K mg base CX0 2 f1 fd1 ["drawers", "value"] (spIsDrawer K)) (g1 : mg "is_drawer" = some (.ref f1)) (k1 : PySem.W.keepIn K (.ref f1) = true) (b1 : Binds K fd1 ["drawers", "value"] []) :
    FnOk P w K mg base CX0 4 f fd ["drawers", "value"] (spIsSet K) := by
  refine F.ok scIS (fun vs H Q E h => ?_) (fun cdv A outer s H vs Q E hr h => ?_)
  · obtain ⟨n, v, rfl, _⟩ := h.h
    rfl
  · obtain ⟨n, v, rfl, hv⟩ := h.h
    refine ⟨_, pss_cons (ps_if (PW.pt (pw_or (pt_not (pt_val (pe_callB call_isi (by rfl) T.isinstance (by decide +kernel) (pa_cons (pv 1) (pa_cons (pe_bltn (v := .ty "tuple") (by rfl) T.tuple (by decide +kernel) rfl) pa_nil)))))
        (pw_or1 (pt_not (pt_val (pe_callB (cr_all rfl) (by rfl) zA boot_all_ (pa_cons
          (pe_lc (own := [("drawer", 2)]) (g := gName 2) (tt := tYes) (by rfl) scIS.nd (pi_tup (pv 1)) (blkOk_by (N := nIS) (sc := defScope s_is_set) (by decide +kernel)) (fun _ _ _ _ _ => pg_name (i := 2) scIS.nd rfl (Or.inl rfl)) (fun _ _ _ _ _ => pts_nil)
            (fun _ _ _ _ _ => pe_call G (hr.mono (by decide)) rfl g1 k1 b1 .nil pass0 (pa_cons (pv 0) (pa_cons (pv 2) pa_nil)))) pa_nil))))))) (pss_one (ps_ret pe_bl)) pss_nil)
      (pss_one (ps_ret (pe_callB (cr_all rfl) (by rfl) zA boot_all_ (pa_cons
          (pe_lc (own := [("one", 3), ("other", 4)]) (g := gTup K 2 (gCons (gName 3) (gCons (gName 4) gNil))) (tt := tYes) (by rfl) scIS.nd (pi_zipA (by rfl) zZ (pa_cons (pv 1) (pa_cons (pe_slice sl_tupA (pv 1) (po_some pe_int) po_none) pa_nil))) (blkOk_by (N := nIS) (sc := defScope s_is_set) (by decide +kernel))
            (fun _ _ _ _ _ => pg_tupK (K := K) rfl rfl (pgs_cons (pg_name (i := 3) scIS.nd rfl (Or.inl rfl)) (pgs_cons (pg_name (i := 4) scIS.nd rfl (Or.inl rfl)) pgs_nil))) (fun _ _ _ _ _ => pts_nil)
            (fun _ _ _ _ _ => pe_cmpR op_lt (pv 3) (pv 4) (nomark _))) pa_nil)))), ?_⟩
    rcases hv with ⟨t, hty, hk, k⟩ | ⟨a, xs, rfl, S, hlen, hsc, k⟩
    · exact ⟨_, rfl, _, _, t, _, false, rfl, .ty "tuple", hty, hk, _, rfl, iteT k⟩
    · refine ⟨_, rfl, _, _, _, _, true, rfl, .ty "tuple", tyT S, kit_ty (by decide +kernel), _, rfl, iteF ?_⟩
      refine ⟨_, rfl, a, rfl, ⟨_, S⟩, fun D hD => ?_⟩
      refine lc_pick (walk_tup (K := K) (a := a) (xs := xs)) xs rfl (by omega) (fun _ => true) (fun x => V.bl (isD n x)) hD (fun H' s1 => SqT.same s1 S) ?_ ?_
      · rintro i x z H1 H1' Tk Nk ez s1 ⟨rfl, ex⟩ kT kF
        have ex : xs[i]? = some x := ex
        rw [ez] at ex
        cases ex
        refine ⟨rfl, tYes_of (iteT ?_)⟩
        refine ⟨_, rfl, _, rfl, ?_⟩
        exact spIsDrawer_sc (hsc _ (List.mem_of_getElem? ez)) (kT _ rfl (Same.refl _))
      · intro H1 s1 hD1
        rw [List.filter_eq_self.mpr fun _ _ => rfl] at hD1
        refine ⟨D, xs.map (isD n), rfl, SqL.of (by rw [hD1, List.map_map]; rfl), _, rfl, ?_⟩
        rw [bl_all]
        cases ea : xs.all (isD n) with
        | false =>
          refine iteT ?_
          have := k H1 s1
          unfold setB at this
          rw [ea] at this
          exact this
        | true =>
          refine iteF ?_
          obtain ⟨e1, e2⟩ := ints_of ea
          have S1 := SqT.same s1 S
          have fin : ∀ (H2 : Hp) (b : Addr) (Qf : VK), Same H H2 → SqT K H2 b (xs.drop 1) → (∀ H3, Same H2 H3 → Qf (.bl (ascB (xs.map intOf))) H3) →
              lcC (ItzT K a b) (gTup K 2 (gCons (gName 3) (gCons (gName 4) gNil))) tYes (tOp (rI0 fun i j => V.bl (decide (i < j))) (tVar 3) (tVar 4)) [3, 4] (L2.start nIS [.int n, .ref a]) (fun v H3 => rAll K [v] H3 Qf) H2 := by
            intro H2 b Qf s2 Sb kq D2 hD2
            have Sa := SqT.same s2 S
            have hl : ((xs.map intOf).zip ((xs.map intOf).drop 1)).length = min xs.length (xs.drop 1).length := by rw [List.length_zip, List.length_drop, List.length_map, List.length_drop]
            refine lc_pick (walk_zipT (K := K) (a := a) (b := b) (xs := xs) (ys := xs.drop 1) rfl) ((xs.map intOf).zip ((xs.map intOf).drop 1)) hl (by rw [List.length_drop]; omega) (fun _ => true) (fun p => V.bl (decide (p.1 < p.2))) hD2 (fun H' s3 => ⟨SqT.same s3 Sa, SqT.same s3 Sb⟩) ?_ ?_
            · rintro i x p H3 H3' Tk Nk ep s3 ⟨T, u, v, rfl, hT, rfl, eu, ev⟩ kT kF
              obtain ⟨p1, p2⟩ := zip_pairs ep
              rw [← e1] at p1 p2
              have eu : xs[i]? = some u := eu
              have ev : (xs.drop 1)[i]? = some v := ev
              rw [p1] at eu
              rw [p2] at ev
              cases eu
              cases ev
              refine ⟨T, _, rfl, SqT.of' upd_same, rfl, _, _, rfl, _, _, rfl, rfl, rfl, tYes_of (iteT ?_)⟩
              exact ⟨_, rfl, _, rfl, _, _, rfl, rfl, kT _ rfl (same_upd hT)⟩
            · intro H3 s3 hD3
              rw [List.filter_eq_self.mpr fun _ _ => rfl] at hD3
              refine ⟨D2, ((xs.map intOf).zip ((xs.map intOf).drop 1)).map fun p => decide (p.1 < p.2), rfl, SqL.of (by rw [hD3, List.map_map]; rfl), ?_⟩
              rw [bl_all]
              exact kq H3 s3
          have kk : ∀ H3, Same H H3 → Q (.bl (ascB (xs.map intOf))) H3 := fun H3 s3 => by
            have := k H3 s3
            unfold setB at this
            rw [ea] at this
            exact this
          refine ⟨_, rfl, _, rfl, _, rfl, a, xs, rfl, S1, fun hw => ?_, fun hw p hp => ?_⟩
          · have hx : xs = [] := cut1_empty.mp hw
            exact ⟨a, a, xs, xs, rfl, .inr ⟨S1, S1, fin H1 a Q s1 (by rw [hx] at S1 ⊢; exact S1) fun H3 s3 => kk H3 (s1.trans s3)⟩⟩
          · have s2 := same_upd (o := .tup (cutV xs (some 1) none)) hp
            exact ⟨a, p, xs, cutV xs (some 1) none, rfl, .inr ⟨SqT.same s2 S1, SqT.of' upd_same, fin _ p Q (s1.trans s2) (by rw [← cut1]; exact SqT.of' upd_same) fun H3 s3 => kk H3 ((s1.trans s2).trans s3)⟩⟩
end
/-- in no heap from here on a set of so many drawers -/
def NoSet (K : PySem.W.Frag) (H : Hp) (n : Int) (v : V) : Prop := (∃ t : Value, TyX K H v t ∧ PySem.W.kitOne K t (.type "tuple") = some false) ∨
  ∃ (a : Addr) (xs : List V), v = .ref a ∧ SqT K H a xs ∧ xs.length ≤ 1000 ∧ (∀ x ∈ xs, scV x = true) ∧ setB n xs = false
/-- a set: its drawers stand at a -/
structure SetAt (K : PySem.W.Frag) (H : Hp) (n : Int) (a : Addr) (ns : List Int) : Prop where
  at' : SqT K H a (ns.map V.int)
  low : ∀ d ∈ ns, 0 ≤ d ∧ d < n
  asc : ns.Pairwise (· < ·)
theorem SetAt.same {K : PySem.W.Frag} {H H' : Hp} {n : Int} {a : Addr} {ns : List Int} (S : SetAt K H n a ns) (s : Same H H') : SetAt K H' n a ns := ⟨SqT.same s S.at', S.low, S.asc⟩
theorem asc_pw : ∀ {ns : List Int}, ns.Pairwise (· < ·) → ascB ns = true := by
  intro ns h
  unfold ascB
  rw [List.all_eq_true]
  intro p hp
  obtain ⟨i, hi⟩ := List.getElem?_of_mem hp
  rw [List.getElem?_zip_eq_some] at hi
  obtain ⟨h1, h2⟩ := hi
  rw [List.getElem?_drop] at h2
  obtain ⟨l1, e1⟩ := List.getElem?_eq_some_iff.mp h1
  obtain ⟨l2, e2⟩ := List.getElem?_eq_some_iff.mp h2
  have := List.pairwise_iff_getElem.mp h i (1 + i) l1 l2 (by omega)
  rw [e1, e2] at this
  exact decide_eq_true this
theorem setB_ints {n : Int} {ns : List Int} (hl : ∀ d ∈ ns, 0 ≤ d ∧ d < n) (ha : ns.Pairwise (· < ·)) : setB n (ns.map V.int) = true := by
  unfold setB
  have e : (ns.map V.int).map intOf = ns := by
    rw [List.map_map]
    exact List.map_id ns
  rw [e, asc_pw ha, Bool.and_true, List.all_eq_true]
  intro x hx
  obtain ⟨d, hd, rfl⟩ := List.mem_map.mp hx
  obtain ⟨d0, d1⟩ := hl d hd
  show (decide (0 ≤ d) && decide (d < n)) = true
  rw [decide_eq_true d0, decide_eq_true d1]
  rfl
theorem pw_low_len {n : Nat} {ns : List Int} (hl : ∀ d ∈ ns, 0 ≤ d ∧ d < n) (ha : ns.Pairwise (· < ·)) : ns.length ≤ n := by
  have nd : ns.Nodup := ha.imp fun h => by omega
  have hs : ∀ d ∈ ns, d ∈ drs n := fun d hd => by
    obtain ⟨d0, d1⟩ := hl d hd
    unfold drs
    exact List.mem_map.mpr ⟨d.toNat, List.mem_range.mpr (by omega), by omega⟩
  have := nd.length_le_of_subset hs
  rw [drs_len] at this
  exact this
structure spCkSet (K : PySem.W.Frag) (C : Addr) (vs : List V) (H : Hp) (Q : VK) (_ : XK) : Prop where
  h : ∃ (c a : Addr) (n : Nat) (t : Addr) (ns : List Int), vs = [.ref c, .ref a] ∧ CabAt C H c n t ∧ n ≤ 7 ∧ SetAt K H n a ns ∧ ∀ H', Same H H' → Q .non H'
structure spCkSetX (K : PySem.W.Frag) (C CS : Addr) (vs : List V) (H : Hp) (Q : VK) (E : XK) : Prop where
  h : ∃ (c : Addr) (v : V) (n : Int) (t : Addr), vs = [.ref c, v] ∧ CabAt C H c n t ∧ NoSet K H n v ∧ ∀ H', Same H H' → E (.ref CS) none H'
section
variable {P : Program} {w : World} {K : PySem.W.Frag} {mg : Str → Option Value} {base : Heap}
theorem scCkS : FnScope ["cabinet", "some"] ["cabinet", "some"] (defScope s_check_set) := ⟨rfl, rfl, rfl, by decide +kernel, rfl, by decide +kernel, by decide +kernel⟩
theorem ok_ckSet {f f1 C : Addr} {fd fd1 : FuncData} (F : Fun K "check_set" "check_set" s_check_set f fd) (CP : CabP P w K mg base C) (G : FnOk P w K mg base CX0 4 f1 fd1 ["drawers", "value"] (spIsSet K)) (g1 : mg "is_set" = some (.ref f1)) (k1 : PySem.W.keepIn K (.ref f1) = true) (b1 : Binds K fd1 ["drawers", "value"] []) :
    FnOk P w K mg base CX0 6 f fd ["cabinet", "some"] (spCkSet K C) := by
  refine F.ok scCkS (fun vs H Q E h => ?_) (fun cdv A outer s H vs Q E hr h => ?_)
  · obtain ⟨c, a, n, t, ns, rfl, _⟩ := h.h
    rfl
  · obtain ⟨c, a, n, t, ns, rfl, ⟨dx, hc⟩, n7, S, k⟩ := h.h
    obtain ⟨pD, gD, fdD, hpD, GD, bD⟩ := CP.d
    refine ⟨_, pss_one (ps_if (pt_not (pt_val (pe_call G (hr.mono (by decide)) rfl g1 k1 b1 .nil pass0 (pa_cons (pe_prop (pv 0) CP.cl hpD GD (hr.mono (by decide)) bD .nil pass0 rfl) (pa_cons (pv 1) pa_nil))))) (pss_one ps_never) pss_nil), ?_⟩
    have hl := pw_low_len S.low S.asc
    refine ⟨_, rfl, c, dx, _, rfl, hc, ⟨⟨c, dx, _, t, rfl, hc, _, rfl, ⟨⟨n, _, rfl, .inr ⟨a, _, rfl, S.at', by rw [List.length_map]; omega, fun x hx => ?_, fun H' s1 => ⟨_, rfl, ?_⟩⟩⟩⟩⟩⟩⟩
    · obtain ⟨d, _, rfl⟩ := List.mem_map.mp hx
      rfl
    · rw [setB_ints S.low S.asc]
      exact iteF (k H' s1)
theorem ok_ckSetX {f f1 C CS : Addr} {fd fd1 : FuncData} (F : Fun K "check_set" "check_set" s_check_set f fd) (CP : CabP P w K mg base C) (BT : ErrT K mg "BadSet" CS) (G : FnOk P w K mg base CX0 4 f1 fd1 ["drawers", "value"] (spIsSet K)) (g1 : mg "is_set" = some (.ref f1)) (k1 : PySem.W.keepIn K (.ref f1) = true) (b1 : Binds K fd1 ["drawers", "value"] []) :
    FnOk P w K mg base (L2.CX P w) 6 f fd ["cabinet", "some"] (spCkSetX K C CS) := by
  refine F.okX scCkS (fun vs H Q E h => ?_) (fun cdv A outer s H vs Q E hr h => ?_)
  · obtain ⟨c, v, n, t, rfl, _⟩ := h.h
    rfl
  · obtain ⟨c, v, n, t, rfl, ⟨dx, hc⟩, hv, k⟩ := h.h
    obtain ⟨pD, gD, fdD, hpD, GD, bD⟩ := CP.d
    refine ⟨_, pss_one (ps_if (pt_not (pt_val (pe_call G (hr.mono (by decide)) rfl g1 k1 b1 .nil pass0 (pa_cons (pe_prop (pv 0) CP.cl hpD GD (hr.mono (by decide)) bD .nil pass0 rfl) (pa_cons (pv 1) pa_nil)))))
      (pss_one (ps_raise rfl (takes_of rfl rfl rfl rfl) (pmk_own PySem.F.excBase_ValueError BT.x BT.g BT.k (raises_own BT.b BT.t) (by exact rfl)))) pss_nil), ?_⟩
    refine ⟨_, rfl, c, dx, _, rfl, hc, ⟨⟨c, dx, _, t, rfl, hc, _, rfl, ⟨⟨n, _, rfl, ?_⟩⟩⟩⟩⟩
    rcases hv with ⟨ty, h1, h2⟩ | ⟨a, xs, rfl, S, hl, hsc, hf⟩
    · exact .inl ⟨ty, h1, h2, _, rfl, iteT (k H (Same.refl H))⟩
    · refine .inr ⟨a, xs, rfl, S, hl, hsc, fun H' s1 => ⟨_, rfl, ?_⟩⟩
      rw [hf]
      exact iteT (k H' s1)
end
end DL

set_option Elab.async false
set_option maxRecDepth 100000

set_option Elab.async false
set_option maxRecDepth 100000
set_option maxHeartbeats 1000000
namespace DL
open PySem PySem.Spec PyProof.Rows L2
/-! ### several clauses, with or without a name for the error -/
abbrev ClA := Value × Option Nat × (Addr → Value → Option Addr → TS)
def offI (i : Nat) (D : Ends) : Ends := { nx := fun σ H => D.nx (σ.set i none) H, rt := D.rt, bk := fun σ H => D.bk (σ.set i none) H, ct := fun σ H => D.ct (σ.set i none) H }
def runA (ts : Addr → Value → Option Addr → TS) (o : Option Nat) (a : Addr) (cls : Value) (d : Option Addr) (D : Ends) (σ : L2.St) (H : Hp) : Prop :=
  match o with
  | none => ts a cls d D σ H
  | some i => ts a cls d (offI i D) (σ.set i (some (.ref a))) H
def wAny (K : PySem.W.Frag) (Wout : WX) (D : Ends) : List ClA → WX
  | [] => Wout
  | (c, o, ts) :: r => fun cls d σ H => ∃ b, PySem.W.exmOne K cls c = some b ∧ (b = true → ∀ a, H a = none → runA ts o a cls d D σ H) ∧ (b = false → wAny K Wout D r cls d σ H)
inductive ClsA (X : Cx) : List ExceptHandler → List ClA → Prop
  | nil : ClsA X [] []
  | plain {x : Str} {c : Value} {ts : Addr → Value → Option Addr → TS} {b₀ : Stmt} {suite : List Stmt} {np pos' : Pos} {hds : List ExceptHandler} {l : List ClA} (hc : Names X x c)
      (su : ∀ (a : Addr) (oe : Obj) (cls : Value) (d : Option Addr) (pn : List (Addr × Obj)), Zc cls d oe → (∃ vs, oe.data = .fields vs) → PSs (X.suite a ((a, oe) :: pn)) (b₀ :: suite) (ts a cls d)) (r : ClsA X hds l) :
      ClsA X (.ExceptHandler (some (.Name x np)) none (b₀ :: suite) pos' :: hds) ((c, none, ts) :: l)
  | named {x n : Str} {i : Nat} {c : Value} {ts : Addr → Value → Option Addr → TS} {b₀ : Stmt} {suite : List Stmt} {np pos' : Pos} {hds : List ExceptHandler} {l : List ClA} (hN : X.N.Nodup) (hi : X.N[i]? = some n) (hln : X.env.kindOf n = some .local) (hc : Names X x c)
      (su : ∀ (a : Addr) (oe : Obj) (cls : Value) (d : Option Addr) (pn : List (Addr × Obj)), Zc cls d oe → (∃ vs, oe.data = .fields vs) → PSs (X.suite a ((a, oe) :: pn)) (b₀ :: suite) (ts a cls d)) (r : ClsA X hds l) :
      ClsA X (.ExceptHandler (some (.Name x np)) (some n) (b₀ :: suite) pos' :: hds) ((c, some i, ts) :: l)
section
variable {X : Cx} {body : List Stmt} {k₀ : ExceptHandler} {ks : List ExceptHandler} {l : List ClA} {pos : Pos} {tb : WX → TS} {Wout : WX}
theorem ps_try_any (hst : X.stack = X.env :: X.outer) (hfr : X.env.frame = some X.env.locals) (tk : Takes X Wout)
    (hbd : ∀ (W : WX) (pn : List (Addr × Obj)) (xe : Value → Shared → Prop), Takes (X.tr pn xe) W → PassesOwn (model X.prog X.w) X.A X.env xe → PSs (X.tr pn xe) body (tb W))
    (hcl : ClsA X (k₀ :: ks) l) : PS X (.Try body (k₀ :: ks) [] [] pos) (fun D σ H => tb (wAny X.K Wout D l) D σ H) := by
  refine ⟨fun pins s σ H D I rd => ?_⟩
  have okX := I.ok
  have afr : X.A.frames = some (X.env :: X.outer) := by rw [okX.frames, hst]
  have nom : ∀ {x : Str} {c : Value} {a : Addr} {oe : Obj} {σ' : L2.St} {H' : Hp} {s' : Shared} {Q : Value → Shared → Prop} {E : Value → Shared → Prop} {np : Pos}, Names X x c → Inv (X.suite a ((a, oe) :: (X.pn ++ pins))) [] σ' H' s' → Q c s' → wpAny (model X.prog X.w) (X.A.mark (some (.ref a))) (eval (.Name x np) X.env) Q E s' :=
    fun {x c a oe σ' H' s' Q E np} nm Sv q => by
      obtain ⟨gl, ndb, mm | ⟨mm, bo, nn⟩⟩ := nm
      · exact ld_glob (X := X.suite a ((a, oe) :: (X.pn ++ pins))) Sv gl mm q ndb
      · exact ld_blt (X := X.suite a ((a, oe) :: (X.pn ++ pins))) Sv gl mm bo q nn ndb
  refine wpAny_Try_except ?_
  refine wpAny_mono ((hbd (wAny X.K Wout D l) (X.pn ++ pins) (fun ev sA => wpAny (model X.prog X.w) X.A (noteFrame ev X.env) (fun _ sB => wpAny (model X.prog X.w) X.A (setFlight ev none) (fun _ sC => wpAny (model X.prog X.w) X.A (handleBy ev X.env (k₀ :: ks)) (SP X pins D) X.xe sC) X.xe sB) X.xe sA)
    (fun u s' cx => ?_) PassesOwn.looking).run [] s σ H D (I.toTry _) rd) (fun fl sE ends => ?_) (fun ev sE z => z)
  · obtain ⟨a, B, sI, pinsT, σT, HT, cls, d, rfl, Jt, nb, grow, inAir, free, osE, bareE, wish⟩ := cx
    have Jx : Inv X pins σT HT sI := Jt.ofTry okX
    have air : Sky B (X.env :: X.outer) a (Zc cls d) X.env.locals s'.heap := by rw [← hst]; exact inAir
    show wpAny (model X.prog X.w) X.A (noteFrame (.ref a) X.env) _ _ _
    refine Sky.land Zc.steady afr hfr air fun hA flA upA => ?_
    have JA : Inv X pins σT HT { s' with heap := hA } := Jx.landed nb flA.1 (grow.trans upA) osE bareE
    obtain ⟨oA, vA, getA, zcA, dataA⟩ := flA.there
    have apart : a ∉ frs (X.env :: X.outer) := fun mm => by
      obtain ⟨_, oB, getB, isF⟩ := flA.2.2.1.mem mm
      rw [getA] at getB
      cases getB
      exact isF _ dataA
    have ne1 : a ≠ X.env.locals := fun z => apart (List.mem_filterMap.mpr ⟨X.env, List.mem_cons_self, by rw [hfr, z]⟩)
    have ne2 : a ∉ X.fs := fun mm => by
      obtain ⟨en, hen, q⟩ := List.mem_filterMap.mp mm
      exact apart (List.mem_filterMap.mpr ⟨en, List.mem_cons_of_mem _ hen, q⟩)
    have SA := JA.suite getA dataA free ne1 ne2
    have tyA : PySem.W.Looks (model X.prog X.w) hA (typeOf (.ref a)) cls := fun A Q E s k q => wpAny_typeOf_ref (k _ _ getA) (by rw [zcA.1]; exact q)
    have walk : ∀ {hds : List ExceptHandler} {cl : List ClA}, ClsA X hds cl → wAny X.K Wout D cl cls d σT HT → wpAny (model X.prog X.w) X.A (handleBy (.ref a) X.env hds) (SP X pins D) X.xe { s' with heap := hA } := by
      intro hds cl hk
      induction hk with
      | nil =>
        intro wsh
        refine wpAny_handleBy_nil ?_
        obtain ⟨f1, f2, f3, oe, vs, T, oT, ts', fe, fz, fd, f4, fr⟩ := id flA
        unfold PySem.passOn
        refine wpAny_bind (wpAny_field fe fd f4 ?_)
        rw [if_neg (show ¬ ((Value.ref T == Value.none) = true) from by simp)]
        have out : wpAny (model X.prog X.w) X.A (setFlight (.ref a) X.env.frame) (fun _ sD => wpAny (model X.prog X.w) X.A (throw (.ref a) : Sem Flow) (SP X pins D) X.xe sD) X.xe { s' with heap := hA } := by
          rw [hfr]
          refine HandSPX.setFlight_upZ flA fun hB inB upB => wpAny_throw (tk _ _ ?_)
          exact ⟨a, B, sI, pins, σT, HT, cls, d, rfl, Jx, nb, (grow.trans upA).trans upB, .inr (.inr (by rw [hst]; exact inB)), free, osE, bareE, wsh⟩
        first
          | exact wpAny_bind (wpAny_pure (wpAny_bind out))
          | exact wpAny_bind out
      | @plain x c ts b₀ suite np pos' hds2 l2 hc su r ih =>
        intro wsh
        obtain ⟨b, mt, yes, no⟩ := wsh
        refine wpAny_handleBy_cons (codeAny_handlers_test ?_) (by intro z; cases z)
        have lm := PySem.W.exm_one (M := model X.prog X.w) (JA.kIn) tyA mt
        refine nom hc SA (lm.here ?_)
        cases b with
        | false =>
          show wpAny _ X.A (handleBy (.ref a) X.env hds2) _ _ _
          exact ih (no rfl)
        | true =>
          refine codeAny_handlers_suite ?_
          refine HandSPX.lands_againZ flA fun hB flB upB => ?_
          have JB : Inv X pins σT HT { s' with heap := hB } := Jx.landed nb flB.1 ((grow.trans upA).trans upB) osE bareE
          obtain ⟨oB, vB, getB, zcB, dataB⟩ := flB.there
          have SB := JB.suite getB dataB free ne1 ne2
          refine wpAny_mono ((su a oB cls d (X.pn ++ pins) zcB ⟨_, dataB⟩).run [] _ _ HT _ SB (yes rfl a free)) (fun fl sE ends => ?_) (fun _ _ z => False.elim z)
          cases fl with
          | next => exact let ⟨_, _, Sx, qx⟩ := ends; ⟨_, _, Sx.unsuite okX, qx⟩
          | brk => exact let ⟨_, _, Sx, qx⟩ := ends; ⟨_, _, Sx.unsuite okX, qx⟩
          | cont => exact let ⟨_, _, Sx, qx⟩ := ends; ⟨_, _, Sx.unsuite okX, qx⟩
          | ret u => exact let ⟨_, _, _, Sx, rx, qx⟩ := ends; ⟨_, _, _, Sx.unsuite okX, rx, qx⟩
      | @named x n i c ts b₀ suite np pos' hds2 l2 hN hi hln hc su r ih =>
        intro wsh
        obtain ⟨b, mt, yes, no⟩ := wsh
        refine wpAny_handleBy_cons (codeAny_handlers_test ?_) (by intro z; cases z)
        have lm := PySem.W.exm_one (M := model X.prog X.w) (JA.kIn) tyA mt
        refine nom hc SA (lm.here ?_)
        cases b with
        | false =>
          show wpAny _ X.A (handleBy (.ref a) X.env hds2) _ _ _
          exact ih (no rfl)
        | true =>
          refine codeAny_handlers_suite_as ?_
          refine HandSPX.lands_againZ flA fun hB flB upB => ?_
          have JB : Inv X pins σT HT { s' with heap := hB } := Jx.landed nb flB.1 ((grow.trans upA).trans upB) osE bareE
          obtain ⟨oB, vB, getB, zcB, dataB⟩ := flB.there
          have SB := JB.suite getB dataB free ne1 ne2
          refine store_ok (X := X.suite a ((a, oB) :: (X.pn ++ pins))) (v := .ref a) SB hN hi (.inl hln) rfl (fun sF SF => ?_) (.inr hln)
          refine wpAny_mono ((su a oB cls d (X.pn ++ pins) zcB ⟨_, dataB⟩).run [] sF _ HT _ SF (yes rfl a free)) (fun fl sE ends => ?_) (fun _ _ z => False.elim z)
          cases fl with
          | next => exact let ⟨_, _, Sx, qx⟩ := ends; gone_ok (Sx.unsuite okX) hN hi hln fun _ Jz => ⟨_, _, Jz, qx⟩
          | brk => exact let ⟨_, _, Sx, qx⟩ := ends; gone_ok (Sx.unsuite okX) hN hi hln fun _ Jz => ⟨_, _, Jz, qx⟩
          | cont => exact let ⟨_, _, Sx, qx⟩ := ends; gone_ok (Sx.unsuite okX) hN hi hln fun _ Jz => ⟨_, _, Jz, qx⟩
          | ret u => exact let ⟨_, _, _, Sx, rx, qx⟩ := ends; gone_ok (Sx.unsuite okX) hN hi hln fun _ Jz => ⟨_, _, _, Jz, rx, qx⟩
    exact walk hcl wish
  · cases fl with
    | next => exact let ⟨_, _, Jz, qx⟩ := ends; wpAny_execs_nil ⟨_, _, Jz.ofTry okX, qx⟩
    | brk => exact let ⟨_, _, Jz, qx⟩ := ends; ⟨_, _, Jz.ofTry okX, qx⟩
    | cont => exact let ⟨_, _, Jz, qx⟩ := ends; ⟨_, _, Jz.ofTry okX, qx⟩
    | ret u => exact let ⟨_, _, _, Jz, rx, qx⟩ := ends; ⟨_, _, _, Jz.ofTry okX, rx, qx⟩
end
end DL

set_option Elab.async false
set_option maxRecDepth 100000
set_option maxHeartbeats 1000000
namespace DL
open PySem PySem.Spec PyProof.Rows L2
/-! ### C(..) in a try -/
def tMkS (C : Addr) (sp : Sp) (E : L2.St → XK) (t : TA) : TE := fun σ H Q => t σ H fun vs H1 => ∀ x dx, H1 x = none → H1 dx = none → dx ≠ x → sp (.ref x :: vs) (upd (upd H1 dx (.own x)) x (.ins C dx [])) (fun v H2 => v = .non ∧ Q (.ref x) H2) (E σ)
section
variable {X : Cx} {CX : CXT} {k : Nat} {f C : Addr} {fd : FuncData} {ps : List Str} {sp : Sp} {E : L2.St → XK} {x : Str} {p pos : Pos} {e : Expr} {es : List Expr} {t : TA}
theorem pe_mkS (M : Mk X.K C f) (F : FnOk X.prog X.w X.K X.mg X.base CX k f fd ps sp) (room : Room (k + 1) X.A) (gl : Gl X x) (gC : X.mg x = some (.ref C)) (bi : Binds X.K fd ps []) (pas : ∀ σ, PassesAt CX X σ (E σ)) (ar : PA X (e :: es) t)
    (ndb : (x == ("__debug__" : Str)) = false := by decide) (sta : starEach (e :: es) X.env = (false, eval e X.env) :: starEach es X.env := by rfl) (pla : (backTo pos (starEach es X.env)).any (·.1) = false := by rfl) : PE X (.Call (.Name x p) (e :: es) [] pos) (tMkS C sp E t) := by
  refine ⟨fun pins s0 σ H Q I0 rd => ?_⟩
  refine wpAny_Call_Name_kw (ld_glob I0 gl gC ?_ ndb)
  refine PySem.W.callWith_K (h₀ := X.base) I0.ok.mod.kin M.kp (thn (ar.run pos pins s0 σ H _ I0 rd) fun us s ⟨vs, H1, I, rv, mk⟩ => ⟨I.kIn, ?_⟩) sta pla
  have wish := mk (s.heap.objs.size + 1) s.heap.objs.size (I.hok.fresh (Nat.le_succ _)) (I.hok.fresh (Nat.le_refl _)) (Nat.ne_of_lt (Nat.lt_succ_self _))
  have Im := Inv.made (C := C) I
  have rm : Vals (V.ref (s.heap.objs.size + 1) :: vs) (Value.ref (s.heap.objs.size + 1) :: us) := .cons rfl rv
  have le : (Value.ref (s.heap.objs.size + 1) :: us).length = ps.length := by
    rw [← rm.length]
    exact F.len _ _ _ _ wish
  have bn := bi _ (Value.ref (s.heap.objs.size + 1) :: us) Im.kIn (by rw [List.append_nil]; exact le)
  rw [List.append_nil] at bn
  refine wpAny_call (make_map (f := f) I.kIn M.makes M.init (beq_iff_eq.mp M.fn) (codeAny_mono (F.run _ X.stack _ _ ⟨Value.ref (s.heap.objs.size + 1) :: us, []⟩ (Value.ref (s.heap.objs.size + 1) :: us) _ _ (E σ) (room.make C us []) (Im.env0.make C us []) bn rm wish) fun res s' fin => ?_))
  cases res with
  | error ev => exact pas σ pins _ _ ev s' Im fin
  | ok fl =>
    cases fl with
    | ret u =>
      obtain ⟨v, H', Ia, ru, ev, qq⟩ := Im.after fin
      subst ev
      exact ⟨ru, ⟨V.ref (s.heap.objs.size + 1), H', Ia, rfl, qq⟩⟩
    | next => exact fin.elim
    | brk => exact fin.elim
    | cont => exact fin.elim
end
end DL

set_option Elab.async false
set_option maxRecDepth 100000
set_option maxHeartbeats 1000000
namespace DL
open PySem L2 HT TL
/-! ### standings, patterns, drawers, lengths that are refused, whatever they are -/
def NoStr (K : PySem.W.Frag) (H : Hp) (v : V) : Prop := ∃ t, (∀ H', Same H H' → TyX K H' v t) ∧ PySem.W.kitOne K t (.type "str") = some false
def BadSgn (K : PySem.W.Frag) (z : Str) (H : Hp) (n : Int) (v : V) : Prop := NoStr K H v ∨ ∃ y, v = .str y ∧ y.length ≤ 1000 ∧ sgnB n z (.str y) = false
def GoodSgn (z : Str) (n : Int) (v : V) : Prop := ∃ y, v = .str y ∧ y.length ≤ 1000 ∧ sgnB n z (.str y) = true
def BadDrw (n : Int) (v : V) : Prop := scV v = true ∧ isD n v = false
theorem BadSgn.same {K : PySem.W.Frag} {z : Str} {H H' : Hp} {n : Int} {v : V} (h : BadSgn K z H n v) (s : Same H H') : BadSgn K z H' n v := by
  rcases h with ⟨t, h1, h2⟩ | h
  · exact .inl ⟨t, fun H2 s2 => h1 H2 (s.trans s2), h2⟩
  · exact .inr h
theorem CabAt.sameI {C : Addr} {H H' : Hp} {c : Addr} {n : Int} {t : Addr} (h : CabAt C H c n t) (s : Same H H') : CabAt C H' c n t := by
  obtain ⟨dx, hc⟩ := h
  exact ⟨dx, s _ _ hc⟩
structure spSgn3 (K : PySem.W.Frag) (vs : List V) (H : Hp) (Q : VK) (_ : XK) : Prop where
  h : ∃ (n : Int) (v : V) (z : Str), vs = [.int n, v, .str z] ∧ ((BadSgn K z H n v ∧ ∀ H', Same H H' → Q (.bl false) H') ∨ (GoodSgn z n v ∧ ∀ H', Same H H' → Q (.bl true) H'))
structure spSgn2 (K : PySem.W.Frag) (z : Str) (vs : List V) (H : Hp) (Q : VK) (_ : XK) : Prop where
  h : ∃ (n : Int) (v : V), vs = [.int n, v] ∧ ((BadSgn K z H n v ∧ ∀ H', Same H H' → Q (.bl false) H') ∨ (GoodSgn z n v ∧ ∀ H', Same H H' → Q (.bl true) H'))
structure spCkSgn (K : PySem.W.Frag) (C : Addr) (z : Str) (CE : Addr) (vs : List V) (H : Hp) (Q : VK) (E : XK) : Prop where
  h : ∃ (c : Addr) (v : V) (n : Int) (t : Addr), vs = [.ref c, v] ∧ CabAt C H c n t ∧ ((BadSgn K z H n v ∧ ∀ H', Same H H' → E (.ref CE) none H') ∨ (GoodSgn z n v ∧ ∀ H', Same H H' → Q .non H'))
structure spCkDrw (C CE : Addr) (vs : List V) (H : Hp) (_ : VK) (E : XK) : Prop where
  h : ∃ (c : Addr) (v : V) (n : Int) (t : Addr), vs = [.ref c, v] ∧ CabAt C H c n t ∧ BadDrw n v ∧ E (.ref CE) none H
abbrev BadLenL (K : PySem.W.Frag) (H : Hp) (lo m : Int) (v : V) : Prop := (∃ (t : Value) (b1 b2 : Bool), TyX K H v t ∧ PySem.W.kitOne K t (.type "int") = some b1 ∧ PySem.W.kitOne K t (.type "bool") = some b2 ∧ (b1 && !b2) = false) ∨ ∃ i : Int, v = .int i ∧ ¬ (lo ≤ i ∧ i ≤ m)
abbrev BadLen (K : PySem.W.Frag) (H : Hp) (m : Int) (v : V) : Prop := BadLenL K H 0 m v
structure spCkLen (K : PySem.W.Frag) (CN : Addr) (vs : List V) (H : Hp) (Q : VK) (E : XK) : Prop where
  h : ∃ (v : V) (lo m : Int), vs = [v, .int lo, .int m] ∧ ((BadLenL K H lo m v ∧ exIni CN "n" v H E) ∨ (∃ i : Int, v = .int i ∧ lo ≤ i ∧ i ≤ m ∧ Q .non H))
/-- what is called with a cabinet and a standing, a pattern, a drawer that is none -/
structure spBadS (K : PySem.W.Frag) (C : Addr) (z : Str) (CE : Addr) (vs : List V) (H : Hp) (_ : VK) (E : XK) : Prop where
  h : ∃ (c : Addr) (v : V) (n : Int) (t : Addr), vs = [.ref c, v] ∧ CabAt C H c n t ∧ BadSgn K z H n v ∧ ∀ H', Same H H' → E (.ref CE) none H'
section
variable {P : Program} {w : World} {K : PySem.W.Frag} {mg : Str → Option Value} {base : Heap}
theorem ok_hasSignsI {f : Addr} {fd : FuncData} (F : Fun K "has_signs" "has_signs" s_has_signs f fd) (T : Bt mg) (zS : mg "str" = none) (zA : mg "all" = none) : FnOk P w K mg base CX0 1 f fd ["drawers", "value", "signs"] (spSgn3 K) := by
  refine F.ok scHS (fun vs H Q E h => ?_) (fun cdv A outer s H vs Q E hr h => ?_)
  · obtain ⟨n, v, z, rfl, _⟩ := h.h
    rfl
  · obtain ⟨n, v, z, rfl, hv⟩ := h.h
    refine ⟨_, pss_cons (ps_if (PW.pt (pw_or (pt_not (pt_val (pe_callB call_isi (by rfl) T.isinstance (by decide +kernel) (pa_cons (pv 1) (pa_cons (pe_bltn (v := .ty "str") (by rfl) zS (by decide +kernel) rfl) pa_nil)))))
        (pw_or1 (pt_cmpR op_ne (pe_callB call_len_str (by rfl) T.len PySem.boot_len (pa_cons (pv 1) pa_nil)) (pv 0) (nomark _))))) (pss_one (ps_ret pe_bl)) pss_nil)
      (pss_one (ps_ret (pe_callB (cr_all rfl) (by rfl) zA boot_all_ (pa_cons
        (pe_lc (own := [("sign", 3)]) (g := gName 3) (tt := tYes) (by rfl) scHS.nd (pi_str (pv 1)) (blkOk_by (N := nHS) (sc := defScope s_has_signs) (by decide +kernel)) (fun _ _ _ _ _ => pg_name (i := 3) scHS.nd rfl (by first | exact Or.inl rfl | exact Or.inr rfl)) (fun _ _ _ _ _ => pts_nil)
          (fun _ _ _ _ _ => pe_cmpR op_in_sign (pv 3) (pv 2) (by rfl))) pa_nil)))), ?_⟩
    have hv' : (NoStr K H v ∧ Q (.bl false) H) ∨ ∃ y, v = .str y ∧ y.length ≤ 1000 ∧ ∀ H', Same H H' → Q (.bl (sgnB n z (.str y))) H' := by
      rcases hv with ⟨hn | ⟨y, e, hy, hb⟩, k⟩ | ⟨⟨y, e, hy, hb⟩, k⟩
      · exact .inl ⟨hn, k H (Same.refl H)⟩
      · exact .inr ⟨y, e, hy, fun H' s => by rw [hb]; exact k H' s⟩
      · exact .inr ⟨y, e, hy, fun H' s => by rw [hb]; exact k H' s⟩
    rcases hv' with ⟨⟨t, ty, kt⟩, k⟩ | ⟨y, rfl, h1000, k⟩
    · exact ⟨_, rfl, _, _, t, _, false, rfl, .ty "str", ty H (Same.refl H), kt, _, rfl, iteT k⟩
    · have hdone : True := trivial
      have ysz : y.length ≤ sizeLine := Nat.le_of_lt (small1000 h1000)
      refine ⟨_, rfl, _, _, .type "str", _, true, rfl, .ty "str", .base (.str y), kit_ty (by decide +kernel), _, rfl, iteF ?_⟩
      refine ⟨_, rfl, _, rfl, ysz, _, rfl, rfl, _, rfl, ?_⟩
      have ei := int_dec (y.length : Int) n
      show if (!decide ((V.int (y.length : Int)) = V.int n)) = true then _ else _
      rw [ei]
      cases en : decide ((y.length : Int) = n) with
      | false =>
        refine iteT ?_
        have := k H (Same.refl H)
        rw [sgn_str, en] at this
        exact this
      | true =>
        refine iteF ?_
        refine ⟨_, rfl, _, rfl, fun D hD => ?_⟩
        have hsz : y.cps.toList.length = y.cps.size := Array.length_toList
        have hyl : y.length = y.cps.size := rfl
        have := h1000
        refine lc_pick walk_str y.cps.toList hsz (by omega) (fun _ => true) (fun c => V.bl (decide (c ∈ z.cps.toList))) hD (fun _ _ => trivial) ?_ ?_
        · rintro i x c H1 H1' Tk Nk ez s1 ⟨rfl, c', hc', rfl⟩ kT kF
          rw [Array.getElem?_toList, hc'] at ez
          cases ez
          refine ⟨rfl, tYes_of (iteT ?_)⟩
          exact ⟨_, rfl, _, rfl, _, z, rfl, rfl, kT _ rfl (Same.refl _)⟩
        · intro H1 s1 hD1
          rw [List.filter_eq_self.mpr fun _ _ => rfl] at hD1
          refine ⟨D, y.cps.toList.map fun c => decide (c ∈ z.cps.toList), rfl, SqL.of (by rw [hD1, List.map_map]; rfl), ?_⟩
          have := k H1 s1
          rw [sgn_str, en, Bool.true_and] at this
          have e9 : (y.cps.toList.map fun c => decide (c ∈ z.cps.toList)).all id = y.cps.toList.all fun c => decide (c ∈ z.cps.toList) := by rw [List.all_map]; rfl
          rw [e9]
          exact this
theorem scIsStdI : FnScope ["drawers", "value"] ["drawers", "value"] (defScope s_is_standing) := ⟨rfl, rfl, rfl, by decide +kernel, rfl, by decide +kernel, by decide +kernel⟩
theorem ok_isStdI {f f1 : Addr} {fd fd1 : FuncData} (F : Fun K "is_standing" "is_standing" s_is_standing f fd) (G : FnOk P w K mg base CX0 1 f1 fd1 ["drawers", "value", "signs"] (spSgn3 K)) (g1 : mg "has_signs" = some (.ref f1)) (k1 : PySem.W.keepIn K (.ref f1) = true) (b1 : Binds K fd1 ["drawers", "value", "signs"] [])
    (gS : ∃ t, mg "STANDING_SIGNS" = some (.str "os" t)) : FnOk P w K mg base CX0 2 f fd ["drawers", "value"] (spSgn2 K "os") := by
  refine F.ok scIsStdI (fun vs H Q E h => ?_) (fun cdv A outer s H vs Q E hr h => ?_)
  · obtain ⟨n, v, rfl, _⟩ := h.h
    rfl
  · obtain ⟨n, v, rfl, hv⟩ := h.h
    obtain ⟨tS, gS⟩ := gS
    refine ⟨_, pss_one (ps_ret (pe_call G (hr.mono (by decide)) rfl g1 k1 b1 .nil pass0 (pa_cons (pv 0) (pa_cons (pv 1) (pa_cons (pe_glob (v := .str "os") rfl gS ⟨_, rfl⟩) pa_nil))))), ?_⟩
    exact ⟨_, rfl, _, rfl, ⟨⟨n, v, _, rfl, hv⟩⟩⟩
theorem scIsPatI : FnScope ["drawers", "value"] ["drawers", "value"] (defScope s_is_pattern) := ⟨rfl, rfl, rfl, by decide +kernel, rfl, by decide +kernel, by decide +kernel⟩
theorem ok_isPatI {f f1 : Addr} {fd fd1 : FuncData} (F : Fun K "is_pattern" "is_pattern" s_is_pattern f fd) (G : FnOk P w K mg base CX0 1 f1 fd1 ["drawers", "value", "signs"] (spSgn3 K)) (g1 : mg "has_signs" = some (.ref f1)) (k1 : PySem.W.keepIn K (.ref f1) = true) (b1 : Binds K fd1 ["drawers", "value", "signs"] [])
    (gS : ∃ t, mg "PATTERN_SIGNS" = some (.str "os?" t)) : FnOk P w K mg base CX0 2 f fd ["drawers", "value"] (spSgn2 K "os?") := by
  refine F.ok scIsPatI (fun vs H Q E h => ?_) (fun cdv A outer s H vs Q E hr h => ?_)
  · obtain ⟨n, v, rfl, _⟩ := h.h
    rfl
  · obtain ⟨n, v, rfl, hv⟩ := h.h
    obtain ⟨tS, gS⟩ := gS
    refine ⟨_, pss_one (ps_ret (pe_call G (hr.mono (by decide)) rfl g1 k1 b1 .nil pass0 (pa_cons (pv 0) (pa_cons (pv 1) (pa_cons (pe_glob (v := .str "os?") rfl gS ⟨_, rfl⟩) pa_nil))))), ?_⟩
    exact ⟨_, rfl, _, rfl, ⟨⟨n, v, _, rfl, hv⟩⟩⟩
theorem scCkStdI : FnScope ["cabinet", "standing"] ["cabinet", "standing"] (defScope s_check_standing) := ⟨rfl, rfl, rfl, by decide +kernel, rfl, by decide +kernel, by decide +kernel⟩
theorem ok_ckStdI {f f1 C CE : Addr} {fd fd1 : FuncData} (F : Fun K "check_standing" "check_standing" s_check_standing f fd) (CP : CabP P w K mg base C) (BT : ErrT K mg "BadStanding" CE) (G : FnOk P w K mg base CX0 2 f1 fd1 ["drawers", "value"] (spSgn2 K "os")) (g1 : mg "is_standing" = some (.ref f1)) (k1 : PySem.W.keepIn K (.ref f1) = true) (b1 : Binds K fd1 ["drawers", "value"] []) :
    FnOk P w K mg base (L2.CX P w) 4 f fd ["cabinet", "standing"] (spCkSgn K C "os" CE) := by
  refine F.okX scCkStdI (fun vs H Q E h => ?_) (fun cdv A outer s H vs Q E hr h => ?_)
  · obtain ⟨c, v, n, t, rfl, _⟩ := h.h
    rfl
  · obtain ⟨c, v, n, t, rfl, ⟨dx, hc⟩, hv⟩ := h.h
    obtain ⟨pD, gD, fdD, hpD, GD, bD⟩ := CP.d
    refine ⟨_, pss_one (ps_if (pt_not (pt_val (pe_call G (hr.mono (by decide)) rfl g1 k1 b1 .nil pass0 (pa_cons (pe_prop (pv 0) CP.cl hpD GD (hr.mono (by decide)) bD .nil pass0 rfl) (pa_cons (pv 1) pa_nil)))))
      (pss_one (ps_raise rfl (takes_of rfl rfl rfl rfl) (pmk_own PySem.F.excBase_ValueError BT.x BT.g BT.k (raises_own BT.b BT.t) (by exact rfl)))) pss_nil), ?_⟩
    refine ⟨_, rfl, c, dx, _, rfl, hc, ⟨⟨c, dx, _, t, rfl, hc, _, rfl, ⟨⟨n, _, rfl, ?_⟩⟩⟩⟩⟩
    rcases hv with ⟨h1, k⟩ | ⟨h1, k⟩
    · exact .inl ⟨h1, fun H' s1 => ⟨_, rfl, iteT (k H' s1)⟩⟩
    · exact .inr ⟨h1, fun H' s1 => ⟨_, rfl, iteF (k H' s1)⟩⟩
theorem scCkPatI : FnScope ["cabinet", "pattern"] ["cabinet", "pattern"] (defScope s_check_pattern) := ⟨rfl, rfl, rfl, by decide +kernel, rfl, by decide +kernel, by decide +kernel⟩
theorem ok_ckPatI {f f1 C CE : Addr} {fd fd1 : FuncData} (F : Fun K "check_pattern" "check_pattern" s_check_pattern f fd) (CP : CabP P w K mg base C) (BT : ErrT K mg "BadPattern" CE) (G : FnOk P w K mg base CX0 2 f1 fd1 ["drawers", "value"] (spSgn2 K "os?")) (g1 : mg "is_pattern" = some (.ref f1)) (k1 : PySem.W.keepIn K (.ref f1) = true) (b1 : Binds K fd1 ["drawers", "value"] []) :
    FnOk P w K mg base (L2.CX P w) 4 f fd ["cabinet", "pattern"] (spCkSgn K C "os?" CE) := by
  refine F.okX scCkPatI (fun vs H Q E h => ?_) (fun cdv A outer s H vs Q E hr h => ?_)
  · obtain ⟨c, v, n, t, rfl, _⟩ := h.h
    rfl
  · obtain ⟨c, v, n, t, rfl, ⟨dx, hc⟩, hv⟩ := h.h
    obtain ⟨pD, gD, fdD, hpD, GD, bD⟩ := CP.d
    refine ⟨_, pss_one (ps_if (pt_not (pt_val (pe_call G (hr.mono (by decide)) rfl g1 k1 b1 .nil pass0 (pa_cons (pe_prop (pv 0) CP.cl hpD GD (hr.mono (by decide)) bD .nil pass0 rfl) (pa_cons (pv 1) pa_nil)))))
      (pss_one (ps_raise rfl (takes_of rfl rfl rfl rfl) (pmk_own PySem.F.excBase_ValueError BT.x BT.g BT.k (raises_own BT.b BT.t) (by exact rfl)))) pss_nil), ?_⟩
    refine ⟨_, rfl, c, dx, _, rfl, hc, ⟨⟨c, dx, _, t, rfl, hc, _, rfl, ⟨⟨n, _, rfl, ?_⟩⟩⟩⟩⟩
    rcases hv with ⟨h1, k⟩ | ⟨h1, k⟩
    · exact .inl ⟨h1, fun H' s1 => ⟨_, rfl, iteT (k H' s1)⟩⟩
    · exact .inr ⟨h1, fun H' s1 => ⟨_, rfl, iteF (k H' s1)⟩⟩
theorem scCkDrI : FnScope ["cabinet", "drawer"] ["cabinet", "drawer"] (defScope s_check_drawer) := ⟨rfl, rfl, rfl, by decide +kernel, rfl, by decide +kernel, by decide +kernel⟩
theorem ok_ckDrI {f f1 C CE : Addr} {fd fd1 : FuncData} (F : Fun K "check_drawer" "check_drawer" s_check_drawer f fd) (CP : CabP P w K mg base C) (BT : ErrT K mg "BadDrawer" CE) (G : FnOk P w K mg base CX0 2 f1 fd1 ["drawers", "value"] (spIsDrawer K)) (g1 : mg "is_drawer" = some (.ref f1)) (k1 : PySem.W.keepIn K (.ref f1) = true) (b1 : Binds K fd1 ["drawers", "value"] []) :
    FnOk P w K mg base (L2.CX P w) 4 f fd ["cabinet", "drawer"] (spCkDrw C CE) := by
  refine F.okX scCkDrI (fun vs H Q E h => ?_) (fun cdv A outer s H vs Q E hr h => ?_)
  · obtain ⟨c, v, n, t, rfl, _⟩ := h.h
    rfl
  · obtain ⟨c, v, n, t, rfl, ⟨dx, hc⟩, ⟨h1, h2⟩, k⟩ := h.h
    obtain ⟨pD, gD, fdD, hpD, GD, bD⟩ := CP.d
    refine ⟨_, pss_one (ps_if (pt_not (pt_val (pe_call G (hr.mono (by decide)) rfl g1 k1 b1 .nil pass0 (pa_cons (pe_prop (pv 0) CP.cl hpD GD (hr.mono (by decide)) bD .nil pass0 rfl) (pa_cons (pv 1) pa_nil)))))
      (pss_one (ps_raise rfl (takes_of rfl rfl rfl rfl) (pmk_own PySem.F.excBase_ValueError BT.x BT.g BT.k (raises_own BT.b BT.t) (by exact rfl)))) pss_nil), ?_⟩
    refine ⟨_, rfl, c, dx, _, rfl, hc, ⟨⟨c, dx, _, t, rfl, hc, _, rfl, spIsDrawer_sc h1 ⟨_, rfl, ?_⟩⟩⟩⟩
    rw [h2]
    exact iteT k
theorem scCkLen : FnScope ["value", "least", "most"] ["value", "least", "most"] (defScope s_check_number) := ⟨rfl, rfl, rfl, by decide +kernel, rfl, by decide +kernel, by decide +kernel⟩
theorem ok_ckLen {f f1 CN : Addr} {fd fd1 : FuncData} (F : Fun K "check_number" "check_number" s_check_number f fd) (BT : IniT P w K mg base "BadNumber" "n" goodA CN)
    (G : FnOk P w K mg base CX0 1 f1 fd1 ["value"] (spIsInt K)) (g1 : mg "is_integer" = some (.ref f1)) (k1 : PySem.W.keepIn K (.ref f1) = true) (b1 : Binds K fd1 ["value"] []) :
    FnOk P w K mg base (L2.CX P w) 4 f fd ["value", "least", "most"] (spCkLen K CN) := by
  refine F.okX scCkLen (fun vs H Q E h => ?_) (fun cdv A outer s H vs Q E hr h => ?_)
  · obtain ⟨v, lo, m, rfl, _⟩ := h.h
    rfl
  · obtain ⟨v, lo, m, rfl, hv⟩ := h.h
    obtain ⟨fI, fdI, i1, i2, GI, bI⟩ := BT.i
    refine ⟨_, pss_one (ps_if (PW.pt (pw_or (pt_not (pt_val (pe_call G (hr.mono (by decide)) rfl g1 k1 b1 .nil pass0 (pa_cons (pv 0) pa_nil)))) (pw_or1 (pt_not (pt_chain op_le op_le (pv 1) (pv 0) (pv 2))))))
      (pss_one (ps_raise rfl (takes_of rfl rfl rfl rfl) (pmk_oex BT.T i1 i2 GI (hr.mono (by decide)) bI .nil pass0 rfl BT.g (pa_cons (pv 0) pa_nil)))) pss_nil), ?_⟩
    rcases hv with ⟨⟨t, c1, c2, ty, e1, e2, e3⟩ | ⟨i, rfl, hn⟩, ke⟩ | ⟨i, rfl, i0, im, k⟩
    · refine ⟨_, rfl, ⟨v, t, c1, c2, rfl, ty, e1, e2, _, rfl, ?_⟩⟩
      rw [e3]
      exact iteT ⟨_, rfl, by show 1 ≤ 1000; decide, fun a ha => ini_mk ha trivial ke⟩
    · refine ⟨_, rfl, ⟨.int i, .type "int", true, false, rfl, .base (.int i), kit_ty (by decide +kernel), kit_ty (by decide +kernel), _, rfl, iteF ?_⟩⟩
      refine ⟨_, rfl, _, rfl, _, _, rfl, rfl, _, rfl, ?_⟩
      by_cases q : lo ≤ i
      · rw [decide_eq_true q]
        refine iteT ⟨_, rfl, _, _, rfl, rfl, _, rfl, ?_⟩
        rw [decide_eq_false (fun z => hn ⟨q, z⟩)]
        exact iteT ⟨_, rfl, by show 1 ≤ 1000; decide, fun a ha => ini_mk ha trivial ke⟩
      · rw [decide_eq_false q]
        exact iteF ⟨_, rfl, iteT ⟨_, rfl, by show 1 ≤ 1000; decide, fun a ha => ini_mk ha trivial ke⟩⟩
    · refine ⟨_, rfl, ⟨.int i, .type "int", true, false, rfl, .base (.int i), kit_ty (by decide +kernel), kit_ty (by decide +kernel), _, rfl, iteF ?_⟩⟩
      refine ⟨_, rfl, _, rfl, _, _, rfl, rfl, _, rfl, ?_⟩
      rw [decide_eq_true i0]
      refine iteT ⟨_, rfl, _, _, rfl, rfl, _, rfl, ?_⟩
      rw [decide_eq_true im]
      exact iteF k
theorem scI_can : FnScope ["cabinet", "standing"] ["cabinet", "standing"] (defScope s_can) := ⟨rfl, rfl, rfl, by decide +kernel, rfl, by decide +kernel, by decide +kernel⟩
theorem ok_canI {f f0 f1 C CS : Addr} {fd fd0 fd1 : FuncData} (F : Fun K "can" "can" s_can f fd)
    (G0 : FnOk P w K mg base CX0 1 f0 fd0 ["cabinet"] (spCkCab C)) (g0 : mg "check_cabinet" = some (.ref f0)) (k0 : PySem.W.keepIn K (.ref f0) = true) (b0 : Binds K fd0 ["cabinet"] [])
    (G1 : FnOk P w K mg base (L2.CX P w) 4 f1 fd1 ["cabinet", "standing"] (spCkSgn K C "os" CS)) (g1 : mg "check_standing" = some (.ref f1)) (k1 : PySem.W.keepIn K (.ref f1) = true) (b1 : Binds K fd1 ["cabinet", "standing"] []) :
    FnOk P w K mg base (L2.CX P w) 6 f fd ["cabinet", "standing"] (spBadS K C "os" CS) := by
  refine F.okX scI_can (fun vs H Q E h => ?_) (fun cdv A outer s H vs Q E hr h => ?_)
  · obtain ⟨c, v, n, t, rfl, _⟩ := h.h
    rfl
  · obtain ⟨c, v, n, t, rfl, hc, hv, k⟩ := h.h
    refine ⟨_, pss_cons (ps_expr (pe_call G0 (hr.mono (by decide)) rfl g0 k0 b0 .nil pass0 (pa_cons (pv 0) pa_nil))) (pss_cons (ps_expr (pe_call G1 (hr.mono (by decide)) rfl g1 k1 b1 .nil (passes_call (E := E) (takes_of rfl rfl rfl rfl) (fun _ _ _ _ z => z)) (pa_cons (pv 0) (pa_cons (pv 1) pa_nil)))) pss_never), ?_⟩
    exact ⟨_, rfl, ⟨⟨c, n, t, rfl, hc, _, rfl, _, rfl, ⟨⟨c, v, n, t, rfl, hc, .inl ⟨hv, k⟩⟩⟩⟩⟩⟩
theorem scI_row_to : FnScope ["cabinet", "pattern"] ["cabinet", "pattern"] (defScope s_row_to) := ⟨rfl, rfl, rfl, by decide +kernel, rfl, by decide +kernel, by decide +kernel⟩
theorem ok_row_toI {f f0 f1 C CQ : Addr} {fd fd0 fd1 : FuncData} (F : Fun K "row_to" "row_to" s_row_to f fd)
    (G0 : FnOk P w K mg base CX0 1 f0 fd0 ["cabinet"] (spCkCab C)) (g0 : mg "check_cabinet" = some (.ref f0)) (k0 : PySem.W.keepIn K (.ref f0) = true) (b0 : Binds K fd0 ["cabinet"] [])
    (G1 : FnOk P w K mg base (L2.CX P w) 4 f1 fd1 ["cabinet", "pattern"] (spCkSgn K C "os?" CQ)) (g1 : mg "check_pattern" = some (.ref f1)) (k1 : PySem.W.keepIn K (.ref f1) = true) (b1 : Binds K fd1 ["cabinet", "pattern"] []) :
    FnOk P w K mg base (L2.CX P w) 6 f fd ["cabinet", "pattern"] (spBadS K C "os?" CQ) := by
  refine F.okX scI_row_to (fun vs H Q E h => ?_) (fun cdv A outer s H vs Q E hr h => ?_)
  · obtain ⟨c, v, n, t, rfl, _⟩ := h.h
    rfl
  · obtain ⟨c, v, n, t, rfl, hc, hv, k⟩ := h.h
    refine ⟨_, pss_cons (ps_expr (pe_call G0 (hr.mono (by decide)) rfl g0 k0 b0 .nil pass0 (pa_cons (pv 0) pa_nil))) (pss_cons (ps_expr (pe_call G1 (hr.mono (by decide)) rfl g1 k1 b1 .nil (passes_call (E := E) (takes_of rfl rfl rfl rfl) (fun _ _ _ _ z => z)) (pa_cons (pv 0) (pa_cons (pv 1) pa_nil)))) pss_never), ?_⟩
    exact ⟨_, rfl, ⟨⟨c, n, t, rfl, hc, _, rfl, _, rfl, ⟨⟨c, v, n, t, rfl, hc, .inl ⟨hv, k⟩⟩⟩⟩⟩⟩
end
end DL

set_option Elab.async false
set_option maxRecDepth 100000
set_option maxHeartbeats 1000000
namespace DL
open PySem PySem.Spec PyProof.Rows L2 HT TL
/-! ### a tuple taken once -/
/-! ### odd standings and patterns -/
section
variable {P : Program} {w : World} {K : PySem.W.Frag} {mg : Str → Option Value} {base : Heap}
structure spDeskI (D C : Addr) (vs : List V) (H : Hp) (Q : VK) (_ : XK) : Prop where
  h : ∃ (p dx c t : Addr) (n : Nat), vs = [.ref p, .ref c] ∧ H p = some (.ins D dx []) ∧ CabAt C H c n t ∧ 1 ≤ n ∧ n ≤ 7 ∧ ∀ (l : Addr) (st : V) (H' : Hp), H' p = some (.ins D dx [("_cabinet", .ref c), ("_standing", st), ("_pulls", .ref l)]) → (∀ b o, b ≠ p → H b = some o → H' b = some o) → Q .non H'
structure spPullX (D C CE : Addr) (vs : List V) (H : Hp) (_ : VK) (E : XK) : Prop where
  h : ∃ (p dx c l t : Addr) (st v : V) (n : Int), vs = [.ref p, v] ∧ H p = some (.ins D dx [("_cabinet", .ref c), ("_standing", st), ("_pulls", .ref l)]) ∧ CabAt C H c n t ∧ BadDrw n v ∧ E (.ref CE) none H
structure DeskT (K : PySem.W.Frag) (mg : Str → Option Value) (D : Addr) : Prop where
  cl : Cls K D
  nC : NoAttr K D "_cabinet"
  nS : NoAttr K D "_standing"
  nP : NoAttr K D "_pulls"
  mgD : mg "Desk" = some (.ref D)
theorem scDI : FnScope ["self", "cabinet"] ["self", "cabinet"] (defScope s_Desk__init_) := ⟨rfl, rfl, rfl, by decide +kernel, rfl, by decide +kernel, by decide +kernel⟩
theorem ok_deskI {f f0 f1 D C : Addr} {fd fd0 fd1 : FuncData} (F : Fun K "__init__" "Desk.__init__" s_Desk__init_ f fd) (T : DeskT K mg D) (CP : CabP P w K mg base C)
    (G0 : FnOk P w K mg base CX0 1 f0 fd0 ["cabinet"] (spCkCab C)) (g0 : mg "check_cabinet" = some (.ref f0)) (k0 : PySem.W.keepIn K (.ref f0) = true) (b0 : Binds K fd0 ["cabinet"] [])
    (G1 : FnOk P w K mg base CX0 1 f1 fd1 ["drawers"] spFirst) (g1 : mg "first_standing" = some (.ref f1)) (k1 : PySem.W.keepIn K (.ref f1) = true) (b1 : Binds K fd1 ["drawers"] []) :
    FnOk P w K mg base CX0 3 f fd ["self", "cabinet"] (spDeskI D C) := by
  refine F.ok scDI (fun vs H Q E h => ?_) (fun cdv A outer s H vs Q E hr h => ?_)
  · obtain ⟨p, dx, c, t, n, rfl, _⟩ := h.h
    rfl
  · obtain ⟨p, dx, c, t, n, rfl, hp, ⟨dc, hc⟩, n1, n7, k⟩ := h.h
    obtain ⟨pD, gD, fdD, hpD, GD, bD⟩ := CP.d
    refine ⟨_, pss_cons (ps_expr (pe_call G0 (hr.mono (by decide)) rfl g0 k0 b0 .nil pass0 (pa_cons (pv 1) pa_nil))) (pss_cons (ps_fld (pv 0) (pv 1) rfl)
      (pss_cons (ps_fld (pv 0) (pe_call G1 (hr.mono (by decide)) rfl g1 k1 b1 .nil pass0 (pa_cons (pe_prop (pv 1) CP.cl hpD GD (hr.mono (by decide)) bD .nil pass0 rfl) pa_nil)) rfl) (pss_one (ps_fld (pv 0) (pe_lst pa_nil) rfl)))), ?_⟩
    have pc : p ≠ c := ne_of hp hc (by intro z; injection z with _ _ z; cases z)
    refine ⟨_, rfl, ⟨⟨c, n, t, rfl, ⟨dc, hc⟩, ?_⟩⟩⟩
    refine ⟨_, rfl, _, rfl, p, D, dx, _, rfl, hp, T.cl, T.nC, (by show 0 < 1000; decide), ?_⟩
    have hc1 : ∀ o, (upd H p o) c = some (.ins C dc (cfl n t)) := fun o => by
      rw [upd_ne (Ne.symm pc)]
      exact hc
    refine ⟨_, rfl, c, dc, _, rfl, hc1 _, ⟨⟨c, dc, _, t, rfl, hc1 _, ⟨⟨n, rfl, n1, n7, ?_⟩⟩⟩⟩⟩
    refine ⟨_, rfl, p, D, dx, _, rfl, upd_same, T.cl, T.nS, (by show 1 < 1000; decide), ?_⟩
    refine ⟨(by show 0 ≤ sizeLine; decide), fun l hl => ?_⟩
    have pl : p ≠ l := ne_of_none upd_same hl
    refine ⟨_, rfl, p, D, dx, _, rfl, by rw [upd_ne pl]; exact upd_same, T.cl, T.nP, (by show 2 < 1000; decide), ?_⟩
    have hcn : H l = none := by
      rw [upd_ne (Ne.symm pl), upd_ne (Ne.symm pl)] at hl
      exact hl
    refine k l _ _ upd_same fun b o hb e => ?_
    rw [upd_ne hb, upd_ne (ne_of_none e hcn), upd_ne hb, upd_ne hb]
    exact e
theorem scDP : FnScope ["self", "drawer"] ["self", "drawer"] (defScope s_Desk_pull) := ⟨rfl, rfl, rfl, by decide +kernel, rfl, by decide +kernel, by decide +kernel⟩
theorem ok_pullX {f f1 D C CE : Addr} {fd fd1 : FuncData} (F : Fun K "pull" "Desk.pull" s_Desk_pull f fd) (T : DeskT K mg D)
    (G1 : FnOk P w K mg base (L2.CX P w) 4 f1 fd1 ["cabinet", "drawer"] (spCkDrw C CE)) (g1 : mg "check_drawer" = some (.ref f1)) (k1 : PySem.W.keepIn K (.ref f1) = true) (b1 : Binds K fd1 ["cabinet", "drawer"] []) :
    FnOk P w K mg base (L2.CX P w) 5 f fd ["self", "drawer"] (spPullX D C CE) := by
  refine F.okX scDP (fun vs H Q E h => ?_) (fun cdv A outer s H vs Q E hr h => ?_)
  · obtain ⟨p, dx, c, l, t, st, v, n, rfl, _⟩ := h.h
    rfl
  · obtain ⟨p, dx, c, l, t, st, v, n, rfl, hp, hc, hv, k⟩ := h.h
    refine ⟨_, pss_cons (ps_expr (pe_call G1 (hr.mono (by decide)) rfl g1 k1 b1 .nil (passes_call (E := E) (takes_of rfl rfl rfl rfl) (fun _ _ _ _ z => z)) (pa_cons (pe_fld (pv 0) rfl) (pa_cons (pv 1) pa_nil)))) pss_never, ?_⟩
    exact ⟨_, rfl, p, D, dx, _, _, rfl, hp, T.cl, T.nC, rfl, _, rfl, ⟨⟨c, v, n, t, rfl, hc, hv, k⟩⟩⟩
end
end DL

set_option Elab.async false
set_option maxRecDepth 100000
set_option maxHeartbeats 1000000
namespace DL
open PySem L2 HT TL
/-! ### what is no cabinet -/
def NoCab (K : PySem.W.Frag) (C : Addr) (H : Hp) (v : V) : Prop := ∃ t, (∀ H', Same H H' → TyX K H' v t) ∧ PySem.W.kitOne K t (.ref C) = some false
theorem NoCab.same {K : PySem.W.Frag} {C : Addr} {H H' : Hp} {v : V} (h : NoCab K C H v) (s : Same H H') : NoCab K C H' v := by
  obtain ⟨t, h1, h2⟩ := h
  exact ⟨t, fun H2 s2 => h1 H2 (s.trans s2), h2⟩
structure spCkC (K : PySem.W.Frag) (C CB : Addr) (vs : List V) (H : Hp) (Q : VK) (E : XK) : Prop where
  h : ∃ v : V, vs = [v] ∧ ((∃ (c : Addr) (n : Int) (t : Addr), v = .ref c ∧ CabAt C H c n t ∧ Q .non H) ∨ (NoCab K C H v ∧ E (.ref CB) none H))
structure spN1 (K : PySem.W.Frag) (C CB : Addr) (vs : List V) (H : Hp) (_ : VK) (E : XK) : Prop where
  h : ∃ v : V, vs = [v] ∧ NoCab K C H v ∧ E (.ref CB) none H
section
variable {P : Program} {w : World} {K : PySem.W.Frag} {mg : Str → Option Value} {base : Heap}
theorem scCkC : FnScope ["cabinet"] ["cabinet"] (defScope s_check_cabinet) := ⟨rfl, rfl, rfl, by decide +kernel, rfl, by decide +kernel, by decide +kernel⟩
theorem ok_ckC {f C CB : Addr} {fd : FuncData} (F : Fun K "check_cabinet" "check_cabinet" s_check_cabinet f fd) (T : Bt mg) (I : CabI K mg C) (BT : ErrT K mg "BadCabinet" CB) : FnOk P w K mg base (L2.CX P w) 2 f fd ["cabinet"] (spCkC K C CB) := by
  refine F.okX scCkC (fun vs H Q E h => ?_) (fun cdv A outer s H vs Q E hr h => ?_)
  · obtain ⟨v, rfl, _⟩ := h.h
    rfl
  · obtain ⟨v, rfl, hv⟩ := h.h
    refine ⟨_, pss_one (ps_if (pt_not (pt_val (pe_callB call_isi (by rfl) T.isinstance (by decide +kernel) (pa_cons (pv 0) (pa_cons (pe_glob (v := .ref C) rfl I.mgC rfl) pa_nil)))))
      (pss_one (ps_raise rfl (takes_of rfl rfl rfl rfl) (pmk_own PySem.F.excBase_ValueError BT.x BT.g BT.k (raises_own BT.b BT.t) (by exact rfl)))) pss_nil), ?_⟩
    rcases hv with ⟨c, n, t, rfl, ⟨dx, hc⟩, k⟩ | ⟨⟨t, ty, kt⟩, k⟩
    · exact ⟨_, rfl, _, _, _, _, true, rfl, .own C, .base (.ins hc I.cl I.ha I.hn I.htk I.hm), I.kk, _, rfl, iteF k⟩
    · exact ⟨_, rfl, _, _, t, _, false, rfl, .own C, ty H (Same.refl H), kt, _, rfl, iteT k⟩
theorem scN_reached : FnScope ["cabinet"] ["cabinet"] (defScope s_reached) := ⟨rfl, rfl, rfl, by decide +kernel, rfl, by decide +kernel, by decide +kernel⟩
theorem ok_reached_N {f f0 C CB : Addr} {fd fd0 : FuncData} (F : Fun K "reached" "reached" s_reached f fd)
    (G0 : FnOk P w K mg base (L2.CX P w) 2 f0 fd0 ["cabinet"] (spCkC K C CB)) (g0 : mg "check_cabinet" = some (.ref f0)) (k0 : PySem.W.keepIn K (.ref f0) = true) (b0 : Binds K fd0 ["cabinet"] []) :
    FnOk P w K mg base (L2.CX P w) 4 f fd ["cabinet"] (spN1 K C CB) := by
  refine F.okX scN_reached (fun vs H Q E h => ?_) (fun cdv A outer s H vs Q E hr h => ?_)
  · obtain ⟨v, rfl, _⟩ := h.h
    rfl
  · obtain ⟨v, rfl, hv, k⟩ := h.h
    refine ⟨_, pss_cons (ps_expr (pe_call G0 (hr.mono (by decide)) rfl g0 k0 b0 .nil (passes_call (E := E) (takes_of rfl rfl rfl rfl) (fun _ _ _ _ z => z)) (pa_cons (pv 0) pa_nil))) pss_never, ?_⟩
    exact ⟨_, rfl, ⟨⟨v, rfl, .inr ⟨hv, k⟩⟩⟩⟩
theorem scN_fa : FnScope ["one", "other", "standing", "row", "drawer"] ["one", "other"] (defScope s_first_apart) := ⟨rfl, rfl, rfl, by decide +kernel, rfl, by decide +kernel, by decide +kernel⟩
theorem scN_al : FnScope ["one", "other"] ["one", "other"] (defScope s_alike) := ⟨rfl, rfl, rfl, by decide +kernel, rfl, by decide +kernel, by decide +kernel⟩
end
end DL

set_option Elab.async false
set_option maxRecDepth 100000
set_option maxHeartbeats 1000000
namespace DL
open PySem PySem.Spec PyProof.Rows L2 HT TL
/-! ### InvalidText, by its own __init__ -/
structure spIni2 (C : Addr) (vs : List V) (H : Hp) (Q : VK) (_ : XK) : Prop where
  h : ∃ (a : Addr) (i j : Int), vs = [.ref a, .int i, .int j] ∧ 0 ≤ i ∧ i ≤ 100 ∧ 0 ≤ j ∧ j ≤ 100 ∧ H a = some (exo a C none) ∧ ∀ dx, H dx = none → dx ≠ a → Q .non (upd (upd (upd H dx (exd dx [("line", .int i)])) a (exo a C (some dx))) dx (exd dx [("word", .int j), ("line", .int i)]))
structure Ini2 (P : Program) (w : World) (K : PySem.W.Frag) (mg : Str → Option Value) (base : Heap) (CB : Addr) : Prop where
  T : OexC K CB
  g : mg "InvalidText" = some (.ref CB)
  i : ∃ fI fd, PySem.W.findIn K (.ref CB) "__init__" = some (some (.ref fI)) ∧ PySem.W.typeIn K (.ref fI) = some (.type "function") ∧ FnOk P w K mg base CX0 1 fI fd ["self", "line", "word"] (spIni2 CB) ∧ Binds K fd ["self", "line", "word"] []
/-- whatever its fields and wherever -/
def exAny (C : Addr) (H : Hp) (E : XK) : Prop := ∀ d H', Same H H' → E (.ref C) d H'
theorem exAny.at' {C : Addr} {H H1 : Hp} {E : XK} (k : exAny C H E) (s : Same H H1) : exAny C H1 E := fun d H' s' => k d H' (s.trans s')
theorem str_len (a b : Str) : (a ++ b).length = a.length + b.length := by
  show (a ++ b).cps.size = a.cps.size + b.cps.size
  rw [← Array.length_toList, ← Array.length_toList, ← Array.length_toList]
  exact (congrArg List.length (TL.tl_append a b)).trans (List.length_append ..)
theorem fig_len {i : Int} (h0 : 0 ≤ i) (h1 : i ≤ 100) : (toString i : Str).length ≤ 3 := by
  have z : ∀ n : Fin 101, ((toString ((n.val : Nat) : Int) : Str)).length ≤ 3 := by decide +kernel
  have := z ⟨i.toNat, by omega⟩
  rw [show ((i.toNat : Nat) : Int) = i by omega] at this
  exact this
theorem ini2_mk {CB a : Addr} {i j : Int} {H1 : Hp} {E E2 : XK} (ha : H1 a = none) (i0 : 0 ≤ i) (i1 : i ≤ 100) (j0 : 0 ≤ j) (j1 : j ≤ 100) (k : exAny CB H1 E) :
    spIni2 CB [.ref a, .int i, .int j] (upd H1 a (exo a CB none)) (fun v H2 => v = .non ∧ ∃ (d : Addr) (fs : List (Str × V)), H2 a = some (exo a CB (some d)) ∧ H2 d = some (exd d fs) ∧ H1 d = none ∧ E (.ref CB) (some d) (upd (del H2 a) d (.xd fs))) E2 := by
  refine ⟨⟨a, i, j, rfl, i0, i1, j0, j1, upd_same, fun dx hdx hda => ?_⟩⟩
  have hd1 : H1 dx = none := by rw [upd_ne hda] at hdx; exact hdx
  refine ⟨rfl, dx, _, by rw [upd_ne hda.symm, upd_same], upd_same, hd1, k _ _ fun b o e => ?_⟩
  have hba : b ≠ a := ne_of_none e ha
  have hbd : b ≠ dx := ne_of_none e hd1
  rw [upd_ne hbd, del_ne hba, upd_ne hbd, upd_ne hba, upd_ne hbd, upd_ne hba]
  exact e
section
variable {P : Program} {w : World} {K : PySem.W.Frag} {mg : Str → Option Value} {base : Heap}
theorem scInvText : SupScope ["self", "line", "word"] ["self", "line", "word"] (defScope s_InvalidText__init_) := ⟨rfl, rfl, rfl, by decide +kernel, rfl, by decide +kernel, by decide +kernel, by decide +kernel⟩
theorem ok_InvTextInit {f C cc cda : Addr} {fd : FuncData} (F : FunS K "__init__" "InvalidText.__init__" s_InvalidText__init_ f cda cc fd) (S : SupK K P f C cc cda fd "self") (hm : mg "super" = none) (hi : PySem.W.findIn K (.ref C) "line" = some none) (hi2 : PySem.W.findIn K (.ref C) "word" = some none) :
    FnOk P w K mg base CX0 1 f fd ["self", "line", "word"] (spIni2 C) := by
  obtain ⟨oc, od, an, kV, doc, pm, ct, osl, rfl, lk, hcd⟩ := F.ex
  obtain ⟨cl, cld, csl, hcell⟩ := S.cell
  refine fn_ofS lk hcd hcell scInvText (fun vs H Q E h => ?_) (fun A outer s s1 H vs Q E hsp I => ?_)
  · obtain ⟨a, i, j, rfl, _⟩ := h.h
    rfl
  · obtain ⟨a, i, j, rfl, i0, i1, j0, j1, hea, q⟩ := hsp.h
    have rest : PSs (cxS CX0 P w K mg base ["self", "line", "word"] "InvalidText.__init__" (defScope s_InvalidText__init_) f (.ref cda) cc A outer s H E) ((defBody s_InvalidText__init_).drop 1) _ := pss_cons (ps_ost (pv 0) (pv 1)) (pss_one (ps_ost (pv 0) (pv 2)))
    refine PySem.ks_wpAt_execs_cons (PySem.ks_wpAt_mono (sup_run (D := { nx := fun σ' H' => σ' = L2.start ["self", "line", "word"] [.ref a, .int i, .int j] ∧ H' = H, rt := fun _ _ => False }) S rfl rfl rfl rfl rfl rfl rfl hm
      (pa_cons (pe_joined (.cons pe_str (.cons (pe_fmtN (pv 1)) (.cons pe_str (.cons (pe_fmtN (pv 2)) .nil))))) pa_nil) I rfl hea ?_) (fun fl s' hs => ?_) fun _ _ z => z)
    · have e0 : (Str.empty).length = 0 := by decide +kernel
      have e1 : ("line " : Str).length = 5 := by decide +kernel
      have e2 : (", word " : Str).length = 7 := by decide +kernel
      have f1 := fig_len i0 i1
      have f2 := fig_len j0 j1
      have big : (100 : Nat) < sizeLine := by decide
      refine ⟨_, rfl, by rw [str_len, e0, e1]; omega, _, rfl, .inr ⟨i, rfl, small_log i0 (by omega), _, rfl, by rw [str_len, str_len, e0, e1]; omega, _, rfl, by rw [str_len, str_len, str_len, e0, e1, e2]; omega, _, rfl, .inr ⟨j, rfl, small_log j0 (by omega), _, rfl, by rw [str_len, str_len, str_len, str_len, e0, e1, e2]; omega, by show 1 ≤ 1000; decide, hea, rfl, rfl⟩⟩⟩
    · cases fl with
      | next =>
        obtain ⟨σ', H', J, rfl, rfl⟩ := hs
        refine PySem.wpAt_of_wpAny (rest.run [] s' _ _ _ J ⟨_, rfl, _, rfl, a, C, rfl, S.T, hi, .inl ⟨hea, fun dx hdx hda => ?_⟩⟩)
        refine ⟨_, rfl, _, rfl, a, C, rfl, S.T, hi2, .inr ⟨dx, [("line", .int i)], upd_same, by rw [upd_ne hda, upd_same], (by show 1 ≤ 900; decide), q dx hdx hda⟩⟩
      | ret u =>
        obtain ⟨_, _, _, _, _, z⟩ := hs
        exact False.elim z
      | brk =>
        obtain ⟨_, _, _, z⟩ := hs
        exact False.elim z
      | cont =>
        obtain ⟨_, _, _, z⟩ := hs
        exact False.elim z
/-- words: none -/
structure spWords0 (K : PySem.W.Frag) (CI : Addr) (vs : List V) (H : Hp) (_ : VK) (E : XK) : Prop where
  h : ∃ (l a : Addr) (ys : List V), vs = [.int 1, .ref l, .ref a] ∧ SqL K H l [] ∧ SqL K H a ys ∧ 1 ≤ ys.length ∧ ys.length ≤ 50 ∧ exAny CI H E
abbrev nCkW : List Str := ["line", "words", "allowed", "place", "word", "choices"]
theorem scCkW : FnScope nCkW ["line", "words", "allowed"] (defScope s_check_words) := ⟨rfl, rfl, rfl, by decide +kernel, rfl, by decide +kernel, by decide +kernel⟩
theorem ok_ckWords0 {f CI : Addr} {fd : FuncData} (F : Fun K "check_words" "check_words" s_check_words f fd) (T : Bt mg) (zZ : mg "zip" = none) (zM : mg "min" = none) (BT : Ini2 P w K mg base CI) : FnOk P w K mg base (L2.CX P w) 4 f fd ["line", "words", "allowed"] (spWords0 K CI) := by
  refine F.okX scCkW (fun vs H Q E h => ?_) (fun cdv A outer s H vs Q E hr h => ?_)
  · obtain ⟨l, a, ys, rfl, _⟩ := h.h
    rfl
  · obtain ⟨l, a, ys, rfl, hl, ha, y1, y50, k⟩ := h.h
    obtain ⟨fI, fdI, i1, i2, GI, bI⟩ := BT.i
    refine ⟨_, pss_cons (ps_for (passes_of rfl) rfl (pi_ez (by rfl) T.enumerate (by rfl) zZ (pa_cons (pv 1) (pa_cons (pv 2) pa_nil)) (by decide) (by decide)) (pg_tup (by rfl) (pgs_cons (pg_name (i := 3) scCkW.nd rfl (Or.inl rfl)) (pgs_cons (pg_tup (by rfl) (pgs_cons (pg_name (i := 4) scCkW.nd rfl (Or.inl rfl)) (pgs_cons (pg_name (i := 5) scCkW.nd rfl (Or.inl rfl)) pgs_nil))) pgs_nil)))
        (pss_one (ps_if (pt_cmpR op_notIn_seq (pv 4) (pv 5) (by rfl)) (pss_one (ps_raise rfl (takes_of rfl rfl rfl rfl) (pmk_oex BT.T i1 i2 GI (hr.mono (by decide)) bI .nil pass0 rfl BT.g (pa_cons (pv 0) (pa_cons (pv 3) pa_nil))))) pss_nil)))
      (pss_one (ps_if (pt_cmpR op_ne (pe_callB call_len_seq (by rfl) T.len (by decide +kernel) (pa_cons (pv 1) pa_nil)) (pe_callB call_len_seq (by rfl) T.len (by decide +kernel) (pa_cons (pv 2) pa_nil)) (nomark _))
        (pss_one (ps_raise rfl (takes_of rfl rfl rfl rfl) (pmk_oex BT.T i1 i2 GI (hr.mono (by decide)) bI .nil pass0 rfl BT.g (pa_cons (pv 0) (pa_cons (pe_op op_add (pe_callB (call_min2 rfl) (by rfl) zM (by decide +kernel) (pa_cons (pe_callB call_len_seq (by rfl) T.len (by decide +kernel) (pa_cons (pv 1) pa_nil)) (pa_cons (pe_callB call_len_seq (by rfl) T.len (by decide +kernel) (pa_cons (pv 2) pa_nil)) pa_nil))) pe_int) pa_nil))))) pss_nil)), ?_⟩
    refine ⟨_, rfl, _, rfl, l, a, [], ys, rfl, hl, ha, ?_⟩
    refine for_it (walk_ez (xs := []) (ys := ys)) (fun i σ H' => σ = [some (.int 1), some (.ref l), some (.ref a), none, none, none] ∧ H' = H) ⟨rfl, rfl⟩ (fun i σ H' _ z => by rw [z.2]; exact ⟨hl, ha⟩) ?_ ?_
    · rintro i x σ H1 H2 hi _ _
      rw [List.length_nil, Nat.zero_min] at hi
      exact absurd hi (Nat.not_lt_zero i)
    · rintro σ H1 ⟨rfl, rfl⟩
      refine ⟨_, rfl, l, _, rfl, .inl hl, _, rfl, a, _, rfl, .inl ha, ?_⟩
      have ne : (!decide (V.int (([] : List V).length : Nat) = V.int (ys.length : Nat))) = true := by
        rw [decide_eq_false fun z => by injection z with z; rw [List.length_nil] at z; omega]
        rfl
      refine ⟨rfl, _, rfl, ?_⟩
      rw [ne]
      refine iteT ⟨_, rfl, _, rfl, l, _, rfl, .inl hl, _, rfl, a, _, rfl, .inl ha, _, _, rfl, _, _, rfl, rfl, (by show 2 ≤ 1000; decide), fun x hx => ini2_mk hx (by decide) (by decide) ?_ ?_ k⟩
      · rw [List.length_nil]
        split <;> omega
      · rw [List.length_nil]
        split <;> omega
structure spWordsOf0 (vs : List V) (H : Hp) (Q : VK) (_ : XK) : Prop where
  h : vs = [.str ""] ∧ ∀ (l : Addr) (H' : Hp), H l = none → Same H H' → H' l = some (.lst []) → Q (.ref l) H'
theorem scWO : FnScope ["line", "word"] ["line"] (defScope s_words_of) := ⟨rfl, rfl, rfl, by decide +kernel, rfl, by decide +kernel, by decide +kernel⟩
theorem ok_wordsOf0 {f : Addr} {fd : FuncData} (F : Fun K "words_of" "words_of" s_words_of f fd) : FnOk P w K mg base CX0 1 f fd ["line"] spWordsOf0 := by
  refine F.ok scWO (fun vs H Q E h => ?_) (fun cdv A outer s H vs Q E hr h => ?_)
  · obtain ⟨rfl, _⟩ := h.h
    rfl
  · obtain ⟨rfl, k⟩ := h.h
    refine ⟨_, pss_one (ps_ret (pe_lc (own := [("word", 1)]) (g := gName 1) (by rfl) scWO.nd (pi_list (pe_m1 PySem.F.slot_str_split PySem.F.type_str_split mt_split (pv 0) pe_str)) (blkOk_by (N := ["line", "word"]) (sc := defScope s_words_of) (by decide +kernel)) (fun _ _ _ _ _ => pg_name (i := 1) scWO.nd rfl (Or.inl rfl))
      (fun _ _ _ _ _ => pts_one (pt_cmpR op_ne (pv 1) pe_str (nomark _))) (fun _ _ _ _ _ => pv 1))), ?_⟩
    refine ⟨_, rfl, ⟨_, rfl⟩, "", " ", rfl, rfl, rfl, by decide, fun p hp => ?_⟩
    have e1 : Txt.split ("" : Str) (" " : Str) = [("" : Str)] := by decide +kernel
    rw [e1]
    obtain ⟨s1, f1⟩ := new_at (o := .lst ([("" : Str)].map V.str)) hp
    generalize upd H p (.lst ([("" : Str)].map V.str)) = H1 at s1 f1 ⊢
    refine ⟨p, rfl, ⟨_, SqL.of f1⟩, fun D nD => ?_⟩
    refine lc_pick (walk_list (K := K) (a := p) (xs := [("" : Str)].map V.str)) [("" : Str)] rfl (by decide) (fun _ => false) V.str nD (fun H' s => SqL.of (s _ _ f1)) ?_ ?_
    · rintro i x z H2 H3 Tk Nk ez s ⟨rfl, ex⟩ kT kF
      have hi : i = 0 := by
        have := (List.getElem?_eq_some_iff.mp ez).1
        have h1 : ([("" : Str)]).length = 1 := rfl
        omega
      subst hi
      cases ez
      cases ex
      refine ⟨rfl, _, rfl, rfl, _, rfl, ?_⟩
      rw [decide_eq_true rfl]
      exact iteF (kF _ rfl (Same.refl _))
    · intro H2 s2 hD
      refine k D H2 ?_ (s1.trans s2) hD
      cases q : H D with
      | none => rfl
      | some o => rw [s1 _ _ q] at nD; cases nD
structure spReadDr0 (K : PySem.W.Frag) (CI : Addr) (vs : List V) (H : Hp) (_ : VK) (E : XK) : Prop where
  h : ∃ l : Addr, vs = [.ref l] ∧ SqL K H l [] ∧ exAny CI H E
theorem scRD : FnScope ["words", "drawers"] ["words"] (defScope s_read_drawers) := ⟨rfl, rfl, rfl, by decide +kernel, rfl, by decide +kernel, by decide +kernel⟩
theorem ok_readDr0 {f f1 CI : Addr} {fd fd1 : FuncData} (F : Fun K "read_drawers" "read_drawers" s_read_drawers f fd) (T : Bt mg) (zS : mg "str" = none) (gM : ∃ t, mg "MOST_DRAWERS" = some (.int 7 t))
    (G : FnOk P w K mg base (L2.CX P w) 4 f1 fd1 ["line", "words", "allowed"] (spWords0 K CI)) (g1 : mg "check_words" = some (.ref f1)) (k1 : PySem.W.keepIn K (.ref f1) = true) (b1 : Binds K fd1 ["line", "words", "allowed"] []) :
    FnOk P w K mg base (L2.CX P w) 6 f fd ["words"] (spReadDr0 K CI) := by
  refine F.okX scRD (fun vs H Q E h => ?_) (fun cdv A outer s H vs Q E hr h => ?_)
  · obtain ⟨l, rfl, _⟩ := h.h
    rfl
  · obtain ⟨l, rfl, hl, k⟩ := h.h
    obtain ⟨tM, gMt⟩ := gM
    refine ⟨_, pss_cons (ps_expr (pe_call G (hr.mono (by decide)) rfl g1 k1 b1 .nil (passes_call (E := E) (takes_of rfl rfl rfl rfl) (fun _ _ _ _ z => z)) (pa_cons pe_int (pa_cons (pv 0) (pa_cons (pe_lst (pa_cons (pe_lst (pa_cons pe_str pa_nil)) (pa_cons
      (pe_lc (own := [("drawers", 1)]) (g := gName 1) (tt := tYes) (by rfl) scRD.nd (pi_range2 (by rfl) T.range (pa_cons pe_int (pa_cons (pe_op op_add (pe_glob (v := .int 7) (by rfl) gMt ⟨_, rfl⟩) pe_int) pa_nil))) (blkOk_by (N := ["words", "drawers"]) (sc := defScope s_read_drawers) (by decide +kernel)) (fun _ _ _ _ _ => pg_name (i := 1) scRD.nd rfl (Or.inl rfl)) (fun _ _ _ _ _ => pts_nil)
        (fun _ _ _ _ _ => pe_callTy call_str_int (by rfl) zS (by decide +kernel) (pa_cons (pv 1) pa_nil))) pa_nil))) pa_nil))))) pss_never, ?_⟩
    refine ⟨_, rfl, (by show 1 ≤ sizeLine; decide), fun l1 n1 => ?_⟩
    obtain ⟨s1, f1⟩ := new_at (o := .lst [.str "drawers"]) n1
    generalize upd H l1 (.lst [.str "drawers"]) = H1 at s1 f1 ⊢
    refine ⟨7, 1, rfl, rfl, 1, 8, rfl, ⟨by decide, by decide, by decide, by decide⟩, fun D nD => ?_⟩
    refine lc_pick (walk_range (lo := 1) (n := 7)) (List.range 7) List.length_range (by decide) (fun _ => true) (fun z => V.str (toString ((1 : Int) + (z : Nat)))) nD (fun _ _ => trivial) ?_ ?_
    · rintro i x z H2 H3 Tk Nk ez s ⟨rfl, ex⟩ kT kF
      have hz : z = i := by
        have := (List.getElem?_eq_some_iff.mp ez).2
        rw [List.getElem_range] at this
        exact this.symm
      have hi : i < 7 := by
        have := (List.getElem?_eq_some_iff.mp ez).1
        rw [List.length_range] at this
        exact this
      subst hz
      subst ex
      refine ⟨rfl, tYes_of (iteT ⟨_, rfl, _, rfl, small_log (by omega) (by omega), kT _ rfl (Same.refl _)⟩)⟩
    · intro H2 s2 hD
      rw [List.filter_eq_self.mpr fun _ _ => rfl] at hD
      refine ⟨(by show 2 ≤ sizeLine; decide), fun l2 n2 => ?_⟩
      have s3 := same_upd (o := .lst [.ref l1, .ref D]) n2
      refine ⟨⟨l, l2, _, rfl, s3.seq (s2.seq (s1.seq hl)), SqL.of upd_same, (by show 1 ≤ 2; decide), (by show 2 ≤ 50; decide), k.at' ((s1.trans s2).trans s3)⟩⟩
structure spRead0 (CI : Addr) (vs : List V) (H : Hp) (_ : VK) (E : XK) : Prop where
  h : vs = [.str ""] ∧ exAny CI H E
abbrev nRead : List Str := ["text", "line", "lines", "drawers", "bars", "words", "bar"]
theorem scRead : FnScope nRead ["text"] (defScope s_read) := ⟨rfl, rfl, rfl, by decide +kernel, rfl, by decide +kernel, by decide +kernel⟩
theorem ok_read0 {f f1 f2 CI : Addr} {fd fd1 fd2 : FuncData} (F : Fun K "read" "read" s_read f fd)
    (G1 : FnOk P w K mg base CX0 1 f1 fd1 ["line"] spWordsOf0) (g1 : mg "words_of" = some (.ref f1)) (k1 : PySem.W.keepIn K (.ref f1) = true) (b1 : Binds K fd1 ["line"] [])
    (G2 : FnOk P w K mg base (L2.CX P w) 6 f2 fd2 ["words"] (spReadDr0 K CI)) (g2 : mg "read_drawers" = some (.ref f2)) (k2 : PySem.W.keepIn K (.ref f2) = true) (b2 : Binds K fd2 ["words"] []) :
    FnOk P w K mg base (L2.CX P w) 8 f fd ["text"] (spRead0 CI) := by
  refine F.okX scRead (fun vs H Q E h => ?_) (fun cdv A outer s H vs Q E hr h => ?_)
  · obtain ⟨rfl, _⟩ := h.h
    rfl
  · obtain ⟨rfl, k⟩ := h.h
    refine ⟨_, pss_cons (ps_setLc (i := 2) (own := [("line", 1)]) (g := gName 1) (tt := tYes) (by rfl) scRead.nd rfl rfl (by rfl) (pi_list (pe_m1 PySem.F.slot_str_split PySem.F.type_str_split mt_split (pv 0) pe_str)) (blkOk_by (N := nRead) (sc := defScope s_read) (by decide +kernel)) (fun _ _ _ _ _ => pg_name (i := 1) scRead.nd rfl (Or.inl rfl)) (fun _ _ _ _ _ => pts_nil)
        (fun _ _ _ _ _ => pe_call G1 (hr.mono (by decide)) rfl g1 k1 b1 .nil pass0 (pa_cons (pv 1) pa_nil)))
      (pss_cons (ps_set (i := 3) scRead.nd rfl (Or.inl rfl) (pe_call G2 (hr.mono (by decide)) rfl g2 k2 b2 .nil (passes_call (E := E) (takes_of rfl rfl rfl rfl) (fun _ _ _ _ z => z)) (pa_cons (pe_ix ix_list (pv 2) pe_int (fun _ _ => rfl)) pa_nil))) pss_never), ?_⟩
    refine ⟨_, rfl, ⟨_, rfl⟩, "", "\n", rfl, rfl, rfl, by decide, fun p hp => ?_⟩
    have e1 : Txt.split ("" : Str) ("\n" : Str) = [("" : Str)] := by decide +kernel
    rw [e1]
    obtain ⟨s1, f1⟩ := new_at (o := .lst ([("" : Str)].map V.str)) hp
    generalize upd H p (.lst ([("" : Str)].map V.str)) = H1 at s1 f1 ⊢
    refine ⟨p, rfl, ⟨_, SqL.of f1⟩, fun D nD => ?_⟩
    refine lc_it (walk_list (K := K) (a := p) (xs := [("" : Str)].map V.str)) (fun i H' => H' p = some (.lst ([("" : Str)].map V.str)) ∧ Same H1 H' ∧ ((i = 0 ∧ H' D = some (.lst [])) ∨ (i = 1 ∧ ∃ l, H' D = some (.lst [.ref l]) ∧ H' l = some (.lst []))))
      ⟨same_upd nD _ _ f1, same_upd nD, .inl ⟨rfl, upd_same⟩⟩ (fun i H' _ z => SqL.of z.1) ?_ ?_
    · rintro i x H' H'' hi ⟨hp', s2, hh⟩ ⟨rfl, ex⟩
      have hi1 : i < 1 := hi
      have i0 : i = 0 := by omega
      subst i0
      cases ex
      refine ⟨rfl, tYes_of (iteT ⟨_, rfl, ⟨⟨rfl, fun l H5 nl s5 hl => ?_⟩⟩⟩)⟩
      rcases hh with ⟨_, hD⟩ | ⟨z, _⟩
      · have nlD : l ≠ D := (ne_of_none hD nl).symm
        have npD : p ≠ D := ne_of hp' hD (by intro z; cases z)
        refine ⟨[], s5 _ _ hD, by decide, by rw [upd_ne npD]; exact s5 _ _ hp', (fun b o e => by rw [upd_ne (ne_of_none e nD)]; exact s5 _ _ (s2 b o e)), .inr ⟨rfl, l, upd_same, by rw [upd_ne nlD]; exact hl⟩⟩
      · cases z
    · rintro H' ⟨_, s2, ⟨z, _⟩ | ⟨_, l, hD, hl⟩⟩
      · cases z
      · exact ⟨_, rfl, D, _, 0, .ref l, rfl, rfl, SqL.of hD, atI_nat (j := 0) rfl, ⟨⟨l, rfl, SqL.of hl, k.at' (s1.trans s2)⟩⟩⟩
/-! ### Unlike -/
structure spUn (C CU : Addr) (vs : List V) (H : Hp) (_ : VK) (E : XK) : Prop where
  h : ∃ (c c2 t t2 : Addr) (n m : Int), vs = [.ref c, .ref c2] ∧ CabAt C H c n t ∧ CabAt C H c2 m t2 ∧ n ≠ m ∧ exAny CU H E
theorem ok_firstApartU {f f0 C CU : Addr} {fd fd0 : FuncData} (F : Fun K "first_apart" "first_apart" s_first_apart f fd) (CP : CabP P w K mg base C) (BT : ErrT K mg "Unlike" CU)
    (G0 : FnOk P w K mg base CX0 1 f0 fd0 ["cabinet"] (spCkCab C)) (g0 : mg "check_cabinet" = some (.ref f0)) (k0 : PySem.W.keepIn K (.ref f0) = true) (b0 : Binds K fd0 ["cabinet"] []) :
    FnOk P w K mg base (L2.CX P w) 4 f fd ["one", "other"] (spUn C CU) := by
  refine F.okX scN_fa (fun vs H Q E h => ?_) (fun cdv A outer s H vs Q E hr h => ?_)
  · obtain ⟨c, c2, t, t2, n, m, rfl, _⟩ := h.h
    rfl
  · obtain ⟨c, c2, t, t2, n, m, rfl, ⟨dx, hc⟩, ⟨dx2, hc2⟩, ne, k⟩ := h.h
    obtain ⟨pD, gD, fdD, hpD, GD, bD⟩ := CP.d
    refine ⟨_, pss_cons (ps_expr (pe_call G0 (hr.mono (by decide)) rfl g0 k0 b0 .nil pass0 (pa_cons (pv 0) pa_nil)))
      (pss_cons (ps_expr (pe_call G0 (hr.mono (by decide)) rfl g0 k0 b0 .nil pass0 (pa_cons (pv 1) pa_nil)))
      (pss_cons (ps_if (pt_cmpR op_ne (pe_prop (pv 0) CP.cl hpD GD (hr.mono (by decide)) bD .nil pass0 rfl) (pe_prop (pv 1) CP.cl hpD GD (hr.mono (by decide)) bD .nil pass0 rfl) (nomark _))
        (pss_one (ps_raise rfl (takes_of rfl rfl rfl rfl) (pmk_own PySem.F.excBase_ValueError BT.x BT.g BT.k (raises_own BT.b BT.t) (by exact rfl)))) pss_nil) pss_never)), ?_⟩
    refine ⟨_, rfl, ⟨⟨c, n, t, rfl, ⟨dx, hc⟩, _, rfl, ⟨⟨c2, m, t2, rfl, ⟨dx2, hc2⟩, ?_⟩⟩⟩⟩⟩
    refine ⟨_, rfl, c, dx, _, rfl, hc, ⟨⟨c, dx, _, t, rfl, hc, _, rfl, c2, dx2, _, rfl, hc2, ⟨⟨c2, dx2, _, t2, rfl, hc2, rfl, _, rfl, ?_⟩⟩⟩⟩⟩
    rw [decide_eq_false fun z => ne (by injection z)]
    exact iteT (k _ _ (Same.refl _))
theorem ok_alikeU {f f0 C CU : Addr} {fd fd0 : FuncData} (F : Fun K "alike" "alike" s_alike f fd)
    (G0 : FnOk P w K mg base (L2.CX P w) 4 f0 fd0 ["one", "other"] (spUn C CU)) (g0 : mg "first_apart" = some (.ref f0)) (k0 : PySem.W.keepIn K (.ref f0) = true) (b0 : Binds K fd0 ["one", "other"] []) :
    FnOk P w K mg base (L2.CX P w) 5 f fd ["one", "other"] (spUn C CU) := by
  refine F.okX scN_al (fun vs H Q E h => ?_) (fun cdv A outer s H vs Q E hr h => ?_)
  · obtain ⟨c, c2, t, t2, n, m, rfl, _⟩ := h.h
    rfl
  · obtain ⟨c, c2, t, t2, n, m, rfl, h2⟩ := h.h
    refine ⟨_, pss_one (ps_ret (pe_cmp (pc_isN (pe_call G0 (hr.mono (by decide)) rfl g0 k0 b0 .nil (passes_call (E := E) (takes_of rfl rfl rfl rfl) (fun _ _ _ _ z => z)) (pa_cons (pv 0) (pa_cons (pv 1) pa_nil)))))), ?_⟩
    exact ⟨_, rfl, _, rfl, ⟨⟨c, c2, t, t2, n, m, rfl, h2⟩⟩⟩
end
end DL

set_option Elab.async false
set_option maxRecDepth 100000
namespace DL
open PySem L2 HT TL
/-! ### calls with what is no set -/
structure spSetX (K : PySem.W.Frag) (C CS : Addr) (vs : List V) (H : Hp) (Q : VK) (E : XK) : Prop where
  h : ∃ (c : Addr) (v : V) (n : Int) (t : Addr), vs = [.ref c, v] ∧ CabAt C H c n t ∧ NoSet K H n v ∧ ∀ H', Same H H' → E (.ref CS) none H'
section
variable {P : Program} {w : World} {K : PySem.W.Frag} {mg : Str → Option Value} {base : Heap}
theorem scPp : FnScope ["cabinet", "some", "standings"] ["cabinet", "some"] (defScope s_paper) := ⟨rfl, rfl, rfl, by decide +kernel, rfl, by decide +kernel, by decide +kernel⟩
theorem ok_paperX {f f1 f2 C CS : Addr} {fd fd1 fd2 : FuncData} (F : Fun K "paper" "paper" s_paper f fd)
    (G1 : FnOk P w K mg base CX0 1 f1 fd1 ["cabinet"] (spCkCab C)) (g1 : mg "check_cabinet" = some (.ref f1)) (k1 : PySem.W.keepIn K (.ref f1) = true) (b1 : Binds K fd1 ["cabinet"] [])
    (G2 : FnOk P w K mg base (L2.CX P w) 6 f2 fd2 ["cabinet", "some"] (spCkSetX K C CS)) (g2 : mg "check_set" = some (.ref f2)) (k2 : PySem.W.keepIn K (.ref f2) = true) (b2 : Binds K fd2 ["cabinet", "some"] []) :
    FnOk P w K mg base (L2.CX P w) 8 f fd ["cabinet", "some"] (spSetX K C CS) := by
  refine F.okX scPp (fun vs H Q E h => ?_) (fun cdv A outer s H vs Q E hr h => ?_)
  · obtain ⟨c, v, n, t, rfl, _⟩ := h.h
    rfl
  · obtain ⟨c, v, n, t, rfl, hc, hv, k⟩ := h.h
    refine ⟨_, pss_cons (ps_expr (pe_call G1 (hr.mono (by decide)) rfl g1 k1 b1 .nil pass0 (pa_cons (pv 0) pa_nil))) (pss_cons (ps_expr (pe_call G2 (hr.mono (by decide)) rfl g2 k2 b2 .nil (passes_call (E := E) (takes_of rfl rfl rfl rfl) (fun _ _ _ _ z => z)) (pa_cons (pv 0) (pa_cons (pv 1) pa_nil)))) pss_never), ?_⟩
    exact ⟨_, rfl, ⟨⟨c, n, t, rfl, hc, _, rfl, _, rfl, ⟨⟨c, v, n, t, rfl, hc, hv, k⟩⟩⟩⟩⟩
end
/-! ### the law's odd values -/
end DL

set_option Elab.async false
set_option maxRecDepth 100000
set_option maxHeartbeats 1000000
namespace DL
open PySem L2 HT TL
/-! ### guards that are refused: pairs, numbers -/
def pairB (n : Int) (xs : List V) : Bool := setB n xs && decide (V.int (xs.length : Int) = V.int 2)
theorem kit_lt2 {K : PySem.W.Frag} : PySem.W.kitAny K (.type "list") [.type "list", .type "tuple"] = some true := by
  have e1 : PySem.W.kitOne K (.type "list") (.type "list") = some true := kit_ty (by decide +kernel)
  have e2 : PySem.W.kitOne K (.type "list") (.type "tuple") = some false := kit_ty (by decide +kernel)
  simp [PySem.W.kitAny, e1, e2]
structure spIsPair (K : PySem.W.Frag) (vs : List V) (H : Hp) (Q : VK) (_ : XK) : Prop where
  h : ∃ (n : Int) (v : V), vs = [.int n, v] ∧ ((∃ t : Value, TyX K H v t ∧ PySem.W.kitOne K t (.type "tuple") = some false ∧ Q (.bl false) H) ∨
    ∃ (a : Addr) (xs : List V), v = .ref a ∧ SqT K H a xs ∧ xs.length ≤ 1000 ∧ (∀ x ∈ xs, scV x = true) ∧ ∀ H', Same H H' → Q (.bl (pairB n xs)) H')
def GoodPair (K : PySem.W.Frag) (H : Hp) (n : Int) (y : V) : Prop := ∃ a xs, y = .ref a ∧ SqT K H a xs ∧ xs.length ≤ 1000 ∧ (∀ x ∈ xs, scV x = true) ∧ pairB n xs = true
def NoPair (K : PySem.W.Frag) (H : Hp) (n : Int) (y : V) : Prop := (∃ t : Value, TyX K H y t ∧ PySem.W.kitOne K t (.type "tuple") = some false) ∨
  ∃ a xs, y = .ref a ∧ SqT K H a xs ∧ xs.length ≤ 1000 ∧ (∀ x ∈ xs, scV x = true) ∧ pairB n xs = false
theorem GoodPair.same {K : PySem.W.Frag} {H H' : Hp} {n : Int} {y : V} (h : GoodPair K H n y) (s : Same H H') : GoodPair K H' n y := by
  obtain ⟨a, xs, e, S, r⟩ := h
  exact ⟨a, xs, e, SqT.same s S, r⟩
theorem GoodPair.sp {K : PySem.W.Frag} {H : Hp} {n : Int} {y : V} {Q : VK} {E : XK} (h : GoodPair K H n y) (k : ∀ H', Same H H' → Q (.bl true) H') : spIsPair K [.int n, y] H Q E := by
  obtain ⟨a, xs, rfl, S, hl, hs, e⟩ := h
  exact ⟨⟨n, _, rfl, .inr ⟨a, xs, rfl, S, hl, hs, fun H' s => by rw [e]; exact k H' s⟩⟩⟩
theorem NoPair.sp {K : PySem.W.Frag} {H : Hp} {n : Int} {y : V} {Q : VK} {E : XK} (h : NoPair K H n y) (k : ∀ H', Same H H' → Q (.bl false) H') : spIsPair K [.int n, y] H Q E := by
  rcases h with ⟨t, h1, h2⟩ | ⟨a, xs, rfl, S, hl, hs, e⟩
  · exact ⟨⟨n, _, rfl, .inl ⟨t, h1, h2, k H (Same.refl H)⟩⟩⟩
  · exact ⟨⟨n, _, rfl, .inr ⟨a, xs, rfl, S, hl, hs, fun H' s => by rw [e]; exact k H' s⟩⟩⟩
structure spCkNumX (K : PySem.W.Frag) (CN : Addr) (vs : List V) (H : Hp) (_ : VK) (E : XK) : Prop where
  h : ∃ (v : V) (m : Int), vs = [v, .int 0, .int m] ∧ ((∃ (t : Value) (b1 b2 : Bool), TyX K H v t ∧ PySem.W.kitOne K t (.type "int") = some b1 ∧ PySem.W.kitOne K t (.type "bool") = some b2 ∧ (b1 && !b2) = false) ∨ ∃ i : Int, v = .int i ∧ ¬ (0 ≤ i ∧ i ≤ m)) ∧
    exIni CN "n" v H E
structure spCkPrX (K : PySem.W.Frag) (C CP : Addr) (vs : List V) (H : Hp) (Q : VK) (E : XK) : Prop where
  h : ∃ (c : Addr) (v : V) (n : Int) (t : Addr), vs = [.ref c, v] ∧ CabAt C H c n t ∧
    ((∃ t, (∀ H', Same H H' → TyX K H' v t) ∧ PySem.W.kitAny K t [.type "list", .type "tuple"] = some false ∧ ∀ H', Same H H' → exIni CP "index" .non H' E) ∨
    (∃ l xs, v = .ref l ∧ SqL K H l xs ∧ (∀ H', Same H H' → TyX K H' v (.type "list")) ∧ (∀ y ∈ xs, GoodPair K H n y) ∧ ∀ H', Same H H' → Q .non H') ∨
    ∃ l pre x post, v = .ref l ∧ SqL K H l (pre ++ x :: post) ∧ (∀ H', Same H H' → TyX K H' v (.type "list")) ∧ pre.length ≤ 30 ∧ (∀ y ∈ pre, GoodPair K H n y) ∧ (∀ H', Same H H' → NoPair K H' n x) ∧ ∀ H', Same H H' → exIni CP "index" (.int pre.length) H' E)
structure spFewX (C CT : Addr) (vs : List V) (H : Hp) (Q : VK) (E : XK) : Prop where
  h : ∃ (c t : Addr) (n m : Int), vs = [.ref c, .int m] ∧ CabAt C H c n t ∧ ((m < n ∧ 0 ≤ m ∧ m ≤ 100 ∧ exIni CT "most" (.int m) H E) ∨ (n ≤ m ∧ Q .non H))
structure spGuardsX (K : PySem.W.Frag) (C CT CP CN : Addr) (vs : List V) (H : Hp) (_ : VK) (E : XK) : Prop where
  h : ∃ (c : Addr) (v m : V) (n : Int) (t : Addr), vs = [.ref c, v, m] ∧ CabAt C H c n t ∧ ((4 < n ∧ ∀ H', Same H H' → exIni CT "most" (.int 4) H' E) ∨
    (n ≤ 4 ∧ ∀ H1, Same H H1 → spCkPrX K C CP [.ref c, v] H1 (fun _ H2 => spCkNumX K CN [m, .int 0, .int 2] H2 (fun _ _ => False) E) E))
section
variable {P : Program} {w : World} {K : PySem.W.Frag} {mg : Str → Option Value} {base : Heap}
theorem scIP : FnScope ["drawers", "value"] ["drawers", "value"] (defScope s_is_pair) := ⟨rfl, rfl, rfl, by decide +kernel, rfl, by decide +kernel, by decide +kernel⟩
theorem ok_isPair {f f1 : Addr} {fd fd1 : FuncData} (F : Fun K "is_pair" "is_pair" s_is_pair f fd) (T : Bt mg) (G : FnOk P w K mg base CX0 4 f1 fd1 ["drawers", "value"] (spIsSet K)) (g1 : mg "is_set" = some (.ref f1)) (k1 : PySem.W.keepIn K (.ref f1) = true) (b1 : Binds K fd1 ["drawers", "value"] []) :
    FnOk P w K mg base CX0 5 f fd ["drawers", "value"] (spIsPair K) := by
  refine F.ok scIP (fun vs H Q E h => ?_) (fun cdv A outer s H vs Q E hr h => ?_)
  · obtain ⟨n, v, rfl, _⟩ := h.h
    rfl
  · obtain ⟨n, v, rfl, hv⟩ := h.h
    refine ⟨_, pss_one (ps_ret (pe_and (pe_call G (hr.mono (by decide)) rfl g1 k1 b1 .nil pass0 (pa_cons (pv 0) (pa_cons (pv 1) pa_nil))) (pe_one (pe_cmpR op_eq (pe_callB call_len_seq (by rfl) T.len PySem.boot_len (pa_cons (pv 1) pa_nil)) pe_int (nomark _))))), ?_⟩
    rcases hv with ⟨t, ty, hk, k⟩ | ⟨a, xs, rfl, S, hl, hsc, k⟩
    · exact ⟨_, rfl, _, rfl, ⟨⟨n, v, rfl, .inl ⟨t, ty, hk, false, rfl, iteF k⟩⟩⟩⟩
    · refine ⟨_, rfl, _, rfl, ⟨⟨n, _, rfl, .inr ⟨a, xs, rfl, S, hl, hsc, fun H1 s1 => ⟨_, rfl, ?_⟩⟩⟩⟩⟩
      have kk := k H1 s1
      unfold pairB at kk
      cases e : setB n xs with
      | false =>
        rw [e] at kk
        exact iteF kk
      | true =>
        rw [e, Bool.true_and] at kk
        exact iteT ⟨_, rfl, a, _, rfl, .inr (SqT.same s1 S), rfl, kk⟩
theorem scCN : FnScope ["value", "least", "most"] ["value", "least", "most"] (defScope s_check_number) := ⟨rfl, rfl, rfl, by decide +kernel, rfl, by decide +kernel, by decide +kernel⟩
theorem ok_ckNumX {f f1 CN : Addr} {fd fd1 : FuncData} (F : Fun K "check_number" "check_number" s_check_number f fd) (BT : IniT P w K mg base "BadNumber" "n" goodA CN)
    (G : FnOk P w K mg base CX0 1 f1 fd1 ["value"] (spIsInt K)) (g1 : mg "is_integer" = some (.ref f1)) (k1 : PySem.W.keepIn K (.ref f1) = true) (b1 : Binds K fd1 ["value"] []) :
    FnOk P w K mg base (L2.CX P w) 4 f fd ["value", "least", "most"] (spCkNumX K CN) := by
  refine F.okX scCN (fun vs H Q E h => ?_) (fun cdv A outer s H vs Q E hr h => ?_)
  · obtain ⟨v, m, rfl, _⟩ := h.h
    rfl
  · obtain ⟨v, m, rfl, hv, ke⟩ := h.h
    obtain ⟨fI, fdI, i1, i2, GI, bI⟩ := BT.i
    refine ⟨_, pss_one (ps_if (PW.pt (pw_or (pt_not (pt_val (pe_call G (hr.mono (by decide)) rfl g1 k1 b1 .nil pass0 (pa_cons (pv 0) pa_nil)))) (pw_or1 (pt_not (pt_chain op_le op_le (pv 1) (pv 0) (pv 2))))))
      (pss_one (ps_raise rfl (takes_of rfl rfl rfl rfl) (pmk_oex BT.T i1 i2 GI (hr.mono (by decide)) bI .nil pass0 rfl BT.g (pa_cons (pv 0) pa_nil)))) pss_nil), ?_⟩
    have fin : ∃ v', some v' = some v ∧ (1 : Nat) ≤ 1000 := ⟨v, rfl, by decide⟩
    rcases hv with ⟨t, c1, c2, ty, e1, e2, e3⟩ | ⟨i, rfl, hn⟩
    · refine ⟨_, rfl, ⟨v, t, c1, c2, rfl, ty, e1, e2, _, rfl, ?_⟩⟩
      rw [e3]
      exact iteT ⟨_, rfl, by show 1 ≤ 1000; decide, fun a ha => ini_mk ha trivial ke⟩
    · refine ⟨_, rfl, ⟨.int i, .type "int", true, false, rfl, .base (.int i), kit_ty (by decide +kernel), kit_ty (by decide +kernel), _, rfl, iteF ?_⟩⟩
      refine ⟨_, rfl, _, rfl, _, _, rfl, rfl, _, rfl, ?_⟩
      by_cases q : 0 ≤ i
      · rw [decide_eq_true q]
        refine iteT ⟨_, rfl, _, _, rfl, rfl, _, rfl, ?_⟩
        rw [decide_eq_false (fun z => hn ⟨q, z⟩)]
        exact iteT ⟨_, rfl, by show 1 ≤ 1000; decide, fun a ha => ini_mk ha trivial ke⟩
      · rw [decide_eq_false q]
        exact iteF ⟨_, rfl, iteT ⟨_, rfl, by show 1 ≤ 1000; decide, fun a ha => ini_mk ha trivial ke⟩⟩
abbrev nCP : List Str := ["cabinet", "pairs", "index", "pair"]
theorem scCP : FnScope nCP ["cabinet", "pairs"] (defScope s_check_pairs) := ⟨rfl, rfl, rfl, by decide +kernel, rfl, by decide +kernel, by decide +kernel⟩
theorem ok_ckPrX {f f1 C CB : Addr} {fd fd1 : FuncData} (F : Fun K "check_pairs" "check_pairs" s_check_pairs f fd) (T : Bt mg) (zL : mg "list" = none) (CP : CabP P w K mg base C) (BT : IniT P w K mg base "BadPairs" "index" goodI CB)
    (G1 : FnOk P w K mg base CX0 5 f1 fd1 ["drawers", "value"] (spIsPair K)) (g1 : mg "is_pair" = some (.ref f1)) (k1 : PySem.W.keepIn K (.ref f1) = true) (b1 : Binds K fd1 ["drawers", "value"] []) :
    FnOk P w K mg base (L2.CX P w) 7 f fd ["cabinet", "pairs"] (spCkPrX K C CB) := by
  refine F.okX scCP (fun vs H Q E h => ?_) (fun cdv A outer s H vs Q E hr h => ?_)
  · obtain ⟨c, v, n, t, rfl, _⟩ := h.h
    rfl
  · obtain ⟨c, v, n, tb, rfl, ⟨dx, hc⟩, hv⟩ := h.h
    obtain ⟨fI, fdI, i1, i2, GI, bI⟩ := BT.i
    obtain ⟨pD, gD, fdD, hpD, GD, bD⟩ := CP.d
    refine ⟨_, pss_cons (ps_if (pt_not (pt_val (pe_callB call_isiT (by rfl) T.isinstance (by decide +kernel) (pa_cons (pv 1) (pa_cons (pe_tup (pa_cons (pe_bltn (v := .ty "list") (by rfl) zL (by decide +kernel) rfl) (pa_cons (pe_bltn (v := .ty "tuple") (by rfl) T.tuple (by decide +kernel) rfl) pa_nil))) pa_nil)))))
        (pss_one (ps_raise rfl (takes_of rfl rfl rfl rfl) (pmk_oex BT.T i1 i2 GI (hr.mono (by decide)) bI .nil pass0 rfl BT.g (pa_cons pe_non pa_nil)))) pss_nil)
      (pss_one (ps_for (passes_of rfl) rfl (pi_enum (by rfl) T.enumerate (pa_cons (pv 1) pa_nil)) (pg_tup (by rfl) (pgs_cons (pg_name (i := 2) scCP.nd rfl (.inl rfl)) (pgs_cons (pg_name (i := 3) scCP.nd rfl (.inl rfl)) pgs_nil)))
        (pss_one (ps_if (pt_not (pt_val (pe_call G1 (hr.mono (by decide)) rfl g1 k1 b1 .nil pass0 (pa_cons (pe_prop (pv 0) CP.cl hpD GD (hr.mono (by decide)) bD .nil pass0 rfl) (pa_cons (pv 3) pa_nil))))) (pss_one (ps_raise rfl (takes_of rfl rfl rfl rfl) (pmk_oex BT.T i1 i2 GI (hr.mono (by decide)) bI .nil pass0 rfl BT.g (pa_cons (pv 2) pa_nil)))) pss_nil)))), ?_⟩
    refine ⟨_, rfl, (by show 2 ≤ sizeLine; decide), fun q hq => ?_⟩
    obtain ⟨s0, f0⟩ := new_at (o := .tup [.ty "list", .ty "tuple"]) hq
    generalize upd H q (.tup [.ty "list", .ty "tuple"]) = H0 at s0 f0 ⊢
    rcases hv with ⟨t, ty, hk, ke⟩ | ⟨l, xs, rfl, S, ty, hg, kq⟩ | ⟨l, pre, x, post, rfl, S, ty, hl, hg, hno, ke⟩
    · refine ⟨_, q, _, t, _, false, rfl, f0, .cons (.ty "list") (.cons (.ty "tuple") .nil), ty H0 s0, hk, _, rfl, iteT ?_⟩
      exact ⟨by show 1 ≤ 1000; decide, fun a ha => ini_mk ha (.inl rfl) (ke H0 s0)⟩
    · refine ⟨_, q, _, _, _, true, rfl, f0, .cons (.ty "list") (.cons (.ty "tuple") .nil), ty H0 s0, kit_lt2, _, rfl, iteF ?_⟩
      refine ⟨_, rfl, l, _, rfl, s0.seq S, ?_⟩
      refine for_it walk_enum (fun i σ H' => i ≤ xs.length ∧ ∃ v2 v3, σ = [some (.ref c), some (.ref l), v2, v3] ∧ Same H H') ⟨Nat.zero_le _, _, _, rfl, s0⟩ (fun i σ H' _ ⟨_, _, _, _, s1⟩ => s1.seq S) ?_ ?_
      · rintro i y σ H1 H2 hi ⟨hik, v2, v3, rfl, s1⟩ ⟨T', x1, x2, rfl, hT, rfl, e1, e2⟩
        have e1' : V.int (i : Nat) = x1 := Option.some.inj e1
        subst e1'
        have e2 : xs[i]? = some x2 := e2
        obtain ⟨s2', f2⟩ := new_at (o := .tup [.int (i : Nat), x2]) hT
        generalize upd H1 T' (.tup [.int (i : Nat), x2]) = H3 at s2' f2 ⊢
        have s2 := s1.trans s2'
        refine ⟨T', _, rfl, SqT.of' f2, rfl, _, _, rfl, _, _, rfl, rfl, ?_⟩
        exact ⟨_, rfl, c, dx, _, rfl, s2 _ _ hc, ⟨⟨c, dx, _, tb, rfl, s2 _ _ hc, _, rfl, ((hg x2 (List.mem_of_getElem? e2)).same s2).sp fun H4 s4 => ⟨_, rfl, iteF ⟨hi, _, _, rfl, s2.trans s4⟩⟩⟩⟩⟩
      · rintro σ H' ⟨hik, _, _, _, s1⟩
        exact kq H' s1
    · refine ⟨_, q, _, _, _, true, rfl, f0, .cons (.ty "list") (.cons (.ty "tuple") .nil), ty H0 s0, kit_lt2, _, rfl, iteF ?_⟩
      refine ⟨_, rfl, l, _, rfl, s0.seq S, ?_⟩
      refine for_it walk_enum (fun i σ H' => i ≤ pre.length ∧ ∃ v2 v3, σ = [some (.ref c), some (.ref l), v2, v3] ∧ Same H H') ⟨Nat.zero_le _, _, _, rfl, s0⟩ (fun i σ H' _ ⟨_, _, _, _, s1⟩ => s1.seq S) ?_ ?_
      · rintro i y σ H1 H2 hi ⟨hik, v2, v3, rfl, s1⟩ ⟨T', x1, x2, rfl, hT, rfl, e1, e2⟩
        have e1' : V.int (i : Nat) = x1 := Option.some.inj e1
        subst e1'
        have e2 : (pre ++ x :: post)[i]? = some x2 := e2
        obtain ⟨s2', f2⟩ := new_at (o := .tup [.int (i : Nat), x2]) hT
        generalize upd H1 T' (.tup [.int (i : Nat), x2]) = H3 at s2' f2 ⊢
        have s2 := s1.trans s2'
        refine ⟨T', _, rfl, SqT.of' f2, rfl, _, _, rfl, _, _, rfl, rfl, ?_⟩
        rcases Nat.lt_or_ge i pre.length with hlt | hge
        · rw [List.getElem?_append_left hlt] at e2
          have hm := List.mem_of_getElem? e2
          exact ⟨_, rfl, c, dx, _, rfl, s2 _ _ hc, ⟨⟨c, dx, _, tb, rfl, s2 _ _ hc, _, rfl, ((hg x2 hm).same s2).sp fun H4 s4 => ⟨_, rfl, iteF ⟨hlt, _, _, rfl, s2.trans s4⟩⟩⟩⟩⟩
        · obtain rfl : i = pre.length := by omega
          have ex2 : x = x2 := by
            rw [List.getElem?_append_right (Nat.le_refl _), Nat.sub_self] at e2
            exact Option.some.inj e2
          subst ex2
          exact ⟨_, rfl, c, dx, _, rfl, s2 _ _ hc, ⟨⟨c, dx, _, tb, rfl, s2 _ _ hc, _, rfl, (hno H3 s2).sp fun H4 s4 => ⟨_, rfl, iteT ⟨_, rfl, by show 1 ≤ 1000; decide, fun a ha => ini_mk ha (.inr ⟨_, rfl, by omega, by omega⟩) (ke H4 (s2.trans s4))⟩⟩⟩⟩⟩
      · rintro σ H' ⟨hik, _⟩
        rw [List.length_append, List.length_cons] at hik
        omega
theorem scFew : FnScope ["cabinet", "most"] ["cabinet", "most"] (defScope s_check_few_drawers) := ⟨rfl, rfl, rfl, by decide +kernel, rfl, by decide +kernel, by decide +kernel⟩
theorem ok_few {f C CT : Addr} {fd : FuncData} (F : Fun K "check_few_drawers" "check_few_drawers" s_check_few_drawers f fd) (CP : CabP P w K mg base C) (BT : IniT P w K mg base "TooMany" "most" goodI CT) :
    FnOk P w K mg base (L2.CX P w) 4 f fd ["cabinet", "most"] (spFewX C CT) := by
  refine F.okX scFew (fun vs H Q E h => ?_) (fun cdv A outer s H vs Q E hr h => ?_)
  · obtain ⟨c, t, n, m, rfl, _⟩ := h.h
    rfl
  · obtain ⟨c, t, n, m, rfl, ⟨dx, hc⟩, hv⟩ := h.h
    obtain ⟨fI, fdI, i1, i2, GI, bI⟩ := BT.i
    obtain ⟨pD, gD, fdD, hpD, GD, bD⟩ := CP.d
    refine ⟨_, pss_one (ps_if (pt_cmpR op_gt (pe_prop (pv 0) CP.cl hpD GD (hr.mono (by decide)) bD .nil pass0 rfl) (pv 1) (nomark _)) (pss_one (ps_raise rfl (takes_of rfl rfl rfl rfl) (pmk_oex BT.T i1 i2 GI (hr.mono (by decide)) bI .nil pass0 rfl BT.g (pa_cons (pv 1) pa_nil)))) pss_nil), ?_⟩
    refine ⟨_, rfl, c, dx, _, rfl, hc, ⟨⟨c, dx, _, t, rfl, hc, _, rfl, _, _, rfl, rfl, _, rfl, ?_⟩⟩⟩
    rcases hv with ⟨h4, m0, m1, ke⟩ | ⟨h4, k⟩
    · rw [decide_eq_true h4]
      exact iteT ⟨_, rfl, by show 1 ≤ 1000; decide, fun a ha => ini_mk ha (.inr ⟨m, rfl, by omega, by omega⟩) ke⟩
    · rw [decide_eq_false (by omega)]
      exact iteF k
abbrev nG : List Str := ["cabinet", "pairs", "most", "spare", "pulls", "apart", "many", "found"]
theorem scG : FnScope nG ["cabinet", "pairs", "most"] (defScope s_guards) := ⟨rfl, rfl, rfl, by decide +kernel, rfl, by decide +kernel, by decide +kernel⟩
theorem ok_guardsX {f f0 f1 f2 f3 C CT CP CN : Addr} {fd fd0 fd1 fd2 fd3 : FuncData} (F : Fun K "guards" "guards" s_guards f fd) (CPr : CabP P w K mg base C) (gM : ∃ t, mg "MOST_GUARDED" = some (.int 4 t)) (gA : ∃ t, mg "MOST_ADDED" = some (.int 2 t)) 
    (G0 : FnOk P w K mg base (L2.CX P w) 4 f0 fd0 ["cabinet", "most"] (spFewX C CT)) (g0 : mg "check_few_drawers" = some (.ref f0)) (k0 : PySem.W.keepIn K (.ref f0) = true) (b0 : Binds K fd0 ["cabinet", "most"] [])
    (G1 : FnOk P w K mg base CX0 1 f1 fd1 ["cabinet"] (spCkCab C)) (g1 : mg "check_cabinet" = some (.ref f1)) (k1 : PySem.W.keepIn K (.ref f1) = true) (b1 : Binds K fd1 ["cabinet"] [])
    (G2 : FnOk P w K mg base (L2.CX P w) 7 f2 fd2 ["cabinet", "pairs"] (spCkPrX K C CP)) (g2 : mg "check_pairs" = some (.ref f2)) (k2 : PySem.W.keepIn K (.ref f2) = true) (b2 : Binds K fd2 ["cabinet", "pairs"] [])
    (G3 : FnOk P w K mg base (L2.CX P w) 4 f3 fd3 ["value", "least", "most"] (spCkNumX K CN)) (g3 : mg "check_number" = some (.ref f3)) (k3 : PySem.W.keepIn K (.ref f3) = true) (b3 : Binds K fd3 ["value", "least", "most"] []) :
    FnOk P w K mg base (L2.CX P w) 9 f fd ["cabinet", "pairs", "most"] (spGuardsX K C CT CP CN) := by
  refine F.okX scG (fun vs H Q E h => ?_) (fun cdv A outer s H vs Q E hr h => ?_)
  · obtain ⟨c, v, m, n, t, rfl, _⟩ := h.h
    rfl
  · obtain ⟨c, v, m, n, t, rfl, ⟨dx, hc⟩, hv⟩ := h.h
    obtain ⟨tM, gM⟩ := gM
    obtain ⟨tA, gA⟩ := gA
    refine ⟨_, pss_cons (ps_expr (pe_call G1 (hr.mono (by decide)) rfl g1 k1 b1 .nil pass0 (pa_cons (pv 0) pa_nil)))
      (pss_cons (ps_expr (pe_call G0 (hr.mono (by decide)) rfl g0 k0 b0 .nil (passes_call (E := E) (takes_of rfl rfl rfl rfl) (fun _ _ _ _ z => z)) (pa_cons (pv 0) (pa_cons (pe_glob (v := .int 4) rfl gM ⟨_, rfl⟩) pa_nil))))
      (pss_cons (ps_expr (pe_call G2 (hr.mono (by decide)) rfl g2 k2 b2 .nil (passes_call (E := E) (takes_of rfl rfl rfl rfl) (fun _ _ _ _ z => z)) (pa_cons (pv 0) (pa_cons (pv 1) pa_nil))))
      (pss_cons (ps_expr (pe_call G3 (hr.mono (by decide)) rfl g3 k3 b3 .nil (passes_call (E := E) (takes_of rfl rfl rfl rfl) (fun _ _ _ _ z => z)) (pa_cons (pv 2) (pa_cons pe_int (pa_cons (pe_glob (v := .int 2) rfl gA ⟨_, rfl⟩) pa_nil))))) pss_never))), ?_⟩
    refine ⟨_, rfl, ⟨⟨c, n, t, rfl, ⟨dx, hc⟩, _, rfl, ⟨⟨c, t, n, 4, rfl, ⟨dx, hc⟩, ?_⟩⟩⟩⟩⟩
    rcases hv with ⟨h4, ke⟩ | ⟨h4, kp⟩
    · exact .inl ⟨h4, by decide, by decide, ke H (Same.refl H)⟩
    · refine .inr ⟨h4, ?_⟩
      refine ⟨_, rfl, _, rfl, ?_⟩
      obtain ⟨c', v', n', t', e, hc', h⟩ := (kp H (Same.refl H)).h
      cases e
      refine ⟨⟨c, v, n', t', rfl, hc', ?_⟩⟩
      rcases h with ⟨t, h1, h2, k⟩ | ⟨l, xs, e2, h1, h2, h3, k⟩ | h
      · exact .inl ⟨t, h1, h2, k⟩
      · exact .inr (.inl ⟨l, xs, e2, h1, h2, h3, fun H' s => ⟨_, rfl, ⟨(k H' s).h⟩⟩⟩)
      · exact .inr (.inr h)
theorem spGuardsX.imp {K : PySem.W.Frag} {C CT CP CN : Addr} {vs : List V} {H : Hp} {Q Q' : VK} {E E' : XK} (h : spGuardsX K C CT CP CN vs H Q E) (he : ∀ c d H', E c d H' → E' c d H') : spGuardsX K C CT CP CN vs H Q' E' := by
  have ex : ∀ D f x H', exIni D f x H' E → exIni D f x H' E' := fun D f x H' k d H2 h1 h2 h3 => he _ _ _ (k d H2 h1 h2 h3)
  obtain ⟨c, v, m, n, t, e, hc, h⟩ := h.h
  refine ⟨⟨c, v, m, n, t, e, hc, ?_⟩⟩
  rcases h with ⟨h4, k⟩ | ⟨h4, k⟩
  · exact .inl ⟨h4, fun H' s => ex _ _ _ _ (k H' s)⟩
  · refine .inr ⟨h4, fun H1 s1 => ?_⟩
    obtain ⟨c', v', n', t', e, hc', h⟩ := (k H1 s1).h
    refine ⟨⟨c', v', n', t', e, hc', ?_⟩⟩
    rcases h with ⟨t, h1, h2, k⟩ | ⟨l, xs, e2, h1, h2, h3, k⟩ | ⟨l, pre, x, post, e2, h1, h2, h3, h4, h5, k⟩
    · exact .inl ⟨t, h1, h2, fun H' s => ex _ _ _ _ (k H' s)⟩
    · refine .inr (.inl ⟨l, xs, e2, h1, h2, h3, fun H' s => ?_⟩)
      obtain ⟨v0, m0, e0, hm, hx⟩ := (k H' s).h
      exact ⟨⟨v0, m0, e0, hm, ex _ _ _ _ hx⟩⟩
    · exact .inr (.inr ⟨l, pre, x, post, e2, h1, h2, h3, h4, h5, fun H' s => ex _ _ _ _ (k H' s)⟩)
end
end DL

set_option Elab.async false
set_option maxRecDepth 100000
set_option maxHeartbeats 1000000
namespace DL
open PySem L2 HT TL
/-! ### tries that are refused -/
def GoodTry (H : Hp) (n : Int) (y : V) : Prop := ∃ a x0 x1 x2, y = .ref a ∧ H a = some (.tup [x0, x1, x2]) ∧ scV x0 = true ∧ scV x1 = true ∧ scV x2 = true ∧ (∀ z, x0 = .str z → z.length ≤ 1000) ∧ tryB n x0 x1 x2 = true
def NoTry (K : PySem.W.Frag) (H : Hp) (n : Int) (x : V) : Prop := (∃ t, TyX K H x t ∧ PySem.W.kitOne K t (.type "tuple") = some false) ∨ (∃ a xs, x = .ref a ∧ SqT K H a xs ∧ xs.length ≠ 3) ∨
  ∃ a x0 x1 x2, x = .ref a ∧ SqT K H a [x0, x1, x2] ∧ scV x0 = true ∧ scV x1 = true ∧ scV x2 = true ∧ (∀ z, x0 = .str z → z.length ≤ 1000) ∧ tryB n x0 x1 x2 = false
theorem GoodTry.sp {K : PySem.W.Frag} {H : Hp} {n : Int} {y : V} {Q : VK} {E : XK} (h : GoodTry H n y) (k : ∀ H', Same H H' → Q (.bl true) H') : spIsTry K [.int n, y] H Q E := by
  obtain ⟨a, x0, x1, x2, rfl, ha, c0, c1, c2, hl, ht⟩ := h
  exact ⟨⟨n, _, rfl, .inr (.inr ⟨a, x0, x1, x2, rfl, SqT.of' ha, c0, c1, c2, hl, fun H' s => by rw [ht]; exact k H' s⟩)⟩⟩
theorem NoTry.sp {K : PySem.W.Frag} {H : Hp} {n : Int} {x : V} {Q : VK} {E : XK} (h : NoTry K H n x) (k : ∀ H', Same H H' → Q (.bl false) H') : spIsTry K [.int n, x] H Q E := by
  rcases h with ⟨t, h1, h2⟩ | ⟨a, xs, rfl, h1, h2⟩ | ⟨a, x0, x1, x2, rfl, h1, c0, c1, c2, hl, ht⟩
  · exact ⟨⟨n, _, rfl, .inl ⟨t, h1, h2, k H (Same.refl H)⟩⟩⟩
  · exact ⟨⟨n, _, rfl, .inr (.inl ⟨a, xs, rfl, h1, h2, k H (Same.refl H)⟩)⟩⟩
  · exact ⟨⟨n, _, rfl, .inr (.inr ⟨a, x0, x1, x2, rfl, h1, c0, c1, c2, hl, fun H' s => by rw [ht]; exact k H' s⟩)⟩⟩
theorem GoodTry.same {H H' : Hp} {n : Int} {y : V} (h : GoodTry H n y) (s : Same H H') : GoodTry H' n y := by
  obtain ⟨a, x0, x1, x2, e, ha, r⟩ := h
  exact ⟨a, x0, x1, x2, e, s _ _ ha, r⟩
structure spCkTrX (K : PySem.W.Frag) (CB : Addr) (vs : List V) (H : Hp) (Q : VK) (E : XK) : Prop where
  h : ∃ (n : Int) (v : V), vs = [.int n, v] ∧
    ((∃ t, (∀ H', Same H H' → TyX K H' v t) ∧ PySem.W.kitAny K t [.type "list", .type "tuple"] = some false ∧ ∀ H', Same H H' → exIni CB "index" .non H' E) ∨
    (∃ l xs, v = .ref l ∧ SqL K H l xs ∧ (∀ H', Same H H' → TyX K H' v (.type "list")) ∧ 30 < xs.length ∧ ∀ H', Same H H' → exIni CB "index" .non H' E) ∨
    ∃ l pre x post, v = .ref l ∧ SqL K H l (pre ++ x :: post) ∧ (∀ H', Same H H' → TyX K H' v (.type "list")) ∧ (pre ++ x :: post).length ≤ 30 ∧ (∀ y ∈ pre, GoodTry H n y) ∧ (∀ H', Same H H' → NoTry K H' n x) ∧ ∀ H', Same H H' → exIni CB "index" (.int pre.length) H' E)
theorem spCkTrX.imp {K : PySem.W.Frag} {CB : Addr} {vs : List V} {H : Hp} {Q Q' : VK} {E E' : XK} (h : spCkTrX K CB vs H Q E) (he : ∀ c d H', E c d H' → E' c d H') : spCkTrX K CB vs H Q' E' := by
  have ex : ∀ x H', exIni CB "index" x H' E → exIni CB "index" x H' E' := fun x H' k d H2 h1 h2 h3 => he _ _ _ (k d H2 h1 h2 h3)
  obtain ⟨n, v, e, h⟩ := h.h
  rcases h with ⟨t, h1, h2, k⟩ | ⟨l, xs, e2, h1, h2, h3, k⟩ | ⟨l, pre, x, post, e2, h1, h2, h3, h4, h5, k⟩
  · exact ⟨⟨n, v, e, .inl ⟨t, h1, h2, fun H' s => ex _ _ (k H' s)⟩⟩⟩
  · exact ⟨⟨n, v, e, .inr (.inl ⟨l, xs, e2, h1, h2, h3, fun H' s => ex _ _ (k H' s)⟩)⟩⟩
  · exact ⟨⟨n, v, e, .inr (.inr ⟨l, pre, x, post, e2, h1, h2, h3, h4, h5, fun H' s => ex _ _ (k H' s)⟩)⟩⟩
theorem kit_lt {K : PySem.W.Frag} : PySem.W.kitAny K (.type "list") [.type "list", .type "tuple"] = some true := by
  have e1 : PySem.W.kitOne K (.type "list") (.type "list") = some true := kit_ty (by decide +kernel)
  have e2 : PySem.W.kitOne K (.type "list") (.type "tuple") = some false := kit_ty (by decide +kernel)
  simp [PySem.W.kitAny, e1, e2]
section
variable {P : Program} {w : World} {K : PySem.W.Frag} {mg : Str → Option Value} {base : Heap}
abbrev nCTh : List Str := ["drawers", "tries", "index", "told"]
theorem scCTh : FnScope nCTh ["drawers", "tries"] (defScope s_check_tries) := ⟨rfl, rfl, rfl, by decide +kernel, rfl, by decide +kernel, by decide +kernel⟩
theorem ok_ckTrX {f f1 CB : Addr} {fd fd1 : FuncData} (F : Fun K "check_tries" "check_tries" s_check_tries f fd) (T : Bt mg) (zL : mg "list" = none) (gM : ∃ t, mg "MOST_TRIES" = some (.int 30 t)) (BT : IniT P w K mg base "BadTries" "index" goodI CB)
    (G1 : FnOk P w K mg base CX0 4 f1 fd1 ["drawers", "value"] (spIsTry K)) (g1 : mg "is_try" = some (.ref f1)) (k1 : PySem.W.keepIn K (.ref f1) = true) (b1 : Binds K fd1 ["drawers", "value"] []) :
    FnOk P w K mg base (L2.CX P w) 6 f fd ["drawers", "tries"] (spCkTrX K CB) := by
  refine F.okX scCTh (fun vs H Q E h => ?_) (fun cdv A outer s H vs Q E hr h => ?_)
  · obtain ⟨n, v, rfl, _⟩ := h.h
    rfl
  · obtain ⟨n, v, rfl, hv⟩ := h.h
    obtain ⟨tM, gM⟩ := gM
    obtain ⟨fI, fdI, i1, i2, GI, bI⟩ := BT.i
    refine ⟨_, pss_cons (ps_if (PW.pt (pw_or (pt_not (pt_val (pe_callB call_isiT (by rfl) T.isinstance (by decide +kernel) (pa_cons (pv 1) (pa_cons (pe_tup (pa_cons (pe_bltn (v := .ty "list") (by rfl) zL (by decide +kernel) rfl) (pa_cons (pe_bltn (v := .ty "tuple") (by rfl) T.tuple (by decide +kernel) rfl) pa_nil))) pa_nil)))))
          (pw_or1 (pt_cmpR op_gt (pe_callB call_len_seq (by rfl) T.len PySem.boot_len (pa_cons (pv 1) pa_nil)) (pe_glob (v := .int 30) rfl gM ⟨_, rfl⟩) (nomark _)))))
        (pss_one (ps_raise rfl (takes_of rfl rfl rfl rfl) (pmk_oex BT.T i1 i2 GI (hr.mono (by decide)) bI .nil pass0 rfl BT.g (pa_cons pe_non pa_nil)))) pss_nil)
      (pss_one (ps_for (passes_of rfl) rfl (pi_enum (by rfl) T.enumerate (pa_cons (pv 1) pa_nil)) (pg_tup (by rfl) (pgs_cons (pg_name (i := 2) scCTh.nd rfl (.inl rfl)) (pgs_cons (pg_name (i := 3) scCTh.nd rfl (.inl rfl)) pgs_nil)))
        (pss_one (ps_if (pt_not (pt_val (pe_call G1 (hr.mono (by decide)) rfl g1 k1 b1 .nil pass0 (pa_cons (pv 0) (pa_cons (pv 3) pa_nil))))) (pss_one (ps_raise rfl (takes_of rfl rfl rfl rfl) (pmk_oex BT.T i1 i2 GI (hr.mono (by decide)) bI .nil pass0 rfl BT.g (pa_cons (pv 2) pa_nil)))) pss_nil)))), ?_⟩
    refine ⟨_, rfl, (by show 2 ≤ sizeLine; decide), fun q hq => ?_⟩
    obtain ⟨s0, f0⟩ := new_at (o := .tup [.ty "list", .ty "tuple"]) hq
    generalize upd H q (.tup [.ty "list", .ty "tuple"]) = H0 at s0 f0 ⊢
    rcases hv with ⟨t, ty, hk, ke⟩ | ⟨l, xs, rfl, S, ty, hl, ke⟩ | ⟨l, pre, x, post, rfl, S, ty, hl, hg, hno, ke⟩
    · refine ⟨_, q, _, t, _, false, rfl, f0, .cons (.ty "list") (.cons (.ty "tuple") .nil), ty H0 s0, hk, _, rfl, iteT ?_⟩
      exact ⟨by show 1 ≤ 1000; decide, fun a ha => ini_mk ha (.inl rfl) (ke H0 s0)⟩
    · refine ⟨_, q, _, _, _, true, rfl, f0, .cons (.ty "list") (.cons (.ty "tuple") .nil), ty H0 s0, kit_lt, _, rfl, iteF ?_⟩
      refine ⟨_, rfl, l, _, rfl, .inl (s0.seq S), _, _, rfl, rfl, _, rfl, ?_⟩
      refine ite2 (fun _ => ?_) (fun z => ?_)
      · exact ⟨by show 1 ≤ 1000; decide, fun a ha => ini_mk ha (.inl rfl) (ke H0 s0)⟩
      · exact absurd (decide_eq_true (by omega)) z
    · refine ⟨_, q, _, _, _, true, rfl, f0, .cons (.ty "list") (.cons (.ty "tuple") .nil), ty H0 s0, kit_lt, _, rfl, iteF ?_⟩
      refine ⟨_, rfl, l, _, rfl, .inl (s0.seq S), _, _, rfl, rfl, _, rfl, ?_⟩
      refine ite2 (fun z => ?_) (fun _ => ?_)
      · have := of_decide_eq_true z
        omega
      · refine ⟨_, rfl, l, _, rfl, s0.seq S, ?_⟩
        refine for_it walk_enum (fun i σ H' => i ≤ pre.length ∧ ∃ v2 v3, σ = [some (.int n), some (.ref l), v2, v3] ∧ Same H H') ⟨Nat.zero_le _, _, _, rfl, s0⟩ (fun i σ H' _ ⟨_, _, _, _, s1⟩ => s1.seq S) ?_ ?_
        · rintro i y σ H1 H2 hi ⟨hik, v2, v3, rfl, s1⟩ ⟨T', x1, x2, rfl, hT, rfl, e1, e2⟩
          have e1' : V.int (i : Nat) = x1 := Option.some.inj e1
          subst e1'
          have e2 : (pre ++ x :: post)[i]? = some x2 := e2
          obtain ⟨s2', f2⟩ := new_at (o := .tup [.int (i : Nat), x2]) hT
          generalize upd H1 T' (.tup [.int (i : Nat), x2]) = H3 at s2' f2 ⊢
          have s2 := s1.trans s2'
          refine ⟨T', _, rfl, SqT.of' f2, rfl, _, _, rfl, _, _, rfl, rfl, ?_⟩
          rcases Nat.lt_or_ge i pre.length with hlt | hge
          · rw [List.getElem?_append_left hlt] at e2
            have hm := List.mem_of_getElem? e2
            exact ⟨_, rfl, _, rfl, ((hg x2 hm).same s2).sp fun H4 s4 => ⟨_, rfl, iteF ⟨hlt, _, _, rfl, s2.trans s4⟩⟩⟩
          · obtain rfl : i = pre.length := by omega
            have ex2 : x = x2 := by
              rw [List.getElem?_append_right (Nat.le_refl _), Nat.sub_self] at e2
              exact Option.some.inj e2
            subst ex2
            rw [List.length_append] at hl
            exact ⟨_, rfl, _, rfl, (hno H3 s2).sp fun H4 s4 => ⟨_, rfl, iteT ⟨_, rfl, by show 1 ≤ 1000; decide, fun a ha => ini_mk ha (.inr ⟨_, rfl, by omega, by omega⟩) (ke H4 (s2.trans s4))⟩⟩⟩
        · rintro σ H' ⟨hik, _⟩
          rw [List.length_append, List.length_cons] at hik
          omega
/-- what is called with wrong numbers of drawers or wrong tries -/
structure spRefX (K : PySem.W.Frag) (CD CB : Addr) (vs : List V) (H : Hp) (Q : VK) (E : XK) : Prop where
  h : ∃ v b : V, vs = [v, b] ∧ spCkDX K CD [v] H (fun _ H1 => spCkTrX K CB [v, b] H1 (fun _ _ => False) E) E
theorem ckDX_imp {K : PySem.W.Frag} {CD : Addr} {vs : List V} {H : Hp} {Q Q' : VK} {E E' : XK} (h : spCkDX K CD vs H Q E) (hq : ∀ u H', Q u H' → Q' u H') (he : ∀ c d H', E c d H' → E' c d H') : spCkDX K CD vs H Q' E' := by
  rcases h.h with ⟨n, e, k1, k2⟩ | ⟨v, t, b1, b2, e, h1, h2, h3, h4, k⟩
  · exact ⟨.inl ⟨n, e, fun z => hq _ _ (k1 z), fun z => he _ _ _ (k2 z)⟩⟩
  · exact ⟨.inr ⟨v, t, b1, b2, e, h1, h2, h3, h4, he _ _ _ k⟩⟩
theorem scR_sure : FnScope ["drawers", "tries", "needs", "bar"] ["drawers", "tries"] (defScope s_sure) := ⟨rfl, rfl, rfl, by decide +kernel, rfl, by decide +kernel, by decide +kernel⟩
theorem ok_sureX {f f1 f2 CD CB : Addr} {fd fd1 fd2 : FuncData} (F : Fun K "sure" "sure" s_sure f fd)
    (G1 : FnOk P w K mg base (L2.CX P w) 3 f1 fd1 ["drawers"] (spCkDX K CD)) (g1 : mg "check_drawers" = some (.ref f1)) (k1 : PySem.W.keepIn K (.ref f1) = true) (b1 : Binds K fd1 ["drawers"] [])
    (G2 : FnOk P w K mg base (L2.CX P w) 6 f2 fd2 ["drawers", "tries"] (spCkTrX K CB)) (g2 : mg "check_tries" = some (.ref f2)) (k2 : PySem.W.keepIn K (.ref f2) = true) (b2 : Binds K fd2 ["drawers", "tries"] []) :
    FnOk P w K mg base (L2.CX P w) 8 f fd ["drawers", "tries"] (spRefX K CD CB) := by
  refine F.okX scR_sure (fun vs H Q E h => ?_) (fun cdv A outer s H vs Q E hr h => ?_)
  · obtain ⟨v, b, rfl, _⟩ := h.h
    rfl
  · obtain ⟨v, b, rfl, k⟩ := h.h
    refine ⟨_, pss_cons (ps_expr (pe_call G1 (hr.mono (by decide)) rfl g1 k1 b1 .nil (passes_call (E := E) (takes_of rfl rfl rfl rfl) (fun _ _ _ _ z => z)) (pa_cons (pv 0) pa_nil))) (pss_cons (ps_expr (pe_call G2 (hr.mono (by decide)) rfl g2 k2 b2 .nil (passes_call (E := E) (takes_of rfl rfl rfl rfl) (fun _ _ _ _ z => z)) (pa_cons (pv 0) (pa_cons (pv 1) pa_nil)))) pss_never), ?_⟩
    exact ⟨_, rfl, ckDX_imp k (fun _ H1 hB => ⟨_, rfl, _, rfl, by
      obtain ⟨n, v', e, h⟩ := hB.h
      rcases h with ⟨t, h1, h2, k⟩ | ⟨l, xs, e2, h1, h2, h3, k⟩ | ⟨l, pre, x, post, e2, h1, h2, h3, h4, h5, k⟩
      · exact ⟨⟨n, v', e, .inl ⟨t, h1, h2, k⟩⟩⟩
      · exact ⟨⟨n, v', e, .inr (.inl ⟨l, xs, e2, h1, h2, h3, k⟩)⟩⟩
      · exact ⟨⟨n, v', e, .inr (.inr ⟨l, pre, x, post, e2, h1, h2, h3, h4, h5, k⟩)⟩⟩⟩) (fun _ _ _ z => z)⟩
end
end DL

set_option Elab.async false
set_option maxRecDepth 100000
namespace DL
open PySem PySem.Spec PyProof.Rows L2
/-! ### a walk over a list or a tuple, whichever it is -/
/-- at a: a list or a tuple -/
def SqA (K : PySem.W.Frag) (H : Hp) (a : Addr) (xs : List V) : Prop := SqL K H a xs ∨ SqT K H a xs
/-! ### two for in one comprehension -/
end DL

set_option Elab.async false
set_option maxRecDepth 100000
namespace DL
open PySem L2 HT TL
/-! ### rows in their order: by their number of pulls, then by their pulls; as numbers -/
def rcode (r : List Int) : Int := r.foldl (fun a d => a * 8 + (d + 1)) 0
theorem rcode_snoc (r : List Int) (d : Int) : rcode (r ++ [d]) = rcode r * 8 + (d + 1) := by
  unfold rcode
  rw [List.foldl_append]
  rfl
theorem rcode_nil : rcode [] = 0 := rfl
def Low7 (r : List Int) : Prop := ∀ d ∈ r, 0 ≤ d ∧ d ≤ 6
theorem snoc_ind {α : Type} {p : List α → Prop} (h0 : p []) (hs : ∀ l a, p l → p (l ++ [a])) (l : List α) : p l := by
  have : ∀ m : List α, p m.reverse := fun m => by
    induction m with
    | nil => exact h0
    | cons a m ih =>
      rw [List.reverse_cons]
      exact hs _ _ ih
  have h := this l.reverse
  rw [List.reverse_reverse] at h
  exact h
theorem Low7.init {r : List Int} {d : Int} (h : Low7 (r ++ [d])) : Low7 r ∧ 0 ≤ d ∧ d ≤ 6 := ⟨fun x hx => h x (List.mem_append_left _ hx), h d (List.mem_append_right _ (List.mem_singleton.mpr rfl))⟩
theorem rcode_nn : ∀ {r : List Int}, Low7 r → 0 ≤ rcode r := by
  intro r
  refine snoc_ind (p := fun r => Low7 r → 0 ≤ rcode r) (fun _ => Int.le_refl _) (fun l a ih h => ?_) r
  obtain ⟨h1, h2, h3⟩ := h.init
  have := ih h1
  rw [rcode_snoc]
  omega
theorem rcode_inj' : ∀ a b : List Int, Low7 a → Low7 b → rcode a = rcode b → a = b := by
  intro a
  refine snoc_ind (p := fun a => ∀ b, Low7 a → Low7 b → rcode a = rcode b → a = b) (fun b _ hb e => ?_) (fun l x ih b ha hb e => ?_) a
  · revert hb e
    refine snoc_ind (p := fun b => Low7 b → rcode [] = rcode b → [] = b) (fun _ _ => rfl) (fun l y _ hb e => ?_) b
    obtain ⟨h1, h2, h3⟩ := hb.init
    have := rcode_nn h1
    rw [rcode_snoc, rcode_nil] at e
    omega
  · obtain ⟨h1, h2, h3⟩ := ha.init
    have p1 := rcode_nn h1
    revert hb e
    refine snoc_ind (p := fun b => Low7 b → rcode (l ++ [x]) = rcode b → l ++ [x] = b) (fun _ e => ?_) (fun m y _ hb e => ?_) b
    · rw [rcode_snoc, rcode_nil] at e
      omega
    · obtain ⟨g1, g2, g3⟩ := hb.init
      have p2 := rcode_nn g1
      rw [rcode_snoc, rcode_snoc] at e
      rw [ih m h1 g1 (by omega), show x = y by omega]
theorem rcode_inj {a b : List Int} (ha : Low7 a) (hb : Low7 b) (h : rcode a = rcode b) : a = b := rcode_inj' a b ha hb h
/-- a row is before another -/
def Bef (a b : List Int) : Prop := rcode a < rcode b ∧ a.length ≤ b.length
/-- rows in order, each behind the first one but one pull longer than one of those ahead of the i-th -/
structure Asc (rs : List (List Int)) (i : Nat) : Prop where
  pw : rs.Pairwise Bef
  low : ∀ x ∈ rs, Low7 x
  par : ∀ x ∈ rs, x = [] ∨ ∃ (j : Nat) (q : List Int) (d : Int), j < i ∧ rs[j]? = some q ∧ x = q ++ [d]
structure AscD (rs : List (List Int)) (i : Nat) (p : List Int) (D : Int) : Prop where
  pw : rs.Pairwise Bef
  low : ∀ x ∈ rs, Low7 x
  at' : rs[i]? = some p
  par : ∀ x ∈ rs, x = [] ∨ (∃ (j : Nat) (q : List Int) (d : Int), j < i ∧ rs[j]? = some q ∧ x = q ++ [d]) ∨ ∃ d : Int, d < D ∧ x = p ++ [d]
theorem AscD.done {rs : List (List Int)} {i : Nat} {p : List Int} {D : Int} (A : AscD rs i p D) : Asc rs (i + 1) := by
  refine ⟨A.pw, A.low, fun x hx => ?_⟩
  rcases A.par x hx with q | ⟨j, q, d, h1, h2, h3⟩ | ⟨d, h1, h2⟩
  · exact .inl q
  · exact .inr ⟨j, q, d, by omega, h2, h3⟩
  · exact .inr ⟨i, p, d, by omega, A.at', h2⟩
theorem AscD.up {rs : List (List Int)} {i : Nat} {p : List Int} {D D' : Int} (A : AscD rs i p D) (h : D ≤ D') : AscD rs i p D' := by
  refine ⟨A.pw, A.low, A.at', fun x hx => ?_⟩
  rcases A.par x hx with q | q | ⟨d, h1, h2⟩
  · exact .inl q
  · exact .inr (.inl q)
  · exact .inr (.inr ⟨d, by omega, h2⟩)
theorem AscD.below {rs : List (List Int)} {i : Nat} {p : List Int} {D d : Int} (A : AscD rs i p D) (hD : D ≤ d) (h0 : 0 ≤ d) : ∀ x ∈ rs, Bef x (p ++ [d]) := by
  intro x hx
  have hp : Low7 p := A.low p (List.mem_of_getElem? A.at')
  have pn := rcode_nn hp
  have lx := A.low x hx
  rcases A.par x hx with rfl | ⟨j, q, e, h1, h2, rfl⟩ | ⟨e, h1, rfl⟩
  · refine ⟨?_, by simp⟩
    rw [rcode_snoc, rcode_nil]
    omega
  · obtain ⟨g1, g2, g3⟩ := lx.init
    obtain ⟨l1, e1⟩ := List.getElem?_eq_some_iff.mp h2
    obtain ⟨l2, e2⟩ := List.getElem?_eq_some_iff.mp A.at'
    have := List.pairwise_iff_getElem.mp A.pw j i l1 l2 h1
    rw [e1, e2] at this
    obtain ⟨b1, b2⟩ := this
    refine ⟨?_, by rw [List.length_append, List.length_append]; exact Nat.add_le_add_right b2 _⟩
    rw [rcode_snoc, rcode_snoc]
    omega
  · refine ⟨?_, by rw [List.length_append, List.length_append]; exact Nat.le_refl _⟩
    rw [rcode_snoc, rcode_snoc]
    omega
theorem AscD.add {rs : List (List Int)} {i : Nat} {p : List Int} {D d : Int} (A : AscD rs i p D) (hD : D ≤ d) (h0 : 0 ≤ d) (h6 : d ≤ 6) : AscD (rs ++ [p ++ [d]]) i p (d + 1) := by
  have hp : Low7 p := A.low p (List.mem_of_getElem? A.at')
  have keep : ∀ (j : Nat) (q : List Int), rs[j]? = some q → (rs ++ [p ++ [d]])[j]? = some q := fun j q h => by
    rw [List.getElem?_append_left (List.getElem?_eq_some_iff.mp h).1]
    exact h
  refine ⟨?_, fun x hx => ?_, keep i p A.at', fun x hx => ?_⟩
  · rw [List.pairwise_append]
    refine ⟨A.pw, List.pairwise_singleton _ _, fun x hx y hy => ?_⟩
    rw [List.mem_singleton.mp hy]
    exact A.below hD h0 x hx
  · rcases List.mem_append.mp hx with hx | hx
    · exact A.low x hx
    · rw [List.mem_singleton.mp hx]
      intro e he
      rcases List.mem_append.mp he with he | he
      · exact hp e he
      · rw [List.mem_singleton.mp he]; exact ⟨h0, h6⟩
  · rcases List.mem_append.mp hx with hx | hx
    · rcases A.par x hx with q | ⟨j, q, e, h1, h2, h3⟩ | ⟨e, h1, h2⟩
      · exact .inl q
      · exact .inr (.inl ⟨j, q, e, h1, keep j q h2, h3⟩)
      · exact .inr (.inr ⟨e, by omega, h2⟩)
    · exact .inr (.inr ⟨d, by omega, List.mem_singleton.mp hx⟩)
/-! ### the pulls that go, one after another -/
theorem drs_pw (n : Nat) : (drs n).Pairwise (· < ·) := by
  unfold drs
  rw [List.pairwise_map]
  exact List.pairwise_lt_range.imp fun h => by omega
theorem free_pw (bs : List Bar) (st : List Bool) : (freeL bs st).Pairwise (· < ·) := (drs_pw st.length).filter _
theorem free_mem {bs : List Bar} {st : List Bool} {d : Int} : d ∈ freeL bs st ↔ (0 ≤ d ∧ d < st.length) ∧ goesB bs st d = true := by
  refine ⟨fun h => ⟨free_in h, (List.mem_filter.mp h).2⟩, fun h => ?_⟩
  refine List.mem_filter.mpr ⟨?_, h.2⟩
  unfold drs
  exact List.mem_map.mpr ⟨d.toNat, List.mem_range.mpr (by omega), by omega⟩
theorem pw_drop {l : List Int} (h : l.Pairwise (· < ·)) {t : Nat} {d : Int} (hd : l[t]? = some d) : (∀ x ∈ l.drop (t + 1), d + 1 ≤ x) ∧ l.drop t = d :: l.drop (t + 1) := by
  obtain ⟨h1, h2⟩ := List.getElem?_eq_some_iff.mp hd
  have e : l.drop t = d :: l.drop (t + 1) := by rw [List.drop_eq_getElem_cons h1, h2]
  refine ⟨fun x hx => ?_, e⟩
  have hp : (l.drop t).Pairwise (· < ·) := List.Pairwise.sublist (List.drop_sublist t l) h
  rw [e, List.pairwise_cons] at hp
  have := hp.1 x hx
  omega
theorem mem_take_succ {α : Type} {l : List α} {t : Nat} {d x : α} (hd : l[t]? = some d) (h : x ∈ l.take (t + 1)) : x ∈ l.take t ∨ x = d := by
  obtain ⟨h1, h2⟩ := List.getElem?_eq_some_iff.mp hd
  rw [List.take_succ_eq_append_getElem h1, h2] at h
  rcases List.mem_append.mp h with h | h
  · exact .inl h
  · exact .inr (List.mem_singleton.mp h)
/-! ### the queue: an entry is a standing and its row -/
abbrev Ent := List Bool × List Int
def Led (bs : List Bar) (s0 : List Bool) (e : Ent) : Prop := runB bs s0 e.2 = some e.1 ∧ (Low7 e.2 ∧ ∀ d ∈ e.2, 0 ≤ d ∧ d < s0.length) ∧ e.1.length = s0.length
theorem runB_snoc {bs : List Bar} : ∀ {r : List Int} {st : List Bool} {d : Int}, runB bs st (r ++ [d]) = (runB bs st r).bind fun s => if goesB bs s d = true then some (flip s d) else none
  | [], st, d => by
    show runB bs st [d] = _
    rw [runB_cons]
    rfl
  | x :: r, st, d => by
    show runB bs st (x :: (r ++ [d])) = _
    rw [runB_cons, runB_cons]
    by_cases q : goesB bs st x = true
    · rw [if_pos q, if_pos q]
      exact runB_snoc
    · rw [if_neg q, if_neg q]
      rfl
theorem Led.step {bs : List Bar} {s0 : List Bool} {p : Ent} {d : Int} (L : Led bs s0 p) (hd : d ∈ freeL bs p.1) (h7 : s0.length ≤ 7) : Led bs s0 (flip p.1 d, p.2 ++ [d]) := by
  obtain ⟨⟨d0, d1⟩, hg⟩ := free_mem.mp hd
  refine ⟨?_, ⟨fun x hx => ?_, fun x hx => ?_⟩, by rw [flip_len]; exact L.2.2⟩
  · show runB bs s0 (p.2 ++ [d]) = _
    rw [runB_snoc, L.1, Option.bind_some, if_pos hg]
  · rcases List.mem_append.mp hx with hx | hx
    · exact L.2.1.1 x hx
    · rw [List.mem_singleton.mp hx]
      have := L.2.2
      omega
  · rcases List.mem_append.mp hx with hx | hx
    · exact L.2.1.2 x hx
    · rw [List.mem_singleton.mp hx]
      have := L.2.2
      omega
structure BI (bs : List Bar) (s0 : List Bool) (i : Nat) (es : List Ent) : Prop where
  nd : (es.map (·.1)).Nodup
  asc : Asc (es.map (·.2)) i
  led : ∀ e ∈ es, Led bs s0 e
  ex : ∀ (j : Nat) (p : Ent), j < i → es[j]? = some p → ∀ d ∈ freeL bs p.1, ∃ e ∈ es, e.1 = flip p.1 d ∧ rcode e.2 ≤ rcode (p.2 ++ [d]) ∧ e.2.length ≤ p.2.length + 1
  root : (s0, []) ∈ es
structure BD (bs : List Bar) (s0 : List Bool) (i : Nat) (p : Ent) (t : Nat) (D : Int) (es : List Ent) : Prop where
  nd : (es.map (·.1)).Nodup
  asc : AscD (es.map (·.2)) i p.2 D
  led : ∀ e ∈ es, Led bs s0 e
  at' : es[i]? = some p
  ex : ∀ (j : Nat) (p : Ent), j < i → es[j]? = some p → ∀ d ∈ freeL bs p.1, ∃ e ∈ es, e.1 = flip p.1 d ∧ rcode e.2 ≤ rcode (p.2 ++ [d]) ∧ e.2.length ≤ p.2.length + 1
  exd : ∀ d ∈ (freeL bs p.1).take t, ∃ e ∈ es, e.1 = flip p.1 d ∧ rcode e.2 ≤ rcode (p.2 ++ [d]) ∧ e.2.length ≤ p.2.length + 1
  dle : ∀ d ∈ (freeL bs p.1).drop t, D ≤ d
  root : (s0, []) ∈ es
theorem BD.done {bs : List Bar} {s0 : List Bool} {i : Nat} {p : Ent} {D : Int} {es : List Ent} (B : BD bs s0 i p (freeL bs p.1).length D es) : BI bs s0 (i + 1) es := by
  refine ⟨B.nd, B.asc.done, B.led, fun j q hj hq => ?_, B.root⟩
  by_cases e : j = i
  · subst e
    rw [B.at'] at hq
    cases hq
    have := B.exd
    rw [List.take_length] at this
    exact this
  · exact B.ex j q (by omega) hq
theorem BD.free {bs : List Bar} {s0 : List Bool} {i : Nat} {p : Ent} {t : Nat} {D : Int} {es : List Ent} (B : BD bs s0 i p t D es) {d : Int} (hd : (freeL bs p.1)[t]? = some d) (h7 : s0.length ≤ 7) :
    d ∈ freeL bs p.1 ∧ D ≤ d ∧ 0 ≤ d ∧ d ≤ 6 := by
  have hm := List.mem_of_getElem? hd
  obtain ⟨d0, d1⟩ := free_in hm
  have := (B.led p (List.mem_of_getElem? B.at')).2.2
  obtain ⟨_, e⟩ := pw_drop (free_pw bs p.1) hd
  exact ⟨hm, B.dle d (by rw [e]; exact List.mem_cons_self), d0, by omega⟩
theorem BD.old {bs : List Bar} {s0 : List Bool} {i : Nat} {p : Ent} {t : Nat} {D : Int} {es : List Ent} (B : BD bs s0 i p t D es) {d : Int} (hd : (freeL bs p.1)[t]? = some d) (h7 : s0.length ≤ 7) (h : flip p.1 d ∈ es.map (·.1)) : BD bs s0 i p (t + 1) (d + 1) es := by
  obtain ⟨hm, hD, d0, d6⟩ := B.free hd h7
  refine ⟨B.nd, B.asc.up (by omega), B.led, B.at', B.ex, fun x hx => ?_, (pw_drop (free_pw bs p.1) hd).1, B.root⟩
  rcases mem_take_succ hd hx with hx | rfl
  · exact B.exd x hx
  · obtain ⟨e, he, h1⟩ := List.mem_map.mp h
    obtain ⟨b1, b2⟩ := B.asc.below hD d0 e.2 (List.mem_map.mpr ⟨e, he, rfl⟩)
    rw [List.length_append] at b2
    exact ⟨e, he, h1, Int.le_of_lt b1, b2⟩
theorem BD.new {bs : List Bar} {s0 : List Bool} {i : Nat} {p : Ent} {t : Nat} {D : Int} {es : List Ent} (B : BD bs s0 i p t D es) {d : Int} (hd : (freeL bs p.1)[t]? = some d) (h7 : s0.length ≤ 7) (h : ¬ flip p.1 d ∈ es.map (·.1)) : BD bs s0 i p (t + 1) (d + 1) (es ++ [(flip p.1 d, p.2 ++ [d])]) := by
  obtain ⟨hm, hD, d0, d6⟩ := B.free hd h7
  have mono : ∀ {e : Ent}, e ∈ es → e ∈ es ++ [(flip p.1 d, p.2 ++ [d])] := fun he => List.mem_append_left _ he
  refine ⟨?_, ?_, fun e he => ?_, ?_, fun j q hj hq x hx => ?_, fun x hx => ?_, (pw_drop (free_pw bs p.1) hd).1, mono B.root⟩
  · rw [List.map_append, List.nodup_append]
    refine ⟨B.nd, by simp, fun x hx y hy => ?_⟩
    rw [List.mem_singleton.mp hy]
    intro z
    have z' : x = flip p.1 d := z
    rw [z'] at hx
    exact h hx
  · rw [List.map_append]
    exact B.asc.add hD d0 d6
  · rcases List.mem_append.mp he with he | he
    · exact B.led e he
    · rw [List.mem_singleton.mp he]
      exact (B.led p (List.mem_of_getElem? B.at')).step hm h7
  · rw [List.getElem?_append_left (List.getElem?_eq_some_iff.mp B.at').1]
    exact B.at'
  · have hq' : es[j]? = some q := by
      have := (List.getElem?_eq_some_iff.mp B.at').1
      rw [List.getElem?_append_left (by omega)] at hq
      exact hq
    obtain ⟨e, he, h1⟩ := B.ex j q hj hq' x hx
    exact ⟨e, mono he, h1⟩
  · rcases mem_take_succ hd hx with hx | rfl
    · obtain ⟨e, he, h1⟩ := B.exd x hx
      exact ⟨e, mono he, h1⟩
    · exact ⟨_, List.mem_append_right _ (List.mem_singleton.mpr rfl), rfl, Int.le_refl _, by rw [List.length_append]; exact Nat.le_refl _⟩
/-- every row that goes ends where an entry stands whose row is not behind it -/
theorem BI.opt {bs : List Bar} {s0 : List Bool} {es : List Ent} (B : BI bs s0 es.length es) (h7 : s0.length ≤ 7) : ∀ (r : List Int), (∀ d ∈ r, 0 ≤ d ∧ d < s0.length) → ∀ st, runB bs s0 r = some st → ∃ e ∈ es, e.1 = st ∧ rcode e.2 ≤ rcode r ∧ e.2.length ≤ r.length := by
  intro r
  refine snoc_ind (p := fun (r : List Int) => (∀ d ∈ r, 0 ≤ d ∧ d < s0.length) → ∀ st, runB bs s0 r = some st → ∃ e ∈ es, e.1 = st ∧ rcode e.2 ≤ rcode r ∧ e.2.length ≤ r.length) (fun _ st h => ?_) (fun l d ih hl st h => ?_) r
  · cases h
    exact ⟨_, B.root, rfl, Int.le_refl _, Nat.le_refl _⟩
  · rw [runB_snoc] at h
    cases hr : runB bs s0 l with
    | none => rw [hr] at h; cases h
    | some s1 =>
      rw [hr, Option.bind_some] at h
      by_cases hg : goesB bs s1 d = true
      · rw [if_pos hg] at h
        cases h
        obtain ⟨e, he, h1, h2, h3⟩ := ih (fun x hx => hl x (List.mem_append_left _ hx)) s1 hr
        obtain ⟨j, hj⟩ := List.getElem?_of_mem he
        have el := (B.led e he).2.2
        have hdm : d ∈ freeL bs e.1 := free_mem.mpr ⟨by have := hl d (List.mem_append_right _ (List.mem_singleton.mpr rfl)); omega, by rw [h1]; exact hg⟩
        obtain ⟨f, hf, g1, g2, g3⟩ := B.ex j e (List.getElem?_eq_some_iff.mp hj).1 hj d hdm
        refine ⟨f, hf, by rw [g1, h1], ?_, ?_⟩
        · rw [rcode_snoc] at g2 ⊢
          omega
        · rw [List.length_append]
          show f.2.length ≤ l.length + 1
          omega
      · rw [if_neg hg] at h
        cases h
/-! ### there are not many standings -/
theorem few : ∀ (n : Nat) (l : List (List Bool)), l.Nodup → (∀ x ∈ l, x.length = n) → l.length ≤ 2 ^ n
  | 0, l, hn, h => by
    cases l with
    | nil => exact Nat.zero_le _
    | cons a l =>
      cases l with
      | nil => exact Nat.le_refl _
      | cons b l =>
        have h1 := List.length_eq_zero_iff.mp (h a (by simp))
        have h2 := List.length_eq_zero_iff.mp (h b (by simp))
        rw [h1, h2] at hn
        simp at hn
  | n + 1, l, hn, h => by
    have part : ∀ b : Bool, (l.filter fun x => x.head? == some b).length ≤ 2 ^ n := fun b => by
      have e : ((l.filter fun x => x.head? == some b).map List.tail).length = (l.filter fun x => x.head? == some b).length := List.length_map ..
      rw [← e]
      have hd : ∀ x ∈ l.filter fun x => x.head? == some b, x = b :: x.tail := fun x hx => by
        have := (List.mem_filter.mp hx).2
        cases x with
        | nil => cases this
        | cons c x =>
          have : some c = some b := eq_of_beq this
          cases this
          rfl
      refine few n _ ?_ fun x hx => ?_
      · have h1 : (l.filter fun x => x.head? == some b).Nodup := hn.filter _
        unfold List.Nodup at h1 ⊢
        rw [List.pairwise_map]
        refine List.Pairwise.imp_of_mem (fun {x y} hx hy q z => q ?_) h1
        rw [hd x hx, hd y hy, z]
      · obtain ⟨y, hy, rfl⟩ := List.mem_map.mp hx
        rw [List.length_tail, h y (List.mem_filter.mp hy).1]
        rfl
    have split : l.length = (l.filter fun x => x.head? == some true).length + (l.filter fun x => x.head? == some false).length := by
      clear part hn
      induction l with
      | nil => rfl
      | cons a l ih =>
        have := ih fun x hx => h x (List.mem_cons_of_mem _ hx)
        have ha := h a List.mem_cons_self
        cases a with
        | nil => cases ha
        | cons c a =>
          cases c
          · rw [List.filter_cons_of_neg (by simp), List.filter_cons_of_pos (by simp), List.length_cons, List.length_cons]
            omega
          · rw [List.filter_cons_of_pos (by simp), List.filter_cons_of_neg (by simp), List.length_cons, List.length_cons]
            omega
    have p1 := part true
    have p2 := part false
    rw [Nat.pow_succ]
    omega
end DL

set_option Elab.async false
set_option maxRecDepth 100000
namespace DL
open PySem L2 HT TL
/-! ### a dict that is made within a for's head is read only from then on -/
/-! ### rows in a dict -/
abbrev KEnt := Addr × Ent
def kvsOf (ks : List KEnt) : List (Key × V) := ks.map fun k => (.inr (sstr k.2.1), .ref k.1)
structure RowsEl (H : Hp) (ks : List KEnt) : Prop where
  el : ∀ k ∈ ks, H k.1 = some (.tup (k.2.2.map V.int))
theorem RowsEl.same {H H' : Hp} {ks : List KEnt} (R : RowsEl H ks) (s : Same H H') : RowsEl H' ks := ⟨fun k hk => s _ _ (R.el k hk)⟩
end DL

set_option Elab.async false
set_option maxRecDepth 100000
namespace DL
open PySem L2 HT TL
/-! ### all rows, one pull longer at each turn; the first one that leads to a standing -/
theorem nd_eq {es : List Ent} (nd : (es.map (·.1)).Nodup) : ∀ {a b : Ent}, a ∈ es → b ∈ es → a.1 = b.1 → a = b := by
  induction es with
  | nil => intro a b ha; cases ha
  | cons x es ih =>
    intro a b ha hb e
    rw [List.map_cons, List.nodup_cons] at nd
    rcases List.mem_cons.mp ha with qa | ha'
    · rcases List.mem_cons.mp hb with qb | hb'
      · rw [qa, qb]
      · have hm : x.1 ∈ es.map (·.1) := List.mem_map.mpr ⟨b, hb', by rw [← e, qa]⟩
        exact absurd hm nd.1
    · rcases List.mem_cons.mp hb with qb | hb'
      · have hm : x.1 ∈ es.map (·.1) := List.mem_map.mpr ⟨a, ha', by rw [e, qb]⟩
        exact absurd hm nd.1
      · exact ih nd.2 ha' hb' e
structure LI (bs : List Bar) (s0 : List Bool) (i : Nat) (cat fst : List Ent) : Prop where
  asc : Asc (cat.map (·.2)) i
  led : ∀ e ∈ cat, Led bs s0 e
  ex : ∀ (j : Nat) (p : Ent), j < i → cat[j]? = some p → ∀ d ∈ freeL bs p.1, (flip p.1 d, p.2 ++ [d]) ∈ cat
  root : (s0, []) ∈ cat
  fnd : (fst.map (·.1)).Nodup
  fin : ∀ e ∈ fst, e ∈ cat
  fco : ∀ x ∈ cat, ∃ e ∈ fst, e.1 = x.1 ∧ rcode e.2 ≤ rcode x.2
structure LD (bs : List Bar) (s0 : List Bool) (i : Nat) (p : Ent) (t : Nat) (D : Int) (cat fst : List Ent) : Prop where
  asc : AscD (cat.map (·.2)) i p.2 D
  led : ∀ e ∈ cat, Led bs s0 e
  at' : cat[i]? = some p
  ex : ∀ (j : Nat) (p : Ent), j < i → cat[j]? = some p → ∀ d ∈ freeL bs p.1, (flip p.1 d, p.2 ++ [d]) ∈ cat
  exd : ∀ d ∈ (freeL bs p.1).take t, (flip p.1 d, p.2 ++ [d]) ∈ cat
  dle : ∀ d ∈ (freeL bs p.1).drop t, D ≤ d
  root : (s0, []) ∈ cat
  fnd : (fst.map (·.1)).Nodup
  fin : ∀ e ∈ fst, e ∈ cat
  fco : ∀ x ∈ cat, ∃ e ∈ fst, e.1 = x.1 ∧ rcode e.2 ≤ rcode x.2
theorem LD.done {bs : List Bar} {s0 : List Bool} {i : Nat} {p : Ent} {D : Int} {cat fst : List Ent} (B : LD bs s0 i p (freeL bs p.1).length D cat fst) : LI bs s0 (i + 1) cat fst := by
  refine ⟨B.asc.done, B.led, fun j q hj hq => ?_, B.root, B.fnd, B.fin, B.fco⟩
  by_cases e : j = i
  · subst e
    rw [B.at'] at hq
    cases hq
    have := B.exd
    rw [List.take_length] at this
    exact this
  · exact B.ex j q (by omega) hq
theorem LD.free {bs : List Bar} {s0 : List Bool} {i : Nat} {p : Ent} {t : Nat} {D : Int} {cat fst : List Ent} (B : LD bs s0 i p t D cat fst) {d : Int} (hd : (freeL bs p.1)[t]? = some d) (h7 : s0.length ≤ 7) :
    d ∈ freeL bs p.1 ∧ D ≤ d ∧ 0 ≤ d ∧ d ≤ 6 := by
  have hm := List.mem_of_getElem? hd
  obtain ⟨d0, d1⟩ := free_in hm
  have := (B.led p (List.mem_of_getElem? B.at')).2.2
  obtain ⟨_, e⟩ := pw_drop (free_pw bs p.1) hd
  exact ⟨hm, B.dle d (by rw [e]; exact List.mem_cons_self), d0, by omega⟩
def addF (fst : List Ent) (e : Ent) : List Ent := if e.1 ∈ fst.map (·.1) then fst else fst ++ [e]
theorem LD.add {bs : List Bar} {s0 : List Bool} {i : Nat} {p : Ent} {t : Nat} {D : Int} {cat fst : List Ent} (B : LD bs s0 i p t D cat fst) {d : Int} (hd : (freeL bs p.1)[t]? = some d) (h7 : s0.length ≤ 7) :
    LD bs s0 i p (t + 1) (d + 1) (cat ++ [(flip p.1 d, p.2 ++ [d])]) (addF fst (flip p.1 d, p.2 ++ [d])) := by
  obtain ⟨hm, hD, d0, d6⟩ := B.free hd h7
  have mono : ∀ {e : Ent}, e ∈ cat → e ∈ cat ++ [(flip p.1 d, p.2 ++ [d])] := fun he => List.mem_append_left _ he
  have last : (flip p.1 d, p.2 ++ [d]) ∈ cat ++ [(flip p.1 d, p.2 ++ [d])] := List.mem_append_right _ (List.mem_singleton.mpr rfl)
  have fsub : ∀ {e : Ent}, e ∈ fst → e ∈ addF fst (flip p.1 d, p.2 ++ [d]) := fun he => by
    unfold addF
    by_cases z : (flip p.1 d, p.2 ++ [d]).1 ∈ fst.map (·.1)
    · rw [if_pos z]; exact he
    · rw [if_neg z]; exact List.mem_append_left _ he
  refine ⟨?_, fun e he => ?_, ?_, fun j q hj hq x hx => ?_, fun x hx => ?_, (pw_drop (free_pw bs p.1) hd).1, mono B.root, ?_, fun e he => ?_, fun x hx => ?_⟩
  · rw [List.map_append]
    exact B.asc.add hD d0 d6
  · rcases List.mem_append.mp he with he | he
    · exact B.led e he
    · rw [List.mem_singleton.mp he]
      exact (B.led p (List.mem_of_getElem? B.at')).step hm h7
  · rw [List.getElem?_append_left (List.getElem?_eq_some_iff.mp B.at').1]
    exact B.at'
  · have hq' : cat[j]? = some q := by
      have := (List.getElem?_eq_some_iff.mp B.at').1
      rw [List.getElem?_append_left (by omega)] at hq
      exact hq
    exact mono (B.ex j q hj hq' x hx)
  · rcases mem_take_succ hd hx with hx | rfl
    · exact mono (B.exd x hx)
    · exact last
  · unfold addF
    by_cases z : (flip p.1 d, p.2 ++ [d]).1 ∈ fst.map (·.1)
    · rw [if_pos z]; exact B.fnd
    · rw [if_neg z, List.map_append, List.nodup_append]
      refine ⟨B.fnd, by simp, fun x hx y hy q => ?_⟩
      have e1 : y = (flip p.1 d, p.2 ++ [d]).1 := List.mem_singleton.mp hy
      rw [← e1, ← q] at z
      exact z hx
  · unfold addF at he
    by_cases z : (flip p.1 d, p.2 ++ [d]).1 ∈ fst.map (·.1)
    · rw [if_pos z] at he; exact mono (B.fin e he)
    · rw [if_neg z] at he
      rcases List.mem_append.mp he with he | he
      · exact mono (B.fin e he)
      · rw [List.mem_singleton.mp he]; exact last
  · rcases List.mem_append.mp hx with hx | hx
    · obtain ⟨e, he, h1⟩ := B.fco x hx
      exact ⟨e, fsub he, h1⟩
    · rw [List.mem_singleton.mp hx]
      by_cases z : (flip p.1 d, p.2 ++ [d]).1 ∈ fst.map (·.1)
      · obtain ⟨e, he, h1⟩ := List.mem_map.mp z
        have := (B.asc.below hD d0 e.2 (List.mem_map.mpr ⟨e, B.fin e he, rfl⟩)).1
        exact ⟨e, fsub he, h1, Int.le_of_lt this⟩
      · refine ⟨_, ?_, rfl, Int.le_refl _⟩
        unfold addF
        rw [if_neg z]
        exact List.mem_append_right _ (List.mem_singleton.mpr rfl)
/-- those from the i-th on have k pulls, none has more -/
structure LV (k i : Nat) (cat : List Ent) : Prop where
  le : ∀ x ∈ cat, x.2.length ≤ k
  eq : ∀ x ∈ cat.drop i, x.2.length = k
theorem LI.all {bs : List Bar} {s0 : List Bool} {i k : Nat} {cat fst : List Ent} (B : LI bs s0 i cat fst) (V : LV k i cat) : ∀ (r : List Int), (∀ d ∈ r, 0 ≤ d ∧ d < s0.length) → r.length ≤ k → ∀ st, runB bs s0 r = some st → (st, r) ∈ cat := by
  intro r
  refine snoc_ind (p := fun (r : List Int) => (∀ d ∈ r, 0 ≤ d ∧ d < s0.length) → r.length ≤ k → ∀ st, runB bs s0 r = some st → (st, r) ∈ cat) (fun _ _ st h => ?_) (fun l d ih hl hk st h => ?_) r
  · cases h
    exact B.root
  · rw [List.length_append] at hk
    have hk : l.length + 1 ≤ k := hk
    rw [runB_snoc] at h
    cases hr : runB bs s0 l with
    | none => rw [hr] at h; cases h
    | some s1 =>
      rw [hr, Option.bind_some] at h
      by_cases hg : goesB bs s1 d = true
      · rw [if_pos hg] at h
        cases h
        have hm := ih (fun x hx => hl x (List.mem_append_left _ hx)) (by omega) s1 hr
        obtain ⟨j, hj⟩ := List.getElem?_of_mem hm
        have el := (B.led _ hm).2.2
        have el : s1.length = s0.length := el
        have hji : j < i := by
          rcases Nat.lt_or_ge j i with h | h
          · exact h
          · have : (s1, l) ∈ cat.drop i := by
              have e : (cat.drop i)[j - i]? = some (s1, l) := by
                rw [List.getElem?_drop, show i + (j - i) = j by omega]
                exact hj
              exact List.mem_of_getElem? e
            have := V.eq _ this
            have : l.length = k := this
            omega
        exact B.ex j _ hji hj d (free_mem.mpr ⟨by have := hl d (List.mem_append_right _ (List.mem_singleton.mpr rfl)); show 0 ≤ d ∧ d < s1.length; omega, hg⟩)
      · rw [if_neg hg] at h
        cases h
/-! ### a standing as a pattern -/
end DL

set_option Elab.async false
set_option maxRecDepth 100000

set_option Elab.async false
set_option maxRecDepth 100000
namespace DL
open PySem L2 HT TL
/-! ### two queues that came to their end hold the same -/
theorem sub_asc {es es' : List Ent} (h1 : (es.map (·.2)).Pairwise Bef) (h2 : (es'.map (·.2)).Pairwise Bef) (hs : ∀ e, e ∈ es ↔ e ∈ es') : es = es' := by
  induction es generalizing es' with
  | nil =>
    cases es' with
    | nil => rfl
    | cons b es' => exact absurd ((hs b).mpr List.mem_cons_self) (by simp)
  | cons a es ih =>
    cases es' with
    | nil => exact absurd ((hs a).mp List.mem_cons_self) (by simp)
    | cons b es' =>
      rw [List.map_cons, List.pairwise_cons] at h1 h2
      have hab : a = b := by
        rcases List.mem_cons.mp ((hs a).mp List.mem_cons_self) with q | q
        · exact q
        · rcases List.mem_cons.mp ((hs b).mpr List.mem_cons_self) with q' | q'
          · exact q'.symm
          · have z1 := (h1.1 b.2 (List.mem_map.mpr ⟨b, q', rfl⟩)).1
            have z2 := (h2.1 a.2 (List.mem_map.mpr ⟨a, q, rfl⟩)).1
            omega
      subst hab
      congr 1
      refine ih h1.2 h2.2 fun e => ⟨fun he => ?_, fun he => ?_⟩
      · rcases List.mem_cons.mp ((hs e).mp (List.mem_cons_of_mem _ he)) with q | q
        · have z1 := (h1.1 e.2 (List.mem_map.mpr ⟨e, he, rfl⟩)).1
          rw [q] at z1
          omega
        · exact q
      · rcases List.mem_cons.mp ((hs e).mpr (List.mem_cons_of_mem _ he)) with q | q
        · have z1 := (h2.1 e.2 (List.mem_map.mpr ⟨e, he, rfl⟩)).1
          rw [q] at z1
          omega
        · exact q
theorem BI.sub {bs : List Bar} {s0 : List Bool} {es es' : List Ent} (I : BI bs s0 es.length es) (I' : BI bs s0 es'.length es') (h7 : s0.length ≤ 7) {e : Ent} (he : e ∈ es) : e ∈ es' := by
  obtain ⟨m1, ⟨m2, m3⟩, m4⟩ := I.led e he
  obtain ⟨f, hf, g1, g2, _⟩ := I'.opt h7 e.2 m3 e.1 m1
  obtain ⟨n1, ⟨n2, n3⟩, n4⟩ := I'.led f hf
  obtain ⟨e', he', k1, k2, _⟩ := I.opt h7 f.2 n3 f.1 n1
  have : e' = e := nd_eq I.nd he' he (by rw [k1, g1])
  subst this
  have : f = e' := Prod.ext g1 (rcode_inj n2 m2 (by omega))
  rw [← this]
  exact hf
theorem BI.same {bs : List Bar} {s0 : List Bool} {es es' : List Ent} (I : BI bs s0 es.length es) (I' : BI bs s0 es'.length es') (h7 : s0.length ≤ 7) : es = es' :=
  sub_asc I.asc.pw I'.asc.pw fun _ => ⟨I.sub I' h7, I'.sub I h7⟩
/-! ### sorted texts -/
/-! ### (len(a), a) < (len(b), b) -/
end DL

set_option Elab.async false
set_option maxRecDepth 100000

set_option Elab.async false
set_option maxRecDepth 100000

set_option Elab.async false
set_option maxRecDepth 100000
namespace DL
open PySem L2 HT TL RZ
/-! ### patterns of sets -/
theorem SqA.same {K : PySem.W.Frag} {H H' : Hp} {a : Addr} {xs : List V} (s : Same H H') (h : SqA K H a xs) : SqA K H' a xs := by
  rcases h with h | h
  · exact .inl (s.seq h)
  · exact .inr (SqT.same s h)
end DL

set_option Elab.async false
set_option maxRecDepth 100000
namespace DL
open PySem L2 HT TL
/-! ### walks over a dict of rows -/
/-- a dict of rows, locked from its making on -/
structure RowsFrz (H : Hp) (a : Addr) (od : Obj) (ks : List KEnt) : Prop where
  at' : H a = some (.frz od (.dK (kvsOf ks)))
  el : RowsEl H ks
theorem RowsFrz.same {H H' : Hp} {a : Addr} {od : Obj} {ks : List KEnt} (R : RowsFrz H a od ks) (s : Same H H') : RowsFrz H' a od ks := ⟨s _ _ R.at', R.el.same s⟩
theorem RowsFrz.but {r sc : Addr} {H H' : Hp} {a : Addr} {od : Obj} {ks : List KEnt} (R : RowsFrz H a od ks) (hR : RowOk H r sc) (B : But r H H') : RowsFrz H' a od ks := by
  obtain ⟨_, _, _, h, _⟩ := hR.h
  exact ⟨B _ _ (ne_of R.at' h (by intro z; cases z)) R.at', ⟨fun k hk => B.tup h (R.el.el k hk)⟩⟩
end DL

set_option Elab.async false
set_option maxRecDepth 100000
namespace DL
open PySem L2 HT TL RZ
structure PairsAt (H : Hp) (qs : List (Addr × Int × Int)) : Prop where
  el : ∀ q ∈ qs, H q.1 = some (.tup [.int q.2.1, .int q.2.2])
theorem PairsAt.same {H H' : Hp} {qs : List (Addr × Int × Int)} (A : PairsAt H qs) (s : Same H H') : PairsAt H' qs := ⟨fun q hq => s _ _ (A.el q hq)⟩
def never (es : List Ent) (p : Int × Int) : Bool := !(es.any fun e => sat e.1 p.1 && sat e.1 p.2)
end DL

set_option Elab.async false
set_option maxRecDepth 100000
set_option maxHeartbeats 1000000

set_option Elab.async false
set_option maxRecDepth 100000
set_option maxHeartbeats 1000000

set_option Elab.async false
set_option maxRecDepth 100000
set_option maxHeartbeats 1000000
namespace DL
open PySem L2 HT TL RZ
/-! ### a dict with standings as keys -/
def tabV (rs : List (List Bool)) (f : List Bool → V) : List (Key × V) := rs.map fun st => (.inr (sstr st), f st)
theorem key_ne {a b : List Bool} (h : a ≠ b) : ¬ ((.inr (sstr a) : Key) = .inr (sstr b)) := fun z => h (sstr_inj (by injection z))
theorem tab_val (rs : List (List Bool)) (f : List Bool → V) (st : List Bool) : valV (tabV rs f) (.inr (sstr st)) = if st ∈ rs then some (f st) else none := by
  induction rs with
  | nil => rfl
  | cons a rs ih =>
    by_cases e : a = st
    · subst e
      rw [if_pos List.mem_cons_self]
      exact valV_pos rfl
    · have e2 : valV (tabV (a :: rs) f) (.inr (sstr st)) = valV (tabV rs f) (.inr (sstr st)) := valV_neg (key_ne e)
      rw [e2, ih]
      have : (st ∈ a :: rs) ↔ st ∈ rs := ⟨fun h => (List.mem_cons.mp h).resolve_left fun z => e z.symm, List.mem_cons_of_mem _⟩
      simp only [this]
/-! ### levels of standings, and how often one stands in a level -/
end DL

set_option Elab.async false
set_option maxRecDepth 100000
set_option maxHeartbeats 2000000
namespace DL
open PySem L2 HT TL RZ
/-! ### o[i] += x of a dict -/
/-! ### the pulls of each reached standing -/
structure PulEl (H : Hp) (bs : List Bar) (l : Addr) (st : List Bool) : Prop where
  h : ∃ ts : List (Addr × Int), H l = some (.lst (ts.map fun t => V.ref t.1)) ∧ ts.map (·.2) = freeL bs st ∧ ∀ t ∈ ts, H t.1 = some (.tup [.int t.2, .str (sstr (flip st t.2))])
theorem PulEl.mono {H H' : Hp} {bs : List Bar} {l : Addr} {st : List Bool} (p : PulEl H bs l st) (h1 : ∀ b xs, H b = some (.lst xs) → H' b = some (.lst xs)) (h2 : ∀ b xs, H b = some (.tup xs) → H' b = some (.tup xs)) : PulEl H' bs l st := by
  obtain ⟨ts, a, b, c⟩ := p.h
  exact ⟨⟨ts, h1 _ _ a, b, fun t ht => h2 _ _ (c t ht)⟩⟩
theorem PulEl.same {H H' : Hp} {bs : List Bar} {l : Addr} {st : List Bool} (p : PulEl H bs l st) (s : Same H H') : PulEl H' bs l st := p.mono (fun _ _ => s _ _) fun _ _ => s _ _
theorem PulEl.upd {H : Hp} {bs : List Bar} {l D : Addr} {st : List Bool} {o : HO} {kvs : List (Key × V)} (p : PulEl H bs l st) (hD : H D = some (.dK kvs)) : PulEl (upd H D o) bs l st := by
  refine p.mono (fun b xs h => ?_) fun b xs h => ?_
  · rw [upd_ne (ne_of h hD (by intro z; cases z))]
    exact h
  · rw [upd_ne (ne_of h hD (by intro z; cases z))]
    exact h
def PulsAt (H : Hp) (bs : List Bar) (rs : List (List Bool)) (f : List Bool → V) : Prop := ∀ st ∈ rs, ∃ l, f st = .ref l ∧ PulEl H bs l st
theorem PulsAt.same {H H' : Hp} {bs : List Bar} {rs : List (List Bool)} {f : List Bool → V} (p : PulsAt H bs rs f) (s : Same H H') : PulsAt H' bs rs f := fun st h => by
  obtain ⟨l, e, q⟩ := p st h
  exact ⟨l, e, q.same s⟩
theorem PulsAt.upd {H : Hp} {bs : List Bar} {rs : List (List Bool)} {f : List Bool → V} {D : Addr} {o : HO} {kvs : List (Key × V)} (p : PulsAt H bs rs f) (hD : H D = some (.dK kvs)) : PulsAt (upd H D o) bs rs f := fun st h => by
  obtain ⟨l, e, q⟩ := p st h
  exact ⟨l, e, q.upd hD⟩
end DL

set_option Elab.async false
set_option maxRecDepth 100000
set_option maxHeartbeats 2000000
namespace DL
open PySem L2 HT TL RZ
def cnV (g : List Bool → Nat) : List Bool → V := fun st => .int (g st : Nat)
end DL

set_option Elab.async false
set_option maxRecDepth 100000
set_option maxHeartbeats 2000000
namespace DL
open PySem L2 HT TL RZ
section
variable {P : Program} {w : World} {K : PySem.W.Frag} {mg : Str → Option Value} {base : Heap}
theorem scCR : FnScope ["cabinet", "length"] ["cabinet", "length"] (defScope s_count_rows) := ⟨rfl, rfl, rfl, by decide +kernel, rfl, by decide +kernel, by decide +kernel⟩
end
end DL

set_option Elab.async false
set_option maxRecDepth 100000
set_option maxHeartbeats 1000000
namespace DL
open PySem L2 HT TL RZ
/-! ### a dict that counts -/
structure Acc (ks : List (List Bool)) (F : List Bool → Nat) : Prop where
  nd : ks.Nodup
  iff : ∀ b, b ∈ ks ↔ 0 < F b
theorem Acc.val {ks : List (List Bool)} {F : List Bool → Nat} (A : Acc ks F) (x : List Bool) : (valV (tabV ks (cnV F)) (.inr (sstr x))).getD (.int 0) = .int (F x : Nat) := by
  rw [tab_val]
  by_cases m : x ∈ ks
  · rw [if_pos m]
    rfl
  · rw [if_neg m]
    have e : F x = 0 := by
      have : ¬ 0 < F x := fun h => m ((A.iff x).mpr h)
      omega
    rw [e]
    rfl
theorem Acc.small {ks : List (List Bool)} {n : Nat} {F : List Bool → Nat} (A : Acc ks F) (hl : ∀ b, 0 < F b → b.length = n) (n7 : n ≤ 7) : ks.length ≤ 128 := by
  have := few n ks A.nd fun x hx => hl x ((A.iff x).mp hx)
  have h2 : 2 ^ n ≤ 2 ^ 7 := Nat.pow_le_pow_right (by decide) n7
  have h3 : (2 : Nat) ^ 7 = 128 := rfl
  omega
/-! ### counts that are refused -/
structure spCtX (K : PySem.W.Frag) (C CN : Addr) (vs : List V) (H : Hp) (_ : VK) (E : XK) : Prop where
  h : ∃ (c : Addr) (v : V) (n : Int) (t : Addr), vs = [.ref c, v] ∧ CabAt C H c n t ∧ BadLen K H 60 v ∧ exIni CN "n" v H E
section
variable {P : Program} {w : World} {K : PySem.W.Frag} {mg : Str → Option Value} {base : Heap}
theorem ok_countRowsX {f f0 f1 C CN : Addr} {fd fd0 fd1 : FuncData} (F : Fun K "count_rows" "count_rows" s_count_rows f fd) (gM : ∃ t, mg "MOST_PULLS" = some (.int 60 t))
    (G0 : FnOk P w K mg base CX0 1 f0 fd0 ["cabinet"] (spCkCab C)) (g0 : mg "check_cabinet" = some (.ref f0)) (k0 : PySem.W.keepIn K (.ref f0) = true) (b0 : Binds K fd0 ["cabinet"] [])
    (G1 : FnOk P w K mg base (L2.CX P w) 4 f1 fd1 ["value", "least", "most"] (spCkLen K CN)) (g1 : mg "check_number" = some (.ref f1)) (k1 : PySem.W.keepIn K (.ref f1) = true) (b1 : Binds K fd1 ["value", "least", "most"] []) :
    FnOk P w K mg base (L2.CX P w) 6 f fd ["cabinet", "length"] (spCtX K C CN) := by
  refine F.okX scCR (fun vs H Q E h => ?_) (fun cdv A outer s H vs Q E hr h => ?_)
  · obtain ⟨c, v, n, t, rfl, _⟩ := h.h
    rfl
  · obtain ⟨c, v, n, t, rfl, hc, hv, ke⟩ := h.h
    obtain ⟨tM, gM⟩ := gM
    refine ⟨_, pss_cons (ps_expr (pe_call G0 (hr.mono (by decide)) rfl g0 k0 b0 .nil pass0 (pa_cons (pv 0) pa_nil))) (pss_cons (ps_expr (pe_call G1 (hr.mono (by decide)) rfl g1 k1 b1 .nil (passes_call (E := E) (takes_of rfl rfl rfl rfl) (fun _ _ _ _ z => z)) (pa_cons (pv 1) (pa_cons pe_int (pa_cons (pe_glob (v := .int 60) rfl gM ⟨_, rfl⟩) pa_nil))))) pss_never), ?_⟩
    exact ⟨_, rfl, ⟨⟨c, n, t, rfl, hc, _, rfl, ⟨⟨v, 0, 60, rfl, .inl ⟨hv, ke⟩⟩⟩⟩⟩⟩
end
end DL

set_option Elab.async false
set_option maxRecDepth 100000
set_option maxHeartbeats 1000000
namespace DL
open PySem L2
/-! ### Cabinet.__init__ with what it raises -/
structure spInitX (K : PySem.W.Frag) (C CD CB : Addr) (vs : List V) (H : Hp) (Q : VK) (E : XK) : Prop where
  h : ∃ (p dx : Addr) (v b : V), vs = [.ref p, v, b] ∧ H p = some (.ins C dx []) ∧
    spCkDX K CD [v] H (fun _ H1 => spCkBX K CB [v, b] H1 (fun _ H2 => ∃ (n : Int) (t : Addr), v = .int n ∧ b = .ref t ∧ Same H H2 ∧ ∀ H', H' p = some (.ins C dx (cfl n t)) → (∀ c o, c ≠ p → H c = some o → H' c = some o) → Q .non H') E) E
theorem spCkDX.imp {K : PySem.W.Frag} {CD : Addr} {vs : List V} {H : Hp} {Q Q' : VK} {E : XK} (h : spCkDX K CD vs H Q E) (hq : ∀ u H', Q u H' → Q' u H') : spCkDX K CD vs H Q' E := by
  rcases h.h with ⟨n, e, k1, k2⟩ | h1
  · exact ⟨.inl ⟨n, e, fun z => hq _ _ (k1 z), k2⟩⟩
  · exact ⟨.inr h1⟩
theorem spCkBX.imp {K : PySem.W.Frag} {CB : Addr} {vs : List V} {H : Hp} {Q Q' : VK} {E : XK} (h : spCkBX K CB vs H Q E) (hq : ∀ u H', Q u H' → Q' u H') : spCkBX K CB vs H Q' E := by
  rcases h.h with ⟨n, t, ks, e, h1, h2, h3, k⟩ | h1
  · exact ⟨.inl ⟨n, t, ks, e, h1, h2, h3, fun H' s => hq _ _ (k H' s)⟩⟩
  · exact ⟨.inr h1⟩
section
variable {P : Program} {w : World} {K : PySem.W.Frag} {mg : Str → Option Value} {base : Heap}
theorem ok_initX {f f1 f2 C CD CB : Addr} {fd fd1 fd2 : FuncData} (F : Fun K "__init__" "Cabinet.__init__" sInit f fd) (T : CabT K mg C) (G1 : FnOk P w K mg base (L2.CX P w) 3 f1 fd1 ["drawers"] (spCkDX K CD)) (g1 : mg "check_drawers" = some (.ref f1)) (k1 : PySem.W.keepIn K (.ref f1) = true) (b1 : Binds K fd1 ["drawers"] [])
    (G2 : FnOk P w K mg base (L2.CX P w) 4 f2 fd2 ["drawers", "bars"] (spCkBX K CB)) (g2 : mg "check_bars" = some (.ref f2)) (k2 : PySem.W.keepIn K (.ref f2) = true) (b2 : Binds K fd2 ["drawers", "bars"] []) : FnOk P w K mg base (L2.CX P w) 5 f fd ["self", "drawers", "bars"] (spInitX K C CD CB) := by
  refine F.okX scInit (fun vs H Q E h => ?_) (fun cdv A outer s H vs Q E hr h => ?_)
  · obtain ⟨p, dx, v, b, rfl, _⟩ := h.h
    rfl
  · obtain ⟨p, dx, v, b, rfl, hp, k⟩ := h.h
    refine ⟨_, pss_cons (ps_expr (pe_call G1 (hr.mono (by decide)) rfl g1 k1 b1 .nil (passes_call (E := E) (takes_of rfl rfl rfl rfl) (fun _ _ _ _ z => z)) (pa_cons (pv 1) pa_nil))) (pss_cons (ps_expr (pe_call G2 (hr.mono (by decide)) rfl g2 k2 b2 .nil (passes_call (E := E) (takes_of rfl rfl rfl rfl) (fun _ _ _ _ z => z)) (pa_cons (pv 1) (pa_cons (pv 2) pa_nil))))
      (pss_cons (ps_fld (pv 0) (pv 1) rfl) (pss_one (ps_fld (pv 0) (pv 2) rfl)))), ?_⟩
    refine ⟨_, rfl, k.imp fun _ H1 hB => ⟨_, rfl, _, rfl, hB.imp fun _ H2 hq => ?_⟩⟩
    obtain ⟨n, t, rfl, rfl, s2, kq⟩ := hq
    refine ⟨_, rfl, _, rfl, p, C, dx, _, rfl, s2 _ _ hp, T.cl, T.nD, (by show 0 < 1000; decide), _, rfl, _, rfl, p, C, dx, _, rfl, upd_same, T.cl, T.nB, (by show 1 < 1000; decide), ?_⟩
    refine kq _ upd_same fun b o hb e => ?_
    rw [upd_ne hb, upd_ne hb]
    exact s2 _ _ e
end
end DL

set_option Elab.async false
set_option maxRecDepth 100000
set_option maxHeartbeats 2000000
namespace DL
open PySem PySem.Spec PyProof.Rows L2 HT TL
theorem ite_same {x y : V} {A B : Prop} (h : x = y) (a : A) : if decide (x = y) = true then A else B := by
  rw [if_pos (decide_eq_true h)]
  exact a
theorem ite_else {x y : V} {A B : Prop} (h : x ≠ y) (b : B) : if decide (x = y) = true then A else B := by
  rw [if_neg fun z => h (of_decide_eq_true z)]
  exact b
theorem mk_calm {C c dx : Addr} {H1 : Hp} {n : Int} {t : Addr} {ks : List (Addr × Bar)} {Q : Hp → Prop} {E : XK} (nc : H1 c = none) (ndx : H1 dx = none) (h1 : 1 ≤ n) (h7 : n ≤ 7) (hB : BarsAt H1 t ks) (hO : OkBars n (ks.map (·.2))) (k : ∀ H4, Same H1 H4 → CabAt C H4 c n t → Q H4) :
    spInit C [.ref c, .int n, .ref t] (upd (upd H1 dx (.own c)) c (.ins C dx [])) (fun v H2 => v = .non ∧ Q H2) E := by
  have s2 : Same H1 (upd (upd H1 dx (.own c)) c (.ins C dx [])) := fun b o e => by
    rw [upd_ne (ne_of_none e nc), upd_ne (ne_of_none e ndx)]
    exact e
  refine ⟨⟨c, dx, n, t, ks, rfl, upd_same, h1, h7, hB.same s2, hO, fun H4 hx kp => ⟨rfl, ?_⟩⟩⟩
  exact k H4 (fun b o e => kp b o (ne_of_none e nc) (s2 b o e)) ⟨dx, hx⟩
theorem kit_ilt {K : PySem.W.Frag} : PySem.W.kitAny K (.type "int") [.type "list", .type "tuple"] = some false := by
  have h1 : PySem.W.kitOne K (.type "int") (.type "list") = some false := kit_ty (by decide +kernel)
  have h2 : PySem.W.kitOne K (.type "int") (.type "tuple") = some false := kit_ty (by decide +kernel)
  simp [PySem.W.kitAny, h1, h2]
theorem same_made {H H1 : Hp} {x dx C : Addr} (s : Same H H1) (nx : H1 x = none) (ndx : H1 dx = none) : Same H (upd (upd H1 dx (.own x)) x (.ins C dx [])) := fun b o e => by
  rw [upd_ne (ne_of_none (s _ _ e) nx), upd_ne (ne_of_none (s _ _ e) ndx)]
  exact s _ _ e
theorem bars_nil {H : Hp} {t : Addr} (h : H t = some (.tup [])) : BarsAt H t [] := ⟨h, fun k hk => by cases hk⟩
theorem okb_nil (n : Int) : OkBars n (([] : List (Addr × Bar)).map (·.2)) := ⟨fun _ h => (by cases h), List.Pairwise.nil⟩
theorem ini_any {C : Addr} {fld : Str} {x : V} {H : Hp} {E : XK} (k : exAny C H E) : exIni C fld x H E := fun d H' _ s _ => k _ H' s
theorem ini_bad {C : Addr} {x : V} {H : Hp} {E : XK} (k : exAny C H E) : exBad C x H E := fun d H' _ s _ => k _ H' s
/-- one wrong call for each error, the first ones -/
structure spEarly (C : Addr) (L : List Addr) (vs : List V) (H : Hp) (_ : VK) (E : XK) : Prop where
  h : ∃ (kd : Nat) (c t CE : Addr), vs = [.int kd, .ref c] ∧ kd < 7 ∧ CabAt C H c 2 t ∧ L[kd]? = some CE ∧ exAny CE H E
section
variable {P : Program} {w : World} {K : PySem.W.Frag} {mg : Str → Option Value} {base : Heap}
abbrev nEar : List Str := ["_law_kind", "_law_cabinet"]
theorem scEar : FnScope nEar nEar (defScope s__law_early) := ⟨rfl, rfl, rfl, by decide +kernel, rfl, by decide +kernel, by decide +kernel⟩
theorem ok_early {f fI fD fU f2 f3 f4 f6 C D C0 C1 C2 C3 C4 C5 C6 C7 C8 C9 C10 C11 C12 C13 : Addr} {fd dI dD dU fd2 fd3 fd4 fd6 : FuncData} (F : Fun K "_law_early" "_law_early" s__law_early f fd) (gC : mg "Cabinet" = some (.ref C))
    (MC : Mk K C fI) (GI : FnOk P w K mg base (L2.CX P w) 5 fI dI ["self", "drawers", "bars"] (spInitX K C C0 C1)) (bI : Binds K dI ["self", "drawers", "bars"] [])
    (G2 : FnOk P w K mg base (L2.CX P w) 4 f2 fd2 ["cabinet"] (spN1 K C C2)) (g2 : mg "reached" = some (.ref f2)) (k2 : PySem.W.keepIn K (.ref f2) = true) (b2 : Binds K fd2 ["cabinet"] [])
    (G3 : FnOk P w K mg base (L2.CX P w) 6 f3 fd3 ["cabinet", "standing"] (spBadS K C "os" C3)) (g3 : mg "can" = some (.ref f3)) (k3 : PySem.W.keepIn K (.ref f3) = true) (b3 : Binds K fd3 ["cabinet", "standing"] [])
    (G4 : FnOk P w K mg base (L2.CX P w) 6 f4 fd4 ["cabinet", "pattern"] (spBadS K C "os?" C4)) (g4 : mg "row_to" = some (.ref f4)) (k4 : PySem.W.keepIn K (.ref f4) = true) (b4 : Binds K fd4 ["cabinet", "pattern"] [])
    (T : DeskT K mg D) (MD : Mk K D fD) (GD : FnOk P w K mg base CX0 3 fD dD ["self", "cabinet"] (spDeskI D C)) (bD : Binds K dD ["self", "cabinet"] [])
    (U : Meth K D "pull" fU) (GU : FnOk P w K mg base (L2.CX P w) 5 fU dU ["self", "drawer"] (spPullX D C C5)) (bU : Binds K dU ["self", "drawer"] [])
    (G6 : FnOk P w K mg base (L2.CX P w) 8 f6 fd6 ["cabinet", "some"] (spSetX K C C6)) (g6 : mg "paper" = some (.ref f6)) (k6 : PySem.W.keepIn K (.ref f6) = true) (b6 : Binds K fd6 ["cabinet", "some"] []) (nI : PySem.W.kitOne K (.type "int") (.ref C) = some false) :
    FnOk P w K mg base (L2.CX P w) 10 f fd nEar (spEarly C [C0, C1, C2, C3, C4, C5, C6, C7, C8, C9, C10, C11, C12, C13]) := by
  refine F.okX scEar (fun vs H Q E h => ?_) (fun cdv A outer s H vs Q E hr h => ?_)
  · obtain ⟨kd, c, t, CE, rfl, _⟩ := h.h
    rfl
  · obtain ⟨kd, c, t, CE, rfl, h7, hc, hl, k⟩ := h.h
    have pas := passes_call (X := cxOf (L2.CX P w) P w K mg base nEar "_law_early" (defScope s__law_early) f cdv A outer s H E) (E := E) (takes_of rfl rfl rfl rfl) (fun _ _ _ _ z => z)
    refine ⟨_, pss_one (ps_if (pt_cmpR op_eq (pv 0) pe_int (nomark _)) (pss_one (ps_expr (pe_mkS MC GI (hr.mono (by decide)) rfl gC bI (fun σ pins H0 => pas pins σ H0) (pa_cons pe_int (pa_cons (pe_tup pa_nil) pa_nil)))))
      (pss_one (ps_if (pt_cmpR op_eq (pv 0) pe_int (nomark _)) (pss_one (ps_expr (pe_mkS MC GI (hr.mono (by decide)) rfl gC bI (fun σ pins H0 => pas pins σ H0) (pa_cons pe_int (pa_cons (pe_tup (pa_cons pe_int pa_nil)) pa_nil)))))
      (pss_one (ps_if (pt_cmpR op_eq (pv 0) pe_int (nomark _)) (pss_one (ps_expr (pe_call G2 (hr.mono (by decide)) rfl g2 k2 b2 .nil pas (pa_cons pe_int pa_nil))))
      (pss_one (ps_if (pt_cmpR op_eq (pv 0) pe_int (nomark _)) (pss_one (ps_expr (pe_call G3 (hr.mono (by decide)) rfl g3 k3 b3 .nil pas (pa_cons (pv 1) (pa_cons pe_str pa_nil)))))
      (pss_one (ps_if (pt_cmpR op_eq (pv 0) pe_int (nomark _)) (pss_one (ps_expr (pe_call G4 (hr.mono (by decide)) rfl g4 k4 b4 .nil pas (pa_cons (pv 1) (pa_cons pe_str pa_nil)))))
      (pss_one (ps_if (pt_cmpR op_eq (pv 0) pe_int (nomark _)) (pss_one (ps_expr (pe_meth (pe_make MD GD (hr.mono (by decide)) rfl T.mgD bD .nil pass0 (pa_cons (pv 1) pa_nil)) T.cl U GU (hr.mono (by decide)) bU .nil pas (pa_cons pe_int pa_nil))))
        (pss_one (ps_expr (pe_call G6 (hr.mono (by decide)) rfl g6 k6 b6 .nil pas (pa_cons (pv 1) (pa_cons pe_int pa_nil)))))))))))))))), ?_⟩
    have : kd = 0 ∨ kd = 1 ∨ kd = 2 ∨ kd = 3 ∨ kd = 4 ∨ kd = 5 ∨ kd = 6 := by omega
    rcases this with rfl | rfl | rfl | rfl | rfl | rfl | rfl <;> cases hl
    · refine ⟨_, rfl, rfl, _, rfl, ite_same rfl ?_⟩
      refine ⟨(by show 0 ≤ sizeLine; decide), fun q hq x dx nx ndx nex => ?_⟩
      exact ⟨⟨x, dx, .int 0, .ref q, rfl, upd_same, ⟨.inl ⟨0, rfl, fun z => absurd z.1 (by decide), fun _ => k none _ (same_made (same_upd hq) nx ndx)⟩⟩⟩⟩
    · refine ⟨_, rfl, rfl, _, rfl, ite_else (by decide) ?_⟩
      refine ⟨_, rfl, rfl, _, rfl, ite_same rfl ?_⟩
      refine ⟨(by show 1 ≤ sizeLine; decide), fun q hq x dx nx ndx nex => ?_⟩
      obtain ⟨sq, fq⟩ := new_at (o := .tup [.int 0]) hq
      generalize upd H q (.tup [.int 0]) = H1 at sq fq nx ndx ⊢
      have f2 : (upd (upd H1 dx (.own x)) x (.ins C dx [])) q = some (.tup [.int 0]) := by
        rw [upd_ne (ne_of_none fq nx), upd_ne (ne_of_none fq ndx)]
        exact fq
      refine ⟨⟨x, dx, .int 1, .ref q, rfl, upd_same, ⟨.inl ⟨1, rfl, fun _ => ⟨.inr (.inr ⟨1, q, [], .int 0, [], rfl, by decide, f2, fun k hk => (by cases hk), okb_nil 1, by decide, .inl (fun H' s => .inl ⟨.type "int", .base (.int _), kit_ty (by decide +kernel)⟩), fun H' s => ini_bad (k.at' ((same_made sq nx ndx).trans s))⟩)⟩, fun z => absurd ⟨by decide, by decide⟩ z⟩⟩⟩⟩
    · refine ⟨_, rfl, rfl, _, rfl, ite_else (by decide) ?_⟩
      refine ⟨_, rfl, rfl, _, rfl, ite_else (by decide) ?_⟩
      refine ⟨_, rfl, rfl, _, rfl, ite_same rfl ?_⟩
      exact ⟨⟨_, rfl, ⟨.type "int", fun _ _ => .base (.int _), nI⟩, k none _ (Same.refl _)⟩⟩
    · refine ⟨_, rfl, rfl, _, rfl, ite_else (by decide) ?_⟩
      refine ⟨_, rfl, rfl, _, rfl, ite_else (by decide) ?_⟩
      refine ⟨_, rfl, rfl, _, rfl, ite_else (by decide) ?_⟩
      refine ⟨_, rfl, rfl, _, rfl, ite_same rfl ?_⟩
      exact ⟨_, rfl, ⟨⟨c, .str "s", 2, t, rfl, hc, .inr ⟨"s", rfl, by decide +kernel, by decide +kernel⟩, fun H' s => k none H' s⟩⟩⟩
    · refine ⟨_, rfl, rfl, _, rfl, ite_else (by decide) ?_⟩
      refine ⟨_, rfl, rfl, _, rfl, ite_else (by decide) ?_⟩
      refine ⟨_, rfl, rfl, _, rfl, ite_else (by decide) ?_⟩
      refine ⟨_, rfl, rfl, _, rfl, ite_else (by decide) ?_⟩
      refine ⟨_, rfl, rfl, _, rfl, ite_same rfl ?_⟩
      exact ⟨_, rfl, ⟨⟨c, .str "x", 2, t, rfl, hc, .inr ⟨"x", rfl, by decide +kernel, by decide +kernel⟩, fun H' s => k none H' s⟩⟩⟩
    · refine ⟨_, rfl, rfl, _, rfl, ite_else (by decide) ?_⟩
      refine ⟨_, rfl, rfl, _, rfl, ite_else (by decide) ?_⟩
      refine ⟨_, rfl, rfl, _, rfl, ite_else (by decide) ?_⟩
      refine ⟨_, rfl, rfl, _, rfl, ite_else (by decide) ?_⟩
      refine ⟨_, rfl, rfl, _, rfl, ite_else (by decide) ?_⟩
      refine ⟨_, rfl, rfl, _, rfl, ite_same rfl ?_⟩
      refine ⟨_, rfl, ?_⟩
      intro p dx np ndx nex
      have s2 : Same H (upd (upd H dx (.own p)) p (.ins D dx [])) := fun b o e => by
        rw [upd_ne (ne_of_none e np), upd_ne (ne_of_none e ndx)]
        exact e
      refine ⟨⟨p, dx, c, t, 2, rfl, upd_same, hc.sameI s2, by decide, by decide, fun l st H' hx kp => ⟨rfl, ?_⟩⟩⟩
      have s3 : Same H H' := fun b o e => kp b o (ne_of_none e np) (s2 b o e)
      exact ⟨p, dx, _, rfl, hx, rfl, ⟨⟨p, dx, c, l, t, st, .int 2, 2, rfl, hx, hc.sameI s3, ⟨rfl, by decide +kernel⟩, k none _ s3⟩⟩⟩
    · refine ⟨_, rfl, rfl, _, rfl, ite_else (by decide) ?_⟩
      refine ⟨_, rfl, rfl, _, rfl, ite_else (by decide) ?_⟩
      refine ⟨_, rfl, rfl, _, rfl, ite_else (by decide) ?_⟩
      refine ⟨_, rfl, rfl, _, rfl, ite_else (by decide) ?_⟩
      refine ⟨_, rfl, rfl, _, rfl, ite_else (by decide) ?_⟩
      refine ⟨_, rfl, rfl, _, rfl, ite_else (by decide) ?_⟩
      exact ⟨_, rfl, ⟨⟨c, .int 0, 2, t, rfl, hc, .inl ⟨.type "int", .base (.int _), kit_ty (by decide +kernel)⟩, fun H' s => k none H' s⟩⟩⟩
/-- one wrong call for each error -/
structure spCall9 (L : List Addr) (vs : List V) (H : Hp) (_ : VK) (E : XK) : Prop where
  h : ∃ (kd : Nat) (CE : Addr), vs = [.int kd] ∧ kd < 14 ∧ L[kd]? = some CE ∧ exAny CE H E
abbrev bar9 : Bar := ⟨0, false, 1, false⟩
theorem okb_9 (b1 : Addr) : OkBars 2 ([(b1, bar9)].map (·.2)) := ⟨fun b hb => by
  obtain rfl : b = bar9 := List.mem_singleton.mp hb
  exact ⟨by decide, by decide, by decide, by decide, by decide⟩, List.pairwise_singleton _ _⟩
theorem ok_call9 {f fI f0 f7 f8 f9 f10 f12 f13 C C0 C1 C2 C3 C4 C5 C6 C7 C8 C9 C10 C11 C12 C13 : Addr} {fd dI fd0 fd7 fd8 fd9 fd10 fd12 fd13 : FuncData} (F : Fun K "_law_call" "_law_call" s__law_call f fd) (gC : mg "Cabinet" = some (.ref C))
    (MC : Mk K C fI) (GI : FnOk P w K mg base CX0 5 fI dI ["self", "drawers", "bars"] (spInit C)) (bI : Binds K dI ["self", "drawers", "bars"] [])
    (G0 : FnOk P w K mg base (L2.CX P w) 10 f0 fd0 nEar (spEarly C [C0, C1, C2, C3, C4, C5, C6, C7, C8, C9, C10, C11, C12, C13])) (g0 : mg "_law_early" = some (.ref f0)) (k0 : PySem.W.keepIn K (.ref f0) = true) (b0 : Binds K fd0 nEar [])
    (G7 : FnOk P w K mg base (L2.CX P w) 9 f7 fd7 ["cabinet", "pairs", "most"] (spGuardsX K C C11 C7 C8)) (g7 : mg "guards" = some (.ref f7)) (k7 : PySem.W.keepIn K (.ref f7) = true) (b7 : Binds K fd7 ["cabinet", "pairs", "most"] [])
    (G8 : FnOk P w K mg base (L2.CX P w) 6 f8 fd8 ["cabinet", "length"] (spCtX K C C8)) (g8 : mg "count_rows" = some (.ref f8)) (k8 : PySem.W.keepIn K (.ref f8) = true) (b8 : Binds K fd8 ["cabinet", "length"] [])
    (G9 : FnOk P w K mg base (L2.CX P w) 8 f9 fd9 ["drawers", "tries"] (spRefX K C0 C9)) (g9 : mg "sure" = some (.ref f9)) (k9 : PySem.W.keepIn K (.ref f9) = true) (b9 : Binds K fd9 ["drawers", "tries"] [])
    (G10 : FnOk P w K mg base (L2.CX P w) 8 f10 fd10 ["cabinet", "standing", "drawer"] (spBehind C C10)) (g10 : mg "behind" = some (.ref f10)) (k10 : PySem.W.keepIn K (.ref f10) = true) (b10 : Binds K fd10 ["cabinet", "standing", "drawer"] [])
    (G12 : FnOk P w K mg base (L2.CX P w) 5 f12 fd12 ["one", "other"] (spUn C C12)) (g12 : mg "alike" = some (.ref f12)) (k12 : PySem.W.keepIn K (.ref f12) = true) (b12 : Binds K fd12 ["one", "other"] [])
    (G13 : FnOk P w K mg base (L2.CX P w) 8 f13 fd13 ["text"] (spRead0 C13)) (g13 : mg "read" = some (.ref f13)) (k13 : PySem.W.keepIn K (.ref f13) = true) (b13 : Binds K fd13 ["text"] []) :
    FnOk P w K mg base (L2.CX P w) 12 f fd ["_law_kind"] (spCall9 [C0, C1, C2, C3, C4, C5, C6, C7, C8, C9, C10, C11, C12, C13]) := by
  have sc : FnScope nEar ["_law_kind"] (defScope s__law_call) := ⟨rfl, rfl, rfl, by decide +kernel, rfl, by decide +kernel, by decide +kernel⟩
  refine F.okX sc (fun vs H Q E h => ?_) (fun cdv A outer s H vs Q E hr h => ?_)
  · obtain ⟨kd, CE, rfl, _⟩ := h.h
    rfl
  · obtain ⟨kd, CE, rfl, h14, hl, k⟩ := h.h
    have pas := passes_call (X := cxOf (L2.CX P w) P w K mg base nEar "_law_call" (defScope s__law_call) f cdv A outer s H E) (E := E) (takes_of rfl rfl rfl rfl) (fun _ _ _ _ z => z)
    refine ⟨_, pss_cons (ps_set (i := 1) sc.nd rfl (Or.inl rfl) (pe_make MC GI (hr.mono (by decide)) rfl gC bI .nil pass0 (pa_cons pe_int (pa_cons (pe_tup (pa_cons (pe_tup (pa_cons pe_int (pa_cons pe_str (pa_cons pe_int (pa_cons pe_str pa_nil))))) pa_nil)) pa_nil))))
      (pss_one (ps_if (pt_cmpR op_lt (pv 0) pe_int (nomark _)) (pss_one (ps_expr (pe_call G0 (hr.mono (by decide)) rfl g0 k0 b0 .nil pas (pa_cons (pv 0) (pa_cons (pv 1) pa_nil)))))
      (pss_one (ps_if (pt_cmpR op_eq (pv 0) pe_int (nomark _)) (pss_one (ps_expr (pe_call G7 (hr.mono (by decide)) rfl g7 k7 b7 .nil pas (pa_cons (pv 1) (pa_cons pe_int (pa_cons pe_int pa_nil))))))
      (pss_one (ps_if (pt_cmpR op_eq (pv 0) pe_int (nomark _)) (pss_one (ps_expr (pe_call G8 (hr.mono (by decide)) rfl g8 k8 b8 .nil pas (pa_cons (pv 1) (pa_cons pe_int pa_nil)))))
      (pss_one (ps_if (pt_cmpR op_eq (pv 0) pe_int (nomark _)) (pss_one (ps_expr (pe_call G9 (hr.mono (by decide)) rfl g9 k9 b9 .nil pas (pa_cons pe_int (pa_cons pe_int pa_nil)))))
      (pss_one (ps_if (pt_cmpR op_eq (pv 0) pe_int (nomark _)) (pss_one (ps_expr (pe_call G10 (hr.mono (by decide)) rfl g10 k10 b10 .nil pas (pa_cons (pv 1) (pa_cons pe_str (pa_cons pe_int pa_nil))))))
      (pss_one (ps_if (pt_cmpR op_eq (pv 0) pe_int (nomark _)) (pss_one (ps_expr (pe_call G7 (hr.mono (by decide)) rfl g7 k7 b7 .nil pas (pa_cons (pe_make MC GI (hr.mono (by decide)) rfl gC bI .nil pass0 (pa_cons pe_int (pa_cons (pe_tup pa_nil) pa_nil))) (pa_cons (pe_lst pa_nil) (pa_cons pe_int pa_nil))))))
      (pss_one (ps_if (pt_cmpR op_eq (pv 0) pe_int (nomark _)) (pss_one (ps_expr (pe_call G12 (hr.mono (by decide)) rfl g12 k12 b12 .nil pas (pa_cons (pv 1) (pa_cons (pe_make MC GI (hr.mono (by decide)) rfl gC bI .nil pass0 (pa_cons pe_int (pa_cons (pe_tup pa_nil) pa_nil))) pa_nil)))))
        (pss_one (ps_expr (pe_call G13 (hr.mono (by decide)) rfl g13 k13 b13 .nil pas (pa_cons pe_str pa_nil)))))))))))))))))), ?_⟩
    refine ⟨(by show 4 ≤ sizeLine; decide), fun b1 hb1 => ?_⟩
    obtain ⟨s1, f1⟩ := new_at (o := .tup bar9.vs) hb1
    have e9 : bar9.vs = [.int 0, .str "open", .int 1, .str "open"] := rfl
    rw [e9] at s1 f1
    generalize upd H b1 (.tup [.int 0, .str "open", .int 1, .str "open"]) = H1 at s1 f1 ⊢
    refine ⟨(by show 1 ≤ sizeLine; decide), fun t1 ht1 => ?_⟩
    obtain ⟨s2, f2⟩ := new_at (o := .tup [.ref b1]) ht1
    have f1' := s2 _ _ f1
    generalize upd H1 t1 (.tup [.ref b1]) = H2 at s2 f2 f1' ⊢
    have hB : BarsAt H2 t1 [(b1, bar9)] := ⟨f2, fun k hk => by rw [List.mem_singleton.mp hk]; exact f1'⟩
    have hO := okb_9 b1
    intro c dx nc ndx nex
    refine mk_calm (ks := [(b1, bar9)]) nc ndx (by decide) (by decide) hB hO fun H4 s4 hc => ?_
    have hB4 := hB.same s4
    have k := k.at' ((s1.trans s2).trans s4)
    by_cases k7' : kd < 7
    · refine ⟨_, rfl, _, _, rfl, rfl, _, rfl, ?_⟩
      rw [decide_eq_true (show ((kd : Nat) : Int) < 7 by omega)]
      exact iteT ⟨_, rfl, _, rfl, ⟨⟨kd, c, t1, CE, rfl, k7', hc, hl, k⟩⟩⟩
    refine ⟨_, rfl, _, _, rfl, rfl, _, rfl, ?_⟩
    rw [decide_eq_false (show ¬ ((kd : Nat) : Int) < 7 by omega)]
    refine iteF ?_
    have : kd = 7 ∨ kd = 8 ∨ kd = 9 ∨ kd = 10 ∨ kd = 11 ∨ kd = 12 ∨ kd = 13 := by omega
    rcases this with rfl | rfl | rfl | rfl | rfl | rfl | rfl <;> cases hl
    · refine ⟨_, rfl, rfl, _, rfl, ite_same rfl ?_⟩
      exact ⟨_, rfl, ⟨⟨c, .int 0, .int 1, 2, t1, rfl, hc, .inr ⟨by decide, fun H5 s5 => ⟨⟨c, .int 0, 2, t1, rfl, hc.sameI s5, .inl ⟨.type "int", fun _ _ => .base (.int _), kit_ilt, fun H' s => ini_any ((k.at' s5).at' s)⟩⟩⟩⟩⟩⟩⟩
    · refine ⟨_, rfl, rfl, _, rfl, ite_else (by decide) ?_⟩
      refine ⟨_, rfl, rfl, _, rfl, ite_same rfl ?_⟩
      exact ⟨_, rfl, ⟨⟨c, .int 61, 2, t1, rfl, hc, .inr ⟨61, rfl, by decide⟩, ini_any k⟩⟩⟩
    · refine ⟨_, rfl, rfl, _, rfl, ite_else (by decide) ?_⟩
      refine ⟨_, rfl, rfl, _, rfl, ite_else (by decide) ?_⟩
      refine ⟨_, rfl, rfl, _, rfl, ite_same rfl ?_⟩
      exact ⟨⟨.int 2, .int 0, rfl, ⟨.inl ⟨2, rfl, fun _ => ⟨⟨2, .int 0, rfl, .inl ⟨.type "int", fun _ _ => .base (.int _), kit_ilt, fun H' s => ini_any (k.at' s)⟩⟩⟩, fun z => absurd ⟨by decide, by decide⟩ z⟩⟩⟩⟩
    · refine ⟨_, rfl, rfl, _, rfl, ite_else (by decide) ?_⟩
      refine ⟨_, rfl, rfl, _, rfl, ite_else (by decide) ?_⟩
      refine ⟨_, rfl, rfl, _, rfl, ite_else (by decide) ?_⟩
      refine ⟨_, rfl, rfl, _, rfl, ite_same rfl ?_⟩
      have ess : ("ss" : Str) = sstr (shutS 2) := by decide +kernel
      exact ⟨_, rfl, ⟨⟨c, [bar9], shutS 2, 0, (by rw [ess]; rfl), ⟨⟨t1, [(b1, bar9)], hc, hB4, rfl, hO, by decide, by decide, by decide⟩⟩, by decide, by decide, fun z => absurd z (by decide), fun _ H' s => k none H' s⟩⟩⟩
    · refine ⟨_, rfl, rfl, _, rfl, ite_else (by decide) ?_⟩
      refine ⟨_, rfl, rfl, _, rfl, ite_else (by decide) ?_⟩
      refine ⟨_, rfl, rfl, _, rfl, ite_else (by decide) ?_⟩
      refine ⟨_, rfl, rfl, _, rfl, ite_else (by decide) ?_⟩
      refine ⟨_, rfl, rfl, _, rfl, ite_same rfl ?_⟩
      refine ⟨(by show 0 ≤ sizeLine; decide), fun t2 ht2 => ?_⟩
      intro c2 dx2 nc2 ndx2 nex2
      refine mk_calm (ks := []) nc2 ndx2 (by decide) (by decide) (bars_nil upd_same) (okb_nil 5) fun H6 s6 hc2 => ?_
      refine ⟨(by show 0 ≤ sizeLine; decide), fun l1 hl1 => ?_⟩
      exact ⟨⟨c2, .ref l1, .int 1, 5, t2, rfl, hc2.sameI (same_upd hl1), .inl ⟨by decide, fun H' s => ini_any ((((k.at' (same_upd ht2)).at' s6).at' (same_upd hl1)).at' s)⟩⟩⟩
    · refine ⟨_, rfl, rfl, _, rfl, ite_else (by decide) ?_⟩
      refine ⟨_, rfl, rfl, _, rfl, ite_else (by decide) ?_⟩
      refine ⟨_, rfl, rfl, _, rfl, ite_else (by decide) ?_⟩
      refine ⟨_, rfl, rfl, _, rfl, ite_else (by decide) ?_⟩
      refine ⟨_, rfl, rfl, _, rfl, ite_else (by decide) ?_⟩
      refine ⟨_, rfl, rfl, _, rfl, ite_same rfl ?_⟩
      refine ⟨_, rfl, (by show 0 ≤ sizeLine; decide), fun t2 ht2 => ?_⟩
      intro c2 dx2 nc2 ndx2 nex2
      refine mk_calm (ks := []) nc2 ndx2 (by decide) (by decide) (bars_nil upd_same) (okb_nil 1) fun H6 s6 hc2 => ?_
      exact ⟨⟨c, c2, t1, t2, 2, 1, rfl, (hc.sameI (same_upd ht2)).sameI s6, hc2, by decide, (k.at' (same_upd ht2)).at' s6⟩⟩
    · refine ⟨_, rfl, rfl, _, rfl, ite_else (by decide) ?_⟩
      refine ⟨_, rfl, rfl, _, rfl, ite_else (by decide) ?_⟩
      refine ⟨_, rfl, rfl, _, rfl, ite_else (by decide) ?_⟩
      refine ⟨_, rfl, rfl, _, rfl, ite_else (by decide) ?_⟩
      refine ⟨_, rfl, rfl, _, rfl, ite_else (by decide) ?_⟩
      refine ⟨_, rfl, rfl, _, rfl, ite_else (by decide) ?_⟩
      exact ⟨⟨rfl, k⟩⟩
end
end DL

set_option Elab.async false
set_option maxRecDepth 100000
set_option maxHeartbeats 4000000
namespace DL
open PySem PySem.Spec PyProof.Rows L2 HT TL
def spLaw29 (K : PySem.W.Frag) : Sp := fun vs H Q _ => ∃ (a : Addr) (ns : List Int), vs = [.ref a] ∧ SqL K H a (ns.map V.int) ∧ ns.length ≤ 63 ∧ ∀ H', Q (.bl true) H'
/-- the classes, each apart from the others and under the base -/
structure Apart9 (K : PySem.W.Frag) (DE : Addr) (L : List Addr) : Prop where
  one : ∀ (i j : Nat) (A B : Addr), L[i]? = some A → L[j]? = some B → PySem.W.exmOne K (.ref A) (.ref B) = some (decide (i = j))
  top : ∀ A ∈ L, PySem.W.exmOne K (.ref A) (.ref DE) = some true
theorem apart_of {K : PySem.W.Frag} {DE : Addr} {L : List Addr} (tab : (L.map fun a => L.map fun b => PySem.W.subIn K (.ref a) (.ref b)) = (List.range 14).map fun i => (List.range 14).map fun j => some (decide (i = j)))
    (tp : (L.map fun a => PySem.W.subIn K (.ref a) (.ref DE)) = List.replicate 14 (some true)) (bs : (L.map fun b => PySem.W.subIn K (.ref b) (.type "BaseException")) = List.replicate 14 (some true)) (cs : (L.map fun b => PySem.W.isClsIn K b) = List.replicate 14 true)
    (ts : (L.map fun b => PySem.W.typeIn K (.ref b)) = List.replicate 14 (some (.type "type"))) (d1 : PySem.W.subIn K (.ref DE) (.type "BaseException") = some true) (d2 : PySem.W.isClsIn K DE = true) (d3 : PySem.W.typeIn K (.ref DE) = some (.type "type")) : Apart9 K DE L := by
  have all : ∀ {α : Type} {f : Addr → α} {x : α}, L.map f = List.replicate 14 x → ∀ A ∈ L, f A = x := fun {α f x} e A hA => by
    have := List.mem_map_of_mem (f := f) hA
    rw [e] at this
    exact List.eq_of_mem_replicate this
  refine ⟨fun i j A B hi hj => exm_of (all bs B (List.mem_of_getElem? hj)) (all cs B (List.mem_of_getElem? hj)) (all ts B (List.mem_of_getElem? hj)) ?_, fun A hA => exm_of d1 d2 d3 (all tp A hA)⟩
  have e1 := congrArg (fun l => (l[i]?).bind fun r => r[j]?) tab
  have hl : L.length = 14 := by
    have := congrArg List.length cs
    rw [List.length_map, List.length_replicate] at this
    exact this
  have i14 : i < 14 := by
    have := (List.getElem?_eq_some_iff.mp hi).1
    omega
  have j14 : j < 14 := by
    have := (List.getElem?_eq_some_iff.mp hj).1
    omega
  simp only [List.getElem?_map, hi, List.getElem?_range i14, Option.map_some, Option.bind_some, hj, List.getElem?_range j14, Option.some.injEq] at e1
  exact e1
structure spTold9 (g : Nat → Int) (vs : List V) (H : Hp) (Q : VK) (_ : XK) : Prop where
  h : ∃ kd : Nat, vs = [.int kd] ∧ kd < 14 ∧ ∀ H', Same H H' → Q (.int (g kd)) H'
theorem any_hit {K : PySem.W.Frag} {Wout : WX} {D : Ends} {c cls : Value} {d : Option Addr} {ts : Addr → Value → Option Addr → TS} {r : List ClA} {σ : L2.St} {H : Hp} (e : PySem.W.exmOne K cls c = some true) (h : ∀ a, H a = none → ts a cls d D σ H) : wAny K Wout D ((c, none, ts) :: r) cls d σ H :=
  ⟨true, e, fun _ a na => h a na, fun z => (by cases z)⟩
theorem any_miss {K : PySem.W.Frag} {Wout : WX} {D : Ends} {c cls : Value} {d : Option Addr} {ts : Addr → Value → Option Addr → TS} {r : List ClA} {σ : L2.St} {H : Hp} (e : PySem.W.exmOne K cls c = some false) (h : wAny K Wout D r cls d σ H) : wAny K Wout D ((c, none, ts) :: r) cls d σ H :=
  ⟨false, e, fun z => (by cases z), fun _ => h⟩
section
variable {P : Program} {w : World} {K : PySem.W.Frag} {mg : Str → Option Value} {base : Heap}
theorem scL9a : FnScope ["_law_kind", "_law_raised"] ["_law_kind"] (defScope s__law_first) := ⟨rfl, rfl, rfl, by decide +kernel, rfl, by decide +kernel, by decide +kernel⟩
theorem ok__law_first {f f1 C0 C1 C2 C3 C4 C5 C6 C7 C8 C9 C10 C11 C12 C13 DE : Addr} {fd fd1 : FuncData} (F : Fun K "_law_first" "_law_first" s__law_first f fd)
    (G1 : FnOk P w K mg base (L2.CX P w) 12 f1 fd1 ["_law_kind"] (spCall9 [C0, C1, C2, C3, C4, C5, C6, C7, C8, C9, C10, C11, C12, C13])) (g1 : mg "_law_call" = some (.ref f1)) (k1 : PySem.W.keepIn K (.ref f1) = true) (b1 : Binds K fd1 ["_law_kind"] [])
    (h0 : mg "BadDrawers" = some (.ref C0)) (h1 : mg "BadBars" = some (.ref C1)) (h2 : mg "BadCabinet" = some (.ref C2)) (h3 : mg "BadStanding" = some (.ref C3)) (h4 : mg "BadPattern" = some (.ref C4)) (h5 : mg "BadDrawer" = some (.ref C5)) (h6 : mg "BadSet" = some (.ref C6)) (hE : mg "DrawerError" = some (.ref DE)) (X : Apart9 K DE [C0, C1, C2, C3, C4, C5, C6, C7, C8, C9, C10, C11, C12, C13]) : FnOk P w K mg base CX0 14 f fd ["_law_kind"] (spTold9 fun kd => if kd < 7 then kd else 7) := by
  refine F.ok scL9a (fun vs H Q E h => ?_) (fun cdv A outer s H vs Q E hr h => ?_)
  · obtain ⟨kd, rfl, _⟩ := h.h
    rfl
  · obtain ⟨kd, rfl, h14, k⟩ := h.h
    refine ⟨_, pss_cons (ps_set (i := 1) scL9a.nd rfl (Or.inl rfl) (pe_lst pa_nil))
      (pss_cons (ps_try_any (tb := fun W => tDrop (tCallS (spCall9 [C0, C1, C2, C3, C4, C5, C6, C7, C8, C9, C10, C11, C12, C13]) (WE W) (tCons (tVar 0) tNil))) (l := [(.ref C0, none, fun _ _ _ => tAsg (tC (.int 0)) (gName 1)), (.ref C1, none, fun _ _ _ => tAsg (tC (.int 1)) (gName 1)), (.ref C2, none, fun _ _ _ => tAsg (tC (.int 2)) (gName 1)), (.ref C3, none, fun _ _ _ => tAsg (tC (.int 3)) (gName 1)), (.ref C4, none, fun _ _ _ => tAsg (tC (.int 4)) (gName 1)), (.ref C5, none, fun _ _ _ => tAsg (tC (.int 5)) (gName 1)), (.ref C6, none, fun _ _ _ => tAsg (tC (.int 6)) (gName 1)), (.ref DE, none, fun _ _ _ => tAsg (tC (.int 7)) (gName 1))]) (Wout := fun _ _ _ _ => False) rfl rfl takes0
        (fun W pn xe tk _ => pss_one (ps_expr (by exact (pe_callS G1 (hr.mono (by decide)) rfl g1 k1 b1 (fun σ => passAt tk σ) (by exact (pa_cons (pv 0) pa_nil))))))
        (.plain ⟨rfl, by decide, Or.inl h0⟩ (fun a oe cls d pn _ _ => pss_one (ps_set (i := 1) scL9a.nd rfl (Or.inl rfl) pe_int)) (.plain ⟨rfl, by decide, Or.inl h1⟩ (fun a oe cls d pn _ _ => pss_one (ps_set (i := 1) scL9a.nd rfl (Or.inl rfl) pe_int)) (.plain ⟨rfl, by decide, Or.inl h2⟩ (fun a oe cls d pn _ _ => pss_one (ps_set (i := 1) scL9a.nd rfl (Or.inl rfl) pe_int)) (.plain ⟨rfl, by decide, Or.inl h3⟩ (fun a oe cls d pn _ _ => pss_one (ps_set (i := 1) scL9a.nd rfl (Or.inl rfl) pe_int)) (.plain ⟨rfl, by decide, Or.inl h4⟩ (fun a oe cls d pn _ _ => pss_one (ps_set (i := 1) scL9a.nd rfl (Or.inl rfl) pe_int)) (.plain ⟨rfl, by decide, Or.inl h5⟩ (fun a oe cls d pn _ _ => pss_one (ps_set (i := 1) scL9a.nd rfl (Or.inl rfl) pe_int)) (.plain ⟨rfl, by decide, Or.inl h6⟩ (fun a oe cls d pn _ _ => pss_one (ps_set (i := 1) scL9a.nd rfl (Or.inl rfl) pe_int)) (.plain ⟨rfl, by decide, Or.inl hE⟩ (fun a oe cls d pn _ _ => pss_one (ps_set (i := 1) scL9a.nd rfl (Or.inl rfl) pe_int)) .nil)))))))))
      (pss_one (ps_ret (pv 1)))), ?_⟩
    refine ⟨(by show 0 ≤ sizeLine; decide), fun e0 ne0 => ?_⟩
    have s0 := same_upd (o := .lst []) ne0
    have : kd = 0 ∨ kd = 1 ∨ kd = 2 ∨ kd = 3 ∨ kd = 4 ∨ kd = 5 ∨ kd = 6 ∨ kd = 7 ∨ kd = 8 ∨ kd = 9 ∨ kd = 10 ∨ kd = 11 ∨ kd = 12 ∨ kd = 13 := by omega
    rcases this with rfl | rfl | rfl | rfl | rfl | rfl | rfl | rfl | rfl | rfl | rfl | rfl | rfl | rfl
    · refine ⟨_, rfl, ⟨⟨0, C0, rfl, by decide, rfl, fun d H' s1 => ?_⟩⟩⟩
      exact any_hit (X.one 0 0 _ _ rfl rfl) fun a na => ⟨_, rfl, k H' (s0.trans s1)⟩
    · refine ⟨_, rfl, ⟨⟨1, C1, rfl, by decide, rfl, fun d H' s1 => ?_⟩⟩⟩
      refine any_miss (X.one 1 0 _ _ rfl rfl) ?_
      exact any_hit (X.one 1 1 _ _ rfl rfl) fun a na => ⟨_, rfl, k H' (s0.trans s1)⟩
    · refine ⟨_, rfl, ⟨⟨2, C2, rfl, by decide, rfl, fun d H' s1 => ?_⟩⟩⟩
      refine any_miss (X.one 2 0 _ _ rfl rfl) ?_
      refine any_miss (X.one 2 1 _ _ rfl rfl) ?_
      exact any_hit (X.one 2 2 _ _ rfl rfl) fun a na => ⟨_, rfl, k H' (s0.trans s1)⟩
    · refine ⟨_, rfl, ⟨⟨3, C3, rfl, by decide, rfl, fun d H' s1 => ?_⟩⟩⟩
      refine any_miss (X.one 3 0 _ _ rfl rfl) ?_
      refine any_miss (X.one 3 1 _ _ rfl rfl) ?_
      refine any_miss (X.one 3 2 _ _ rfl rfl) ?_
      exact any_hit (X.one 3 3 _ _ rfl rfl) fun a na => ⟨_, rfl, k H' (s0.trans s1)⟩
    · refine ⟨_, rfl, ⟨⟨4, C4, rfl, by decide, rfl, fun d H' s1 => ?_⟩⟩⟩
      refine any_miss (X.one 4 0 _ _ rfl rfl) ?_
      refine any_miss (X.one 4 1 _ _ rfl rfl) ?_
      refine any_miss (X.one 4 2 _ _ rfl rfl) ?_
      refine any_miss (X.one 4 3 _ _ rfl rfl) ?_
      exact any_hit (X.one 4 4 _ _ rfl rfl) fun a na => ⟨_, rfl, k H' (s0.trans s1)⟩
    · refine ⟨_, rfl, ⟨⟨5, C5, rfl, by decide, rfl, fun d H' s1 => ?_⟩⟩⟩
      refine any_miss (X.one 5 0 _ _ rfl rfl) ?_
      refine any_miss (X.one 5 1 _ _ rfl rfl) ?_
      refine any_miss (X.one 5 2 _ _ rfl rfl) ?_
      refine any_miss (X.one 5 3 _ _ rfl rfl) ?_
      refine any_miss (X.one 5 4 _ _ rfl rfl) ?_
      exact any_hit (X.one 5 5 _ _ rfl rfl) fun a na => ⟨_, rfl, k H' (s0.trans s1)⟩
    · refine ⟨_, rfl, ⟨⟨6, C6, rfl, by decide, rfl, fun d H' s1 => ?_⟩⟩⟩
      refine any_miss (X.one 6 0 _ _ rfl rfl) ?_
      refine any_miss (X.one 6 1 _ _ rfl rfl) ?_
      refine any_miss (X.one 6 2 _ _ rfl rfl) ?_
      refine any_miss (X.one 6 3 _ _ rfl rfl) ?_
      refine any_miss (X.one 6 4 _ _ rfl rfl) ?_
      refine any_miss (X.one 6 5 _ _ rfl rfl) ?_
      exact any_hit (X.one 6 6 _ _ rfl rfl) fun a na => ⟨_, rfl, k H' (s0.trans s1)⟩
    · refine ⟨_, rfl, ⟨⟨7, C7, rfl, by decide, rfl, fun d H' s1 => ?_⟩⟩⟩
      refine any_miss (X.one 7 0 _ _ rfl rfl) ?_
      refine any_miss (X.one 7 1 _ _ rfl rfl) ?_
      refine any_miss (X.one 7 2 _ _ rfl rfl) ?_
      refine any_miss (X.one 7 3 _ _ rfl rfl) ?_
      refine any_miss (X.one 7 4 _ _ rfl rfl) ?_
      refine any_miss (X.one 7 5 _ _ rfl rfl) ?_
      refine any_miss (X.one 7 6 _ _ rfl rfl) ?_
      exact any_hit (X.top _ (List.mem_of_getElem? (i := 7) rfl)) fun a na => ⟨_, rfl, k H' (s0.trans s1)⟩
    · refine ⟨_, rfl, ⟨⟨8, C8, rfl, by decide, rfl, fun d H' s1 => ?_⟩⟩⟩
      refine any_miss (X.one 8 0 _ _ rfl rfl) ?_
      refine any_miss (X.one 8 1 _ _ rfl rfl) ?_
      refine any_miss (X.one 8 2 _ _ rfl rfl) ?_
      refine any_miss (X.one 8 3 _ _ rfl rfl) ?_
      refine any_miss (X.one 8 4 _ _ rfl rfl) ?_
      refine any_miss (X.one 8 5 _ _ rfl rfl) ?_
      refine any_miss (X.one 8 6 _ _ rfl rfl) ?_
      exact any_hit (X.top _ (List.mem_of_getElem? (i := 8) rfl)) fun a na => ⟨_, rfl, k H' (s0.trans s1)⟩
    · refine ⟨_, rfl, ⟨⟨9, C9, rfl, by decide, rfl, fun d H' s1 => ?_⟩⟩⟩
      refine any_miss (X.one 9 0 _ _ rfl rfl) ?_
      refine any_miss (X.one 9 1 _ _ rfl rfl) ?_
      refine any_miss (X.one 9 2 _ _ rfl rfl) ?_
      refine any_miss (X.one 9 3 _ _ rfl rfl) ?_
      refine any_miss (X.one 9 4 _ _ rfl rfl) ?_
      refine any_miss (X.one 9 5 _ _ rfl rfl) ?_
      refine any_miss (X.one 9 6 _ _ rfl rfl) ?_
      exact any_hit (X.top _ (List.mem_of_getElem? (i := 9) rfl)) fun a na => ⟨_, rfl, k H' (s0.trans s1)⟩
    · refine ⟨_, rfl, ⟨⟨10, C10, rfl, by decide, rfl, fun d H' s1 => ?_⟩⟩⟩
      refine any_miss (X.one 10 0 _ _ rfl rfl) ?_
      refine any_miss (X.one 10 1 _ _ rfl rfl) ?_
      refine any_miss (X.one 10 2 _ _ rfl rfl) ?_
      refine any_miss (X.one 10 3 _ _ rfl rfl) ?_
      refine any_miss (X.one 10 4 _ _ rfl rfl) ?_
      refine any_miss (X.one 10 5 _ _ rfl rfl) ?_
      refine any_miss (X.one 10 6 _ _ rfl rfl) ?_
      exact any_hit (X.top _ (List.mem_of_getElem? (i := 10) rfl)) fun a na => ⟨_, rfl, k H' (s0.trans s1)⟩
    · refine ⟨_, rfl, ⟨⟨11, C11, rfl, by decide, rfl, fun d H' s1 => ?_⟩⟩⟩
      refine any_miss (X.one 11 0 _ _ rfl rfl) ?_
      refine any_miss (X.one 11 1 _ _ rfl rfl) ?_
      refine any_miss (X.one 11 2 _ _ rfl rfl) ?_
      refine any_miss (X.one 11 3 _ _ rfl rfl) ?_
      refine any_miss (X.one 11 4 _ _ rfl rfl) ?_
      refine any_miss (X.one 11 5 _ _ rfl rfl) ?_
      refine any_miss (X.one 11 6 _ _ rfl rfl) ?_
      exact any_hit (X.top _ (List.mem_of_getElem? (i := 11) rfl)) fun a na => ⟨_, rfl, k H' (s0.trans s1)⟩
    · refine ⟨_, rfl, ⟨⟨12, C12, rfl, by decide, rfl, fun d H' s1 => ?_⟩⟩⟩
      refine any_miss (X.one 12 0 _ _ rfl rfl) ?_
      refine any_miss (X.one 12 1 _ _ rfl rfl) ?_
      refine any_miss (X.one 12 2 _ _ rfl rfl) ?_
      refine any_miss (X.one 12 3 _ _ rfl rfl) ?_
      refine any_miss (X.one 12 4 _ _ rfl rfl) ?_
      refine any_miss (X.one 12 5 _ _ rfl rfl) ?_
      refine any_miss (X.one 12 6 _ _ rfl rfl) ?_
      exact any_hit (X.top _ (List.mem_of_getElem? (i := 12) rfl)) fun a na => ⟨_, rfl, k H' (s0.trans s1)⟩
    · refine ⟨_, rfl, ⟨⟨13, C13, rfl, by decide, rfl, fun d H' s1 => ?_⟩⟩⟩
      refine any_miss (X.one 13 0 _ _ rfl rfl) ?_
      refine any_miss (X.one 13 1 _ _ rfl rfl) ?_
      refine any_miss (X.one 13 2 _ _ rfl rfl) ?_
      refine any_miss (X.one 13 3 _ _ rfl rfl) ?_
      refine any_miss (X.one 13 4 _ _ rfl rfl) ?_
      refine any_miss (X.one 13 5 _ _ rfl rfl) ?_
      refine any_miss (X.one 13 6 _ _ rfl rfl) ?_
      exact any_hit (X.top _ (List.mem_of_getElem? (i := 13) rfl)) fun a na => ⟨_, rfl, k H' (s0.trans s1)⟩
theorem scL9b : FnScope ["_law_kind", "_law_raised"] ["_law_kind"] (defScope s__law_second) := ⟨rfl, rfl, rfl, by decide +kernel, rfl, by decide +kernel, by decide +kernel⟩
theorem ok__law_second {f f1 C0 C1 C2 C3 C4 C5 C6 C7 C8 C9 C10 C11 C12 C13 DE : Addr} {fd fd1 : FuncData} (F : Fun K "_law_second" "_law_second" s__law_second f fd)
    (G1 : FnOk P w K mg base (L2.CX P w) 12 f1 fd1 ["_law_kind"] (spCall9 [C0, C1, C2, C3, C4, C5, C6, C7, C8, C9, C10, C11, C12, C13])) (g1 : mg "_law_call" = some (.ref f1)) (k1 : PySem.W.keepIn K (.ref f1) = true) (b1 : Binds K fd1 ["_law_kind"] [])
    (h7 : mg "BadPairs" = some (.ref C7)) (h8 : mg "BadNumber" = some (.ref C8)) (h9 : mg "BadTries" = some (.ref C9)) (h10 : mg "Barred" = some (.ref C10)) (h11 : mg "TooMany" = some (.ref C11)) (h12 : mg "Unlike" = some (.ref C12)) (h13 : mg "InvalidText" = some (.ref C13)) (hE : mg "DrawerError" = some (.ref DE)) (X : Apart9 K DE [C0, C1, C2, C3, C4, C5, C6, C7, C8, C9, C10, C11, C12, C13]) : FnOk P w K mg base CX0 14 f fd ["_law_kind"] (spTold9 fun kd => if 6 < kd then kd else 0) := by
  refine F.ok scL9b (fun vs H Q E h => ?_) (fun cdv A outer s H vs Q E hr h => ?_)
  · obtain ⟨kd, rfl, _⟩ := h.h
    rfl
  · obtain ⟨kd, rfl, h14, k⟩ := h.h
    refine ⟨_, pss_cons (ps_set (i := 1) scL9b.nd rfl (Or.inl rfl) (pe_lst pa_nil))
      (pss_cons (ps_try_any (tb := fun W => tDrop (tCallS (spCall9 [C0, C1, C2, C3, C4, C5, C6, C7, C8, C9, C10, C11, C12, C13]) (WE W) (tCons (tVar 0) tNil))) (l := [(.ref C7, none, fun _ _ _ => tAsg (tC (.int 7)) (gName 1)), (.ref C8, none, fun _ _ _ => tAsg (tC (.int 8)) (gName 1)), (.ref C9, none, fun _ _ _ => tAsg (tC (.int 9)) (gName 1)), (.ref C10, none, fun _ _ _ => tAsg (tC (.int 10)) (gName 1)), (.ref C11, none, fun _ _ _ => tAsg (tC (.int 11)) (gName 1)), (.ref C12, none, fun _ _ _ => tAsg (tC (.int 12)) (gName 1)), (.ref C13, none, fun _ _ _ => tAsg (tC (.int 13)) (gName 1)), (.ref DE, none, fun _ _ _ => tAsg (tC (.int 0)) (gName 1))]) (Wout := fun _ _ _ _ => False) rfl rfl takes0
        (fun W pn xe tk _ => pss_one (ps_expr (by exact (pe_callS G1 (hr.mono (by decide)) rfl g1 k1 b1 (fun σ => passAt tk σ) (by exact (pa_cons (pv 0) pa_nil))))))
        (.plain ⟨rfl, by decide, Or.inl h7⟩ (fun a oe cls d pn _ _ => pss_one (ps_set (i := 1) scL9b.nd rfl (Or.inl rfl) pe_int)) (.plain ⟨rfl, by decide, Or.inl h8⟩ (fun a oe cls d pn _ _ => pss_one (ps_set (i := 1) scL9b.nd rfl (Or.inl rfl) pe_int)) (.plain ⟨rfl, by decide, Or.inl h9⟩ (fun a oe cls d pn _ _ => pss_one (ps_set (i := 1) scL9b.nd rfl (Or.inl rfl) pe_int)) (.plain ⟨rfl, by decide, Or.inl h10⟩ (fun a oe cls d pn _ _ => pss_one (ps_set (i := 1) scL9b.nd rfl (Or.inl rfl) pe_int)) (.plain ⟨rfl, by decide, Or.inl h11⟩ (fun a oe cls d pn _ _ => pss_one (ps_set (i := 1) scL9b.nd rfl (Or.inl rfl) pe_int)) (.plain ⟨rfl, by decide, Or.inl h12⟩ (fun a oe cls d pn _ _ => pss_one (ps_set (i := 1) scL9b.nd rfl (Or.inl rfl) pe_int)) (.plain ⟨rfl, by decide, Or.inl h13⟩ (fun a oe cls d pn _ _ => pss_one (ps_set (i := 1) scL9b.nd rfl (Or.inl rfl) pe_int)) (.plain ⟨rfl, by decide, Or.inl hE⟩ (fun a oe cls d pn _ _ => pss_one (ps_set (i := 1) scL9b.nd rfl (Or.inl rfl) pe_int)) .nil)))))))))
      (pss_one (ps_ret (pv 1)))), ?_⟩
    refine ⟨(by show 0 ≤ sizeLine; decide), fun e0 ne0 => ?_⟩
    have s0 := same_upd (o := .lst []) ne0
    have : kd = 0 ∨ kd = 1 ∨ kd = 2 ∨ kd = 3 ∨ kd = 4 ∨ kd = 5 ∨ kd = 6 ∨ kd = 7 ∨ kd = 8 ∨ kd = 9 ∨ kd = 10 ∨ kd = 11 ∨ kd = 12 ∨ kd = 13 := by omega
    rcases this with rfl | rfl | rfl | rfl | rfl | rfl | rfl | rfl | rfl | rfl | rfl | rfl | rfl | rfl
    · refine ⟨_, rfl, ⟨⟨0, C0, rfl, by decide, rfl, fun d H' s1 => ?_⟩⟩⟩
      refine any_miss (X.one 0 7 _ _ rfl rfl) ?_
      refine any_miss (X.one 0 8 _ _ rfl rfl) ?_
      refine any_miss (X.one 0 9 _ _ rfl rfl) ?_
      refine any_miss (X.one 0 10 _ _ rfl rfl) ?_
      refine any_miss (X.one 0 11 _ _ rfl rfl) ?_
      refine any_miss (X.one 0 12 _ _ rfl rfl) ?_
      refine any_miss (X.one 0 13 _ _ rfl rfl) ?_
      exact any_hit (X.top _ (List.mem_of_getElem? (i := 0) rfl)) fun a na => ⟨_, rfl, k H' (s0.trans s1)⟩
    · refine ⟨_, rfl, ⟨⟨1, C1, rfl, by decide, rfl, fun d H' s1 => ?_⟩⟩⟩
      refine any_miss (X.one 1 7 _ _ rfl rfl) ?_
      refine any_miss (X.one 1 8 _ _ rfl rfl) ?_
      refine any_miss (X.one 1 9 _ _ rfl rfl) ?_
      refine any_miss (X.one 1 10 _ _ rfl rfl) ?_
      refine any_miss (X.one 1 11 _ _ rfl rfl) ?_
      refine any_miss (X.one 1 12 _ _ rfl rfl) ?_
      refine any_miss (X.one 1 13 _ _ rfl rfl) ?_
      exact any_hit (X.top _ (List.mem_of_getElem? (i := 1) rfl)) fun a na => ⟨_, rfl, k H' (s0.trans s1)⟩
    · refine ⟨_, rfl, ⟨⟨2, C2, rfl, by decide, rfl, fun d H' s1 => ?_⟩⟩⟩
      refine any_miss (X.one 2 7 _ _ rfl rfl) ?_
      refine any_miss (X.one 2 8 _ _ rfl rfl) ?_
      refine any_miss (X.one 2 9 _ _ rfl rfl) ?_
      refine any_miss (X.one 2 10 _ _ rfl rfl) ?_
      refine any_miss (X.one 2 11 _ _ rfl rfl) ?_
      refine any_miss (X.one 2 12 _ _ rfl rfl) ?_
      refine any_miss (X.one 2 13 _ _ rfl rfl) ?_
      exact any_hit (X.top _ (List.mem_of_getElem? (i := 2) rfl)) fun a na => ⟨_, rfl, k H' (s0.trans s1)⟩
    · refine ⟨_, rfl, ⟨⟨3, C3, rfl, by decide, rfl, fun d H' s1 => ?_⟩⟩⟩
      refine any_miss (X.one 3 7 _ _ rfl rfl) ?_
      refine any_miss (X.one 3 8 _ _ rfl rfl) ?_
      refine any_miss (X.one 3 9 _ _ rfl rfl) ?_
      refine any_miss (X.one 3 10 _ _ rfl rfl) ?_
      refine any_miss (X.one 3 11 _ _ rfl rfl) ?_
      refine any_miss (X.one 3 12 _ _ rfl rfl) ?_
      refine any_miss (X.one 3 13 _ _ rfl rfl) ?_
      exact any_hit (X.top _ (List.mem_of_getElem? (i := 3) rfl)) fun a na => ⟨_, rfl, k H' (s0.trans s1)⟩
    · refine ⟨_, rfl, ⟨⟨4, C4, rfl, by decide, rfl, fun d H' s1 => ?_⟩⟩⟩
      refine any_miss (X.one 4 7 _ _ rfl rfl) ?_
      refine any_miss (X.one 4 8 _ _ rfl rfl) ?_
      refine any_miss (X.one 4 9 _ _ rfl rfl) ?_
      refine any_miss (X.one 4 10 _ _ rfl rfl) ?_
      refine any_miss (X.one 4 11 _ _ rfl rfl) ?_
      refine any_miss (X.one 4 12 _ _ rfl rfl) ?_
      refine any_miss (X.one 4 13 _ _ rfl rfl) ?_
      exact any_hit (X.top _ (List.mem_of_getElem? (i := 4) rfl)) fun a na => ⟨_, rfl, k H' (s0.trans s1)⟩
    · refine ⟨_, rfl, ⟨⟨5, C5, rfl, by decide, rfl, fun d H' s1 => ?_⟩⟩⟩
      refine any_miss (X.one 5 7 _ _ rfl rfl) ?_
      refine any_miss (X.one 5 8 _ _ rfl rfl) ?_
      refine any_miss (X.one 5 9 _ _ rfl rfl) ?_
      refine any_miss (X.one 5 10 _ _ rfl rfl) ?_
      refine any_miss (X.one 5 11 _ _ rfl rfl) ?_
      refine any_miss (X.one 5 12 _ _ rfl rfl) ?_
      refine any_miss (X.one 5 13 _ _ rfl rfl) ?_
      exact any_hit (X.top _ (List.mem_of_getElem? (i := 5) rfl)) fun a na => ⟨_, rfl, k H' (s0.trans s1)⟩
    · refine ⟨_, rfl, ⟨⟨6, C6, rfl, by decide, rfl, fun d H' s1 => ?_⟩⟩⟩
      refine any_miss (X.one 6 7 _ _ rfl rfl) ?_
      refine any_miss (X.one 6 8 _ _ rfl rfl) ?_
      refine any_miss (X.one 6 9 _ _ rfl rfl) ?_
      refine any_miss (X.one 6 10 _ _ rfl rfl) ?_
      refine any_miss (X.one 6 11 _ _ rfl rfl) ?_
      refine any_miss (X.one 6 12 _ _ rfl rfl) ?_
      refine any_miss (X.one 6 13 _ _ rfl rfl) ?_
      exact any_hit (X.top _ (List.mem_of_getElem? (i := 6) rfl)) fun a na => ⟨_, rfl, k H' (s0.trans s1)⟩
    · refine ⟨_, rfl, ⟨⟨7, C7, rfl, by decide, rfl, fun d H' s1 => ?_⟩⟩⟩
      exact any_hit (X.one 7 7 _ _ rfl rfl) fun a na => ⟨_, rfl, k H' (s0.trans s1)⟩
    · refine ⟨_, rfl, ⟨⟨8, C8, rfl, by decide, rfl, fun d H' s1 => ?_⟩⟩⟩
      refine any_miss (X.one 8 7 _ _ rfl rfl) ?_
      exact any_hit (X.one 8 8 _ _ rfl rfl) fun a na => ⟨_, rfl, k H' (s0.trans s1)⟩
    · refine ⟨_, rfl, ⟨⟨9, C9, rfl, by decide, rfl, fun d H' s1 => ?_⟩⟩⟩
      refine any_miss (X.one 9 7 _ _ rfl rfl) ?_
      refine any_miss (X.one 9 8 _ _ rfl rfl) ?_
      exact any_hit (X.one 9 9 _ _ rfl rfl) fun a na => ⟨_, rfl, k H' (s0.trans s1)⟩
    · refine ⟨_, rfl, ⟨⟨10, C10, rfl, by decide, rfl, fun d H' s1 => ?_⟩⟩⟩
      refine any_miss (X.one 10 7 _ _ rfl rfl) ?_
      refine any_miss (X.one 10 8 _ _ rfl rfl) ?_
      refine any_miss (X.one 10 9 _ _ rfl rfl) ?_
      exact any_hit (X.one 10 10 _ _ rfl rfl) fun a na => ⟨_, rfl, k H' (s0.trans s1)⟩
    · refine ⟨_, rfl, ⟨⟨11, C11, rfl, by decide, rfl, fun d H' s1 => ?_⟩⟩⟩
      refine any_miss (X.one 11 7 _ _ rfl rfl) ?_
      refine any_miss (X.one 11 8 _ _ rfl rfl) ?_
      refine any_miss (X.one 11 9 _ _ rfl rfl) ?_
      refine any_miss (X.one 11 10 _ _ rfl rfl) ?_
      exact any_hit (X.one 11 11 _ _ rfl rfl) fun a na => ⟨_, rfl, k H' (s0.trans s1)⟩
    · refine ⟨_, rfl, ⟨⟨12, C12, rfl, by decide, rfl, fun d H' s1 => ?_⟩⟩⟩
      refine any_miss (X.one 12 7 _ _ rfl rfl) ?_
      refine any_miss (X.one 12 8 _ _ rfl rfl) ?_
      refine any_miss (X.one 12 9 _ _ rfl rfl) ?_
      refine any_miss (X.one 12 10 _ _ rfl rfl) ?_
      refine any_miss (X.one 12 11 _ _ rfl rfl) ?_
      exact any_hit (X.one 12 12 _ _ rfl rfl) fun a na => ⟨_, rfl, k H' (s0.trans s1)⟩
    · refine ⟨_, rfl, ⟨⟨13, C13, rfl, by decide, rfl, fun d H' s1 => ?_⟩⟩⟩
      refine any_miss (X.one 13 7 _ _ rfl rfl) ?_
      refine any_miss (X.one 13 8 _ _ rfl rfl) ?_
      refine any_miss (X.one 13 9 _ _ rfl rfl) ?_
      refine any_miss (X.one 13 10 _ _ rfl rfl) ?_
      refine any_miss (X.one 13 11 _ _ rfl rfl) ?_
      refine any_miss (X.one 13 12 _ _ rfl rfl) ?_
      exact any_hit (X.one 13 13 _ _ rfl rfl) fun a na => ⟨_, rfl, k H' (s0.trans s1)⟩
abbrev nLaw : List Str := ["_law_script", "_law_row", "_law_turn", "_law_kind"]
theorem scLaw : FnScope nLaw ["_law_script"] (defScope s_law) := ⟨rfl, rfl, rfl, by decide +kernel, rfl, by decide +kernel, by decide +kernel⟩
theorem ok_law {f fT fA fB : Addr} {fd dT dA dB : FuncData} (F : Fun K "law" "law" s_law f fd) (T : Bt mg) (zM : mg "min" = none)
    (GT : FnOk P w K mg base CX0 1 fT dT ["_law_row", "_law_many"] (spTaken K)) (gT : mg "_law_taken" = some (.ref fT)) (kT : PySem.W.keepIn K (.ref fT) = true) (bT : Binds K dT ["_law_row", "_law_many"] [])
    (GA : FnOk P w K mg base CX0 14 fA dA ["_law_kind"] (spTold9 fun kd => if kd < 7 then kd else 7)) (gA : mg "_law_first" = some (.ref fA)) (kA : PySem.W.keepIn K (.ref fA) = true) (bA : Binds K dA ["_law_kind"] [])
    (GB : FnOk P w K mg base CX0 14 fB dB ["_law_kind"] (spTold9 fun kd => if 6 < kd then kd else 0)) (gB : mg "_law_second" = some (.ref fB)) (kB : PySem.W.keepIn K (.ref fB) = true) (bB : Binds K dB ["_law_kind"] []) :
    FnOk P w K mg base CX0 20 f fd ["_law_script"] (spLaw29 K) := by
  refine F.ok scLaw (fun vs H Q E h => ?_) (fun cdv A outer s H vs Q E hr h => ?_)
  · obtain ⟨a, ns, rfl, _⟩ := h
    rfl
  · obtain ⟨a, ns, rfl, hS, hlen, k⟩ := h
    refine ⟨_, pss_cons (ps_set (i := 1) scLaw.nd rfl (Or.inl rfl) (pe_lst (pa_cons (pv 0) (pa_cons pe_int (pa_cons pe_int (pa_cons pe_int pa_nil))))))
      (pss_cons (ps_for PassesOwn.never rfl (pi_range1 (by rfl) T.range (pa_cons pe_int pa_nil)) (pg_name (i := 2) scLaw.nd rfl (Or.inl rfl))
        (pss_cons (ps_set (i := 3) scLaw.nd rfl (Or.inl rfl) (pe_call GT (hr.mono (by decide)) rfl gT kT bT .nil pass0 (pa_cons (pv 1) (pa_cons pe_int pa_nil))))
        (pss_one (ps_if (PW.pt (pw_or (pt_cmpR op_ne (pe_call GA (hr.mono (by decide)) rfl gA kA bA .nil pass0 (pa_cons (pv 3) pa_nil)) (pe_callB (call_min2 rfl) (by rfl) zM (by decide +kernel) (pa_cons pe_int (pa_cons (pv 3) pa_nil))) (nomark _))
          (pw_or1 (pt_cmpR op_ne (pe_call GB (hr.mono (by decide)) rfl gB kB bB .nil pass0 (pa_cons (pv 3) pa_nil)) (pe_ifExp (pt_cmpR op_gt (pv 3) pe_int (nomark _)) (pv 3) pe_int) (nomark _))))) (pss_one (ps_ret pe_bl)) pss_nil))))
      (pss_one (ps_ret pe_bl))), ?_⟩
    refine ⟨_, rfl, (by show 4 ≤ sizeLine; decide), fun r hr0 => ?_⟩
    have R0 : RowOk (upd H r (.lst [.ref a, .int 0, .int 229, .int 0])) r a := ⟨⟨0, 229, 0, upd_same, by decide, by decide, by decide, by decide⟩⟩
    have S0 : SqL K (upd H r (.lst [.ref a, .int 0, .int 229, .int 0])) a (ns.map V.int) := (same_upd hr0).seq hS
    generalize (upd H r (.lst [.ref a, .int 0, .int 229, .int 0])) = H0 at R0 S0 ⊢
    refine ⟨9, rfl, by decide, by decide, ?_⟩
    refine for_range (lo := 0) (n := 9) (fun i σ H' => ∃ v2 v3 : Option V, σ = [some (.ref a), some (.ref r), v2, v3] ∧ RowOk H' r a ∧ But r H0 H')
      ⟨_, _, rfl, R0, But.refl _ _⟩ ?_ fun σ H' ⟨_, _, _, _, _⟩ => k _
    rintro i σ H1 hi ⟨v2, v3, rfl, R1, B1⟩
    refine ⟨_, rfl, ⟨⟨r, a, ns, 14, rfl, R1, B1.seqR R0 S0, by decide, by decide, fun v H2 v0 v1 R2 B2 => ?_⟩⟩⟩
    obtain ⟨kd, rfl⟩ : ∃ kd : Nat, v = kd := ⟨v.toNat, by omega⟩
    have B12 := B1.trans B2
    refine ⟨_, rfl, ⟨⟨kd, rfl, by omega, fun H3 s3 => ?_⟩⟩⟩
    have e1 : (if kd < 7 then (kd : Int) else 7) = if (kd : Int) < 7 then (kd : Int) else 7 := by
      by_cases h : kd < 7
      · rw [if_pos h, if_pos (by omega)]
      · rw [if_neg h, if_neg (by omega)]
    refine ⟨_, rfl, 7, kd, rfl, rfl, _, rfl, iteNS (congrArg V.int e1) ?_⟩
    refine ⟨_, rfl, ⟨⟨kd, rfl, by omega, fun H4 s4 => ?_⟩⟩⟩
    have R4 := (R2.same s3).same s4
    have B4 := (B12.trans (sbut s3)).trans (sbut s4)
    refine ⟨_, rfl, _, _, rfl, rfl, _, rfl, ?_⟩
    by_cases h : 6 < kd
    · rw [decide_eq_true (show (6 : Int) < kd by omega)]
      exact iteT ⟨_, rfl, rfl, _, rfl, iteNS (congrArg V.int (if_pos h)) ⟨_, _, rfl, R4, B4⟩⟩
    · rw [decide_eq_false (show ¬ (6 : Int) < kd by omega)]
      exact iteF ⟨rfl, _, rfl, iteNS (congrArg V.int (if_neg h)) ⟨_, _, rfl, R4, B4⟩⟩
end
end DL

set_option Elab.async false
set_option maxRecDepth 100000
namespace DL
open PySem L2
/-- an error of the class at S is what «except S» names -/
theorem exm_self {K : PySem.W.Frag} {S : Addr} (h1 : PySem.W.subIn K (.ref S) (.type "BaseException") = some true) (h2 : PySem.W.isClsIn K S = true) (h3 : PySem.W.typeIn K (.ref S) = some (.type "type")) (h4 : PySem.W.subIn K (.ref S) (.ref S) = some true) :
    PySem.W.exmOne K (.ref S) (.ref S) = some true := by
  have e1 : (PySem.W.subIn K (.ref S) (.type "BaseException") == some true) = true := by rw [h1] <;> rfl
  have e2 : ((PySem.W.clsIn K S).isSome && PySem.W.typeIn K (.ref S) == some (.type "type")) = true := by
    have h2' : (PySem.W.clsIn K S).isSome = true := h2
    rw [h2', h3] <;> rfl
  show (if (PySem.W.subIn K (.ref S) (.type "BaseException") == some true) = true then (if ((PySem.W.clsIn K S).isSome && PySem.W.typeIn K (.ref S) == some (.type "type")) = true then PySem.W.subIn K (.ref S) (.ref S) else none) else none) = some true
  rw [if_pos e1, if_pos e2]
  exact h4
end DL

set_option Elab.async false
set_option maxRecDepth 100000
set_option maxHeartbeats 8000000
namespace DL
open PySem L2 HT TL
/-! ### what the top has written -/
theorem all_mk {l : PySem.W.OpenLaw} {w : World} {K : PySem.W.Frag} {h : Heap} {mg : Str → Option Value} {fa : Addr} (X : K.In h) (G : h.Ns mainGlobals mg) (hfa : mg "law" = some (.ref fa))
    {f_is_integer : Addr} {od_is_integer an_is_integer : Option Addr} {sl_is_integer : Array (Option Value)} {oc_is_integer kV_is_integer dc_is_integer pm_is_integer cd_is_integer ct_is_integer : Value}
    {f_is_drawer_count : Addr} {od_is_drawer_count an_is_drawer_count : Option Addr} {sl_is_drawer_count : Array (Option Value)} {oc_is_drawer_count kV_is_drawer_count dc_is_drawer_count pm_is_drawer_count cd_is_drawer_count ct_is_drawer_count : Value}
    {f_is_drawer : Addr} {od_is_drawer an_is_drawer : Option Addr} {sl_is_drawer : Array (Option Value)} {oc_is_drawer kV_is_drawer dc_is_drawer pm_is_drawer cd_is_drawer ct_is_drawer : Value}
    {f_is_bar : Addr} {od_is_bar an_is_bar : Option Addr} {sl_is_bar : Array (Option Value)} {oc_is_bar kV_is_bar dc_is_bar pm_is_bar cd_is_bar ct_is_bar : Value}
    {f_check_drawers : Addr} {od_check_drawers an_check_drawers : Option Addr} {sl_check_drawers : Array (Option Value)} {oc_check_drawers kV_check_drawers dc_check_drawers pm_check_drawers cd_check_drawers ct_check_drawers : Value}
    {f_check_bars : Addr} {od_check_bars an_check_bars : Option Addr} {sl_check_bars : Array (Option Value)} {oc_check_bars kV_check_bars dc_check_bars pm_check_bars cd_check_bars ct_check_bars : Value}
    {f__law_taken : Addr} {od__law_taken an__law_taken : Option Addr} {sl__law_taken : Array (Option Value)} {oc__law_taken kV__law_taken dc__law_taken pm__law_taken cd__law_taken ct__law_taken : Value}
    {f_hinders : Addr} {od_hinders an_hinders : Option Addr} {sl_hinders : Array (Option Value)} {oc_hinders kV_hinders dc_hinders pm_hinders cd_hinders ct_hinders : Value}
    {f_moved : Addr} {od_moved an_moved : Option Addr} {sl_moved : Array (Option Value)} {oc_moved kV_moved dc_moved pm_moved cd_moved ct_moved : Value}
    {f_bars_against : Addr} {od_bars_against an_bars_against : Option Addr} {sl_bars_against : Array (Option Value)} {oc_bars_against kV_bars_against dc_bars_against pm_bars_against cd_bars_against ct_bars_against : Value}
    {f_goes : Addr} {od_goes an_goes : Option Addr} {sl_goes : Array (Option Value)} {oc_goes kV_goes dc_goes pm_goes cd_goes ct_goes : Value}
    {f_has_signs : Addr} {od_has_signs an_has_signs : Option Addr} {sl_has_signs : Array (Option Value)} {oc_has_signs kV_has_signs dc_has_signs pm_has_signs cd_has_signs ct_has_signs : Value}
    {f_is_standing : Addr} {od_is_standing an_is_standing : Option Addr} {sl_is_standing : Array (Option Value)} {oc_is_standing kV_is_standing dc_is_standing pm_is_standing cd_is_standing ct_is_standing : Value}
    {f_is_pattern : Addr} {od_is_pattern an_is_pattern : Option Addr} {sl_is_pattern : Array (Option Value)} {oc_is_pattern kV_is_pattern dc_is_pattern pm_is_pattern cd_is_pattern ct_is_pattern : Value}
    {f_check_cabinet : Addr} {od_check_cabinet an_check_cabinet : Option Addr} {sl_check_cabinet : Array (Option Value)} {oc_check_cabinet kV_check_cabinet dc_check_cabinet pm_check_cabinet cd_check_cabinet ct_check_cabinet : Value}
    {f_check_standing : Addr} {od_check_standing an_check_standing : Option Addr} {sl_check_standing : Array (Option Value)} {oc_check_standing kV_check_standing dc_check_standing pm_check_standing cd_check_standing ct_check_standing : Value}
    {f_check_pattern : Addr} {od_check_pattern an_check_pattern : Option Addr} {sl_check_pattern : Array (Option Value)} {oc_check_pattern kV_check_pattern dc_check_pattern pm_check_pattern cd_check_pattern ct_check_pattern : Value}
    {f_check_drawer : Addr} {od_check_drawer an_check_drawer : Option Addr} {sl_check_drawer : Array (Option Value)} {oc_check_drawer kV_check_drawer dc_check_drawer pm_check_drawer cd_check_drawer ct_check_drawer : Value}
    {f_can : Addr} {od_can an_can : Option Addr} {sl_can : Array (Option Value)} {oc_can kV_can dc_can pm_can cd_can ct_can : Value}
    {f_behind : Addr} {od_behind an_behind : Option Addr} {sl_behind : Array (Option Value)} {oc_behind kV_behind dc_behind pm_behind cd_behind ct_behind : Value}
    {f_first_standing : Addr} {od_first_standing an_first_standing : Option Addr} {sl_first_standing : Array (Option Value)} {oc_first_standing kV_first_standing dc_first_standing pm_first_standing cd_first_standing ct_first_standing : Value}
    {f_row_to : Addr} {od_row_to an_row_to : Option Addr} {sl_row_to : Array (Option Value)} {oc_row_to kV_row_to dc_row_to pm_row_to cd_row_to ct_row_to : Value}
    {f_reached : Addr} {od_reached an_reached : Option Addr} {sl_reached : Array (Option Value)} {oc_reached kV_reached dc_reached pm_reached cd_reached ct_reached : Value}
    {f_is_set : Addr} {od_is_set an_is_set : Option Addr} {sl_is_set : Array (Option Value)} {oc_is_set kV_is_set dc_is_set pm_is_set cd_is_set ct_is_set : Value}
    {f_check_set : Addr} {od_check_set an_check_set : Option Addr} {sl_check_set : Array (Option Value)} {oc_check_set kV_check_set dc_check_set pm_check_set cd_check_set ct_check_set : Value}
    {f_first_apart : Addr} {od_first_apart an_first_apart : Option Addr} {sl_first_apart : Array (Option Value)} {oc_first_apart kV_first_apart dc_first_apart pm_first_apart cd_first_apart ct_first_apart : Value}
    {f_alike : Addr} {od_alike an_alike : Option Addr} {sl_alike : Array (Option Value)} {oc_alike kV_alike dc_alike pm_alike cd_alike ct_alike : Value}
    {f_check_pairs : Addr} {od_check_pairs an_check_pairs : Option Addr} {sl_check_pairs : Array (Option Value)} {oc_check_pairs kV_check_pairs dc_check_pairs pm_check_pairs cd_check_pairs ct_check_pairs : Value}
    {f_check_number : Addr} {od_check_number an_check_number : Option Addr} {sl_check_number : Array (Option Value)} {oc_check_number kV_check_number dc_check_number pm_check_number cd_check_number ct_check_number : Value}
    {f_check_tries : Addr} {od_check_tries an_check_tries : Option Addr} {sl_check_tries : Array (Option Value)} {oc_check_tries kV_check_tries dc_check_tries pm_check_tries cd_check_tries ct_check_tries : Value}
    {f_is_pair : Addr} {od_is_pair an_is_pair : Option Addr} {sl_is_pair : Array (Option Value)} {oc_is_pair kV_is_pair dc_is_pair pm_is_pair cd_is_pair ct_is_pair : Value}
    {f_is_try : Addr} {od_is_try an_is_try : Option Addr} {sl_is_try : Array (Option Value)} {oc_is_try kV_is_try dc_is_try pm_is_try cd_is_try ct_is_try : Value}
    {f_check_few_drawers : Addr} {od_check_few_drawers an_check_few_drawers : Option Addr} {sl_check_few_drawers : Array (Option Value)} {oc_check_few_drawers kV_check_few_drawers dc_check_few_drawers pm_check_few_drawers cd_check_few_drawers ct_check_few_drawers : Value}
    {f_paper : Addr} {od_paper an_paper : Option Addr} {sl_paper : Array (Option Value)} {oc_paper kV_paper dc_paper pm_paper cd_paper ct_paper : Value}
    {f_guards : Addr} {od_guards an_guards : Option Addr} {sl_guards : Array (Option Value)} {oc_guards kV_guards dc_guards pm_guards cd_guards ct_guards : Value}
    {f_count_rows : Addr} {od_count_rows an_count_rows : Option Addr} {sl_count_rows : Array (Option Value)} {oc_count_rows kV_count_rows dc_count_rows pm_count_rows cd_count_rows ct_count_rows : Value}
    {f_sure : Addr} {od_sure an_sure : Option Addr} {sl_sure : Array (Option Value)} {oc_sure kV_sure dc_sure pm_sure cd_sure ct_sure : Value}
    {f_check_words : Addr} {od_check_words an_check_words : Option Addr} {sl_check_words : Array (Option Value)} {oc_check_words kV_check_words dc_check_words pm_check_words cd_check_words ct_check_words : Value}
    {f_words_of : Addr} {od_words_of an_words_of : Option Addr} {sl_words_of : Array (Option Value)} {oc_words_of kV_words_of dc_words_of pm_words_of cd_words_of ct_words_of : Value}
    {f_read_drawers : Addr} {od_read_drawers an_read_drawers : Option Addr} {sl_read_drawers : Array (Option Value)} {oc_read_drawers kV_read_drawers dc_read_drawers pm_read_drawers cd_read_drawers ct_read_drawers : Value}
    {f_read : Addr} {od_read an_read : Option Addr} {sl_read : Array (Option Value)} {oc_read kV_read dc_read pm_read cd_read ct_read : Value}
    {f__law_early : Addr} {od__law_early an__law_early : Option Addr} {sl__law_early : Array (Option Value)} {oc__law_early kV__law_early dc__law_early pm__law_early cd__law_early ct__law_early : Value}
    {f__law_call : Addr} {od__law_call an__law_call : Option Addr} {sl__law_call : Array (Option Value)} {oc__law_call kV__law_call dc__law_call pm__law_call cd__law_call ct__law_call : Value}
    {f__law_first : Addr} {od__law_first an__law_first : Option Addr} {sl__law_first : Array (Option Value)} {oc__law_first kV__law_first dc__law_first pm__law_first cd__law_first ct__law_first : Value}
    {f__law_second : Addr} {od__law_second an__law_second : Option Addr} {sl__law_second : Array (Option Value)} {oc__law_second kV__law_second dc__law_second pm__law_second cd__law_second ct__law_second : Value}
    {f_law : Addr} {od_law an_law : Option Addr} {sl_law : Array (Option Value)} {oc_law kV_law dc_law pm_law cd_law ct_law : Value}
    {C : Addr}
    {f_Cabinet___init__ : Addr} {od_Cabinet___init__ an_Cabinet___init__ : Option Addr} {sl_Cabinet___init__ : Array (Option Value)} {oc_Cabinet___init__ kV_Cabinet___init__ dc_Cabinet___init__ pm_Cabinet___init__ cd_Cabinet___init__ ct_Cabinet___init__ : Value}
    {p_drawers : Addr} {rest_drawers : List Value}
    {f_Cabinet_drawers : Addr} {od_Cabinet_drawers an_Cabinet_drawers : Option Addr} {sl_Cabinet_drawers : Array (Option Value)} {oc_Cabinet_drawers kV_Cabinet_drawers dc_Cabinet_drawers pm_Cabinet_drawers cd_Cabinet_drawers ct_Cabinet_drawers : Value}
    {p_bars : Addr} {rest_bars : List Value}
    {f_Cabinet_bars : Addr} {od_Cabinet_bars an_Cabinet_bars : Option Addr} {sl_Cabinet_bars : Array (Option Value)} {oc_Cabinet_bars kV_Cabinet_bars dc_Cabinet_bars pm_Cabinet_bars cd_Cabinet_bars ct_Cabinet_bars : Value}
    {f_Desk___init__ : Addr} {od_Desk___init__ an_Desk___init__ : Option Addr} {sl_Desk___init__ : Array (Option Value)} {oc_Desk___init__ kV_Desk___init__ dc_Desk___init__ pm_Desk___init__ cd_Desk___init__ ct_Desk___init__ : Value}
    {f_Desk_pull : Addr} {od_Desk_pull an_Desk_pull : Option Addr} {sl_Desk_pull : Array (Option Value)} {oc_Desk_pull kV_Desk_pull dc_Desk_pull pm_Desk_pull cd_Desk_pull ct_Desk_pull : Value}
    {tM : Tok}
    {fW : Addr}
    {ddW : Option Addr} {tW1 tW2 : Tok} {nW : Nat} {slW : Array (Option Value)}
    {fS : Addr}
    {esS : Array DictEntry} {nS : Nat}
    {tS1 : Tok}
    {tS2 : Tok}
    {tST : Tok}
    {tSS : Tok}
    {CBd : Addr}
    {CSt : Addr}
    {CDr : Addr}
    {CSd : Addr}
    {CPt : Addr}
    {CDw : Addr}
    {CCb : Addr}
    {CUn : Addr}
    {CBB NBB fBB ccBB cdaBB DEBB : Addr}
    {nmBB qBB : Str} {bsBB : List Value} {snBB : List Str} {sbBB : List Value} {abBB : Bool} {colBB : Option Bool} {ddBB : Option Addr} {k0BB k1BB k2BB k3BB k5BB : Option Value}
    {ocfBB kVfBB docfBB pmfBB ctfBB : Value} {odfBB anfBB : Option Addr} {oslfBB : Array (Option Value)}
    {cclfBB : Value} {cddfBB : Option Addr} {vsfBB : Array Value} {ccsfBB : Array (Option Value)}
    {fileBB : Str} {tfBB : Tok}
    {clcBB : Value} {cldcBB : Option Addr} {cslcBB : Array (Option Value)}
    {CBP NBP fBP ccBP cdaBP DEBP : Addr}
    {nmBP qBP : Str} {bsBP : List Value} {snBP : List Str} {sbBP : List Value} {abBP : Bool} {colBP : Option Bool} {ddBP : Option Addr} {k0BP k1BP k2BP k3BP k5BP : Option Value}
    {ocfBP kVfBP docfBP pmfBP ctfBP : Value} {odfBP anfBP : Option Addr} {oslfBP : Array (Option Value)}
    {cclfBP : Value} {cddfBP : Option Addr} {vsfBP : Array Value} {ccsfBP : Array (Option Value)}
    {fileBP : Str} {tfBP : Tok}
    {clcBP : Value} {cldcBP : Option Addr} {cslcBP : Array (Option Value)}
    {CTM NTM fTM ccTM cdaTM DETM : Addr}
    {nmTM qTM : Str} {bsTM : List Value} {snTM : List Str} {sbTM : List Value} {abTM : Bool} {colTM : Option Bool} {ddTM : Option Addr} {k0TM k1TM k2TM k3TM k5TM : Option Value}
    {ocfTM kVfTM docfTM pmfTM ctfTM : Value} {odfTM anfTM : Option Addr} {oslfTM : Array (Option Value)}
    {cclfTM : Value} {cddfTM : Option Addr} {vsfTM : Array Value} {ccsfTM : Array (Option Value)}
    {fileTM : Str} {tfTM : Tok}
    {clcTM : Value} {cldcTM : Option Addr} {cslcTM : Array (Option Value)}
    {CBN NBN fBN ccBN cdaBN DEBN : Addr}
    {nmBN qBN : Str} {bsBN : List Value} {snBN : List Str} {sbBN : List Value} {abBN : Bool} {colBN : Option Bool} {ddBN : Option Addr} {k0BN k1BN k2BN k3BN k5BN : Option Value}
    {ocfBN kVfBN docfBN pmfBN ctfBN : Value} {odfBN anfBN : Option Addr} {oslfBN : Array (Option Value)}
    {cclfBN : Value} {cddfBN : Option Addr} {vsfBN : Array Value} {ccsfBN : Array (Option Value)}
    {fileBN : Str} {tfBN : Tok}
    {clcBN : Value} {cldcBN : Option Addr} {cslcBN : Array (Option Value)}
    {CBT NBT fBT ccBT cdaBT DEBT : Addr}
    {nmBT qBT : Str} {bsBT : List Value} {snBT : List Str} {sbBT : List Value} {abBT : Bool} {colBT : Option Bool} {ddBT : Option Addr} {k0BT k1BT k2BT k3BT k5BT : Option Value}
    {ocfBT kVfBT docfBT pmfBT ctfBT : Value} {odfBT anfBT : Option Addr} {oslfBT : Array (Option Value)}
    {cclfBT : Value} {cddfBT : Option Addr} {vsfBT : Array Value} {ccsfBT : Array (Option Value)}
    {fileBT : Str} {tfBT : Tok}
    {clcBT : Value} {cldcBT : Option Addr} {cslcBT : Array (Option Value)}
    {CIT NIT fIT ccIT cdaIT DEIT : Addr}
    {nmIT qIT : Str} {bsIT : List Value} {snIT : List Str} {sbIT : List Value} {abIT : Bool} {colIT : Option Bool} {ddIT : Option Addr} {k0IT k1IT k2IT k3IT k5IT : Option Value}
    {ocfIT kVfIT docfIT pmfIT ctfIT : Value} {odfIT anfIT : Option Addr} {oslfIT : Array (Option Value)}
    {cclfIT : Value} {cddfIT : Option Addr} {vsfIT : Array Value} {ccsfIT : Array (Option Value)}
    {fileIT : Str} {tfIT : Tok}
    {clcIT : Value} {cldcIT : Option Addr} {cslcIT : Array (Option Value)}
    {tMT : Tok}
    {tMP : Tok}
    {tMG : Tok}
    {tMA : Tok}
    {CDE : Addr}
    {CDk : Addr}
    (aDk : PySem.W.nsIn K mainGlobals "Desk" = some (some (.ref CDk)))
    (a_Desk___init__ : PySem.W.findIn K (.ref CDk) "__init__" = some (some (.ref f_Desk___init__)))
    (a_Desk_pull : PySem.W.findIn K (.ref CDk) "pull" = some (some (.ref f_Desk_pull)))
    (a_is_integer : PySem.W.nsIn K mainGlobals "is_integer" = some (some (.ref f_is_integer)))
    (l_is_integer : K.lookup f_is_integer = some ⟨oc_is_integer, od_is_integer, .func (PySem.W.fnOf "is_integer" "is_integer" (defArgs sIsInt) (defBody sIsInt) (defScope sIsInt) .none kV_is_integer dc_is_integer pm_is_integer an_is_integer cd_is_integer ct_is_integer), sl_is_integer⟩)
    (c_is_integer : PySem.W.codeIn K cd_is_integer "is_integer" = true)
    (k_is_integer : PySem.W.keepIn K (.ref f_is_integer) = true)
    (a_is_drawer_count : PySem.W.nsIn K mainGlobals "is_drawer_count" = some (some (.ref f_is_drawer_count)))
    (l_is_drawer_count : K.lookup f_is_drawer_count = some ⟨oc_is_drawer_count, od_is_drawer_count, .func (PySem.W.fnOf "is_drawer_count" "is_drawer_count" (defArgs sIsCount) (defBody sIsCount) (defScope sIsCount) .none kV_is_drawer_count dc_is_drawer_count pm_is_drawer_count an_is_drawer_count cd_is_drawer_count ct_is_drawer_count), sl_is_drawer_count⟩)
    (c_is_drawer_count : PySem.W.codeIn K cd_is_drawer_count "is_drawer_count" = true)
    (k_is_drawer_count : PySem.W.keepIn K (.ref f_is_drawer_count) = true)
    (a_is_drawer : PySem.W.nsIn K mainGlobals "is_drawer" = some (some (.ref f_is_drawer)))
    (l_is_drawer : K.lookup f_is_drawer = some ⟨oc_is_drawer, od_is_drawer, .func (PySem.W.fnOf "is_drawer" "is_drawer" (defArgs sIsDrawer) (defBody sIsDrawer) (defScope sIsDrawer) .none kV_is_drawer dc_is_drawer pm_is_drawer an_is_drawer cd_is_drawer ct_is_drawer), sl_is_drawer⟩)
    (c_is_drawer : PySem.W.codeIn K cd_is_drawer "is_drawer" = true)
    (k_is_drawer : PySem.W.keepIn K (.ref f_is_drawer) = true)
    (a_is_bar : PySem.W.nsIn K mainGlobals "is_bar" = some (some (.ref f_is_bar)))
    (l_is_bar : K.lookup f_is_bar = some ⟨oc_is_bar, od_is_bar, .func (PySem.W.fnOf "is_bar" "is_bar" (defArgs sIsBar) (defBody sIsBar) (defScope sIsBar) .none kV_is_bar dc_is_bar pm_is_bar an_is_bar cd_is_bar ct_is_bar), sl_is_bar⟩)
    (c_is_bar : PySem.W.codeIn K cd_is_bar "is_bar" = true)
    (k_is_bar : PySem.W.keepIn K (.ref f_is_bar) = true)
    (a_check_drawers : PySem.W.nsIn K mainGlobals "check_drawers" = some (some (.ref f_check_drawers)))
    (l_check_drawers : K.lookup f_check_drawers = some ⟨oc_check_drawers, od_check_drawers, .func (PySem.W.fnOf "check_drawers" "check_drawers" (defArgs sCheckDrawers) (defBody sCheckDrawers) (defScope sCheckDrawers) .none kV_check_drawers dc_check_drawers pm_check_drawers an_check_drawers cd_check_drawers ct_check_drawers), sl_check_drawers⟩)
    (c_check_drawers : PySem.W.codeIn K cd_check_drawers "check_drawers" = true)
    (k_check_drawers : PySem.W.keepIn K (.ref f_check_drawers) = true)
    (a_check_bars : PySem.W.nsIn K mainGlobals "check_bars" = some (some (.ref f_check_bars)))
    (l_check_bars : K.lookup f_check_bars = some ⟨oc_check_bars, od_check_bars, .func (PySem.W.fnOf "check_bars" "check_bars" (defArgs sCheckBars) (defBody sCheckBars) (defScope sCheckBars) .none kV_check_bars dc_check_bars pm_check_bars an_check_bars cd_check_bars ct_check_bars), sl_check_bars⟩)
    (c_check_bars : PySem.W.codeIn K cd_check_bars "check_bars" = true)
    (k_check_bars : PySem.W.keepIn K (.ref f_check_bars) = true)
    (a__law_taken : PySem.W.nsIn K mainGlobals "_law_taken" = some (some (.ref f__law_taken)))
    (l__law_taken : K.lookup f__law_taken = some ⟨oc__law_taken, od__law_taken, .func (PySem.W.fnOf "_law_taken" "_law_taken" (defArgs sTaken) (defBody sTaken) (defScope sTaken) .none kV__law_taken dc__law_taken pm__law_taken an__law_taken cd__law_taken ct__law_taken), sl__law_taken⟩)
    (c__law_taken : PySem.W.codeIn K cd__law_taken "_law_taken" = true)
    (k__law_taken : PySem.W.keepIn K (.ref f__law_taken) = true)
    (a_hinders : PySem.W.nsIn K mainGlobals "hinders" = some (some (.ref f_hinders)))
    (l_hinders : K.lookup f_hinders = some ⟨oc_hinders, od_hinders, .func (PySem.W.fnOf "hinders" "hinders" (defArgs s_hinders) (defBody s_hinders) (defScope s_hinders) .none kV_hinders dc_hinders pm_hinders an_hinders cd_hinders ct_hinders), sl_hinders⟩)
    (c_hinders : PySem.W.codeIn K cd_hinders "hinders" = true)
    (k_hinders : PySem.W.keepIn K (.ref f_hinders) = true)
    (a_moved : PySem.W.nsIn K mainGlobals "moved" = some (some (.ref f_moved)))
    (l_moved : K.lookup f_moved = some ⟨oc_moved, od_moved, .func (PySem.W.fnOf "moved" "moved" (defArgs s_moved) (defBody s_moved) (defScope s_moved) .none kV_moved dc_moved pm_moved an_moved cd_moved ct_moved), sl_moved⟩)
    (c_moved : PySem.W.codeIn K cd_moved "moved" = true)
    (k_moved : PySem.W.keepIn K (.ref f_moved) = true)
    (a_bars_against : PySem.W.nsIn K mainGlobals "bars_against" = some (some (.ref f_bars_against)))
    (l_bars_against : K.lookup f_bars_against = some ⟨oc_bars_against, od_bars_against, .func (PySem.W.fnOf "bars_against" "bars_against" (defArgs s_bars_against) (defBody s_bars_against) (defScope s_bars_against) .none kV_bars_against dc_bars_against pm_bars_against an_bars_against cd_bars_against ct_bars_against), sl_bars_against⟩)
    (c_bars_against : PySem.W.codeIn K cd_bars_against "bars_against" = true)
    (k_bars_against : PySem.W.keepIn K (.ref f_bars_against) = true)
    (a_goes : PySem.W.nsIn K mainGlobals "goes" = some (some (.ref f_goes)))
    (l_goes : K.lookup f_goes = some ⟨oc_goes, od_goes, .func (PySem.W.fnOf "goes" "goes" (defArgs s_goes) (defBody s_goes) (defScope s_goes) .none kV_goes dc_goes pm_goes an_goes cd_goes ct_goes), sl_goes⟩)
    (c_goes : PySem.W.codeIn K cd_goes "goes" = true)
    (k_goes : PySem.W.keepIn K (.ref f_goes) = true)
    (a_has_signs : PySem.W.nsIn K mainGlobals "has_signs" = some (some (.ref f_has_signs)))
    (l_has_signs : K.lookup f_has_signs = some ⟨oc_has_signs, od_has_signs, .func (PySem.W.fnOf "has_signs" "has_signs" (defArgs s_has_signs) (defBody s_has_signs) (defScope s_has_signs) .none kV_has_signs dc_has_signs pm_has_signs an_has_signs cd_has_signs ct_has_signs), sl_has_signs⟩)
    (c_has_signs : PySem.W.codeIn K cd_has_signs "has_signs" = true)
    (k_has_signs : PySem.W.keepIn K (.ref f_has_signs) = true)
    (a_is_standing : PySem.W.nsIn K mainGlobals "is_standing" = some (some (.ref f_is_standing)))
    (l_is_standing : K.lookup f_is_standing = some ⟨oc_is_standing, od_is_standing, .func (PySem.W.fnOf "is_standing" "is_standing" (defArgs s_is_standing) (defBody s_is_standing) (defScope s_is_standing) .none kV_is_standing dc_is_standing pm_is_standing an_is_standing cd_is_standing ct_is_standing), sl_is_standing⟩)
    (c_is_standing : PySem.W.codeIn K cd_is_standing "is_standing" = true)
    (k_is_standing : PySem.W.keepIn K (.ref f_is_standing) = true)
    (a_is_pattern : PySem.W.nsIn K mainGlobals "is_pattern" = some (some (.ref f_is_pattern)))
    (l_is_pattern : K.lookup f_is_pattern = some ⟨oc_is_pattern, od_is_pattern, .func (PySem.W.fnOf "is_pattern" "is_pattern" (defArgs s_is_pattern) (defBody s_is_pattern) (defScope s_is_pattern) .none kV_is_pattern dc_is_pattern pm_is_pattern an_is_pattern cd_is_pattern ct_is_pattern), sl_is_pattern⟩)
    (c_is_pattern : PySem.W.codeIn K cd_is_pattern "is_pattern" = true)
    (k_is_pattern : PySem.W.keepIn K (.ref f_is_pattern) = true)
    (a_check_cabinet : PySem.W.nsIn K mainGlobals "check_cabinet" = some (some (.ref f_check_cabinet)))
    (l_check_cabinet : K.lookup f_check_cabinet = some ⟨oc_check_cabinet, od_check_cabinet, .func (PySem.W.fnOf "check_cabinet" "check_cabinet" (defArgs s_check_cabinet) (defBody s_check_cabinet) (defScope s_check_cabinet) .none kV_check_cabinet dc_check_cabinet pm_check_cabinet an_check_cabinet cd_check_cabinet ct_check_cabinet), sl_check_cabinet⟩)
    (c_check_cabinet : PySem.W.codeIn K cd_check_cabinet "check_cabinet" = true)
    (k_check_cabinet : PySem.W.keepIn K (.ref f_check_cabinet) = true)
    (a_check_standing : PySem.W.nsIn K mainGlobals "check_standing" = some (some (.ref f_check_standing)))
    (l_check_standing : K.lookup f_check_standing = some ⟨oc_check_standing, od_check_standing, .func (PySem.W.fnOf "check_standing" "check_standing" (defArgs s_check_standing) (defBody s_check_standing) (defScope s_check_standing) .none kV_check_standing dc_check_standing pm_check_standing an_check_standing cd_check_standing ct_check_standing), sl_check_standing⟩)
    (c_check_standing : PySem.W.codeIn K cd_check_standing "check_standing" = true)
    (k_check_standing : PySem.W.keepIn K (.ref f_check_standing) = true)
    (a_check_pattern : PySem.W.nsIn K mainGlobals "check_pattern" = some (some (.ref f_check_pattern)))
    (l_check_pattern : K.lookup f_check_pattern = some ⟨oc_check_pattern, od_check_pattern, .func (PySem.W.fnOf "check_pattern" "check_pattern" (defArgs s_check_pattern) (defBody s_check_pattern) (defScope s_check_pattern) .none kV_check_pattern dc_check_pattern pm_check_pattern an_check_pattern cd_check_pattern ct_check_pattern), sl_check_pattern⟩)
    (c_check_pattern : PySem.W.codeIn K cd_check_pattern "check_pattern" = true)
    (k_check_pattern : PySem.W.keepIn K (.ref f_check_pattern) = true)
    (a_check_drawer : PySem.W.nsIn K mainGlobals "check_drawer" = some (some (.ref f_check_drawer)))
    (l_check_drawer : K.lookup f_check_drawer = some ⟨oc_check_drawer, od_check_drawer, .func (PySem.W.fnOf "check_drawer" "check_drawer" (defArgs s_check_drawer) (defBody s_check_drawer) (defScope s_check_drawer) .none kV_check_drawer dc_check_drawer pm_check_drawer an_check_drawer cd_check_drawer ct_check_drawer), sl_check_drawer⟩)
    (c_check_drawer : PySem.W.codeIn K cd_check_drawer "check_drawer" = true)
    (k_check_drawer : PySem.W.keepIn K (.ref f_check_drawer) = true)
    (a_can : PySem.W.nsIn K mainGlobals "can" = some (some (.ref f_can)))
    (l_can : K.lookup f_can = some ⟨oc_can, od_can, .func (PySem.W.fnOf "can" "can" (defArgs s_can) (defBody s_can) (defScope s_can) .none kV_can dc_can pm_can an_can cd_can ct_can), sl_can⟩)
    (c_can : PySem.W.codeIn K cd_can "can" = true)
    (k_can : PySem.W.keepIn K (.ref f_can) = true)
    (a_behind : PySem.W.nsIn K mainGlobals "behind" = some (some (.ref f_behind)))
    (l_behind : K.lookup f_behind = some ⟨oc_behind, od_behind, .func (PySem.W.fnOf "behind" "behind" (defArgs s_behind) (defBody s_behind) (defScope s_behind) .none kV_behind dc_behind pm_behind an_behind cd_behind ct_behind), sl_behind⟩)
    (c_behind : PySem.W.codeIn K cd_behind "behind" = true)
    (k_behind : PySem.W.keepIn K (.ref f_behind) = true)
    (a_first_standing : PySem.W.nsIn K mainGlobals "first_standing" = some (some (.ref f_first_standing)))
    (l_first_standing : K.lookup f_first_standing = some ⟨oc_first_standing, od_first_standing, .func (PySem.W.fnOf "first_standing" "first_standing" (defArgs s_first_standing) (defBody s_first_standing) (defScope s_first_standing) .none kV_first_standing dc_first_standing pm_first_standing an_first_standing cd_first_standing ct_first_standing), sl_first_standing⟩)
    (c_first_standing : PySem.W.codeIn K cd_first_standing "first_standing" = true)
    (k_first_standing : PySem.W.keepIn K (.ref f_first_standing) = true)
    (a_row_to : PySem.W.nsIn K mainGlobals "row_to" = some (some (.ref f_row_to)))
    (l_row_to : K.lookup f_row_to = some ⟨oc_row_to, od_row_to, .func (PySem.W.fnOf "row_to" "row_to" (defArgs s_row_to) (defBody s_row_to) (defScope s_row_to) .none kV_row_to dc_row_to pm_row_to an_row_to cd_row_to ct_row_to), sl_row_to⟩)
    (c_row_to : PySem.W.codeIn K cd_row_to "row_to" = true)
    (k_row_to : PySem.W.keepIn K (.ref f_row_to) = true)
    (a_reached : PySem.W.nsIn K mainGlobals "reached" = some (some (.ref f_reached)))
    (l_reached : K.lookup f_reached = some ⟨oc_reached, od_reached, .func (PySem.W.fnOf "reached" "reached" (defArgs s_reached) (defBody s_reached) (defScope s_reached) .none kV_reached dc_reached pm_reached an_reached cd_reached ct_reached), sl_reached⟩)
    (c_reached : PySem.W.codeIn K cd_reached "reached" = true)
    (k_reached : PySem.W.keepIn K (.ref f_reached) = true)
    (a_is_set : PySem.W.nsIn K mainGlobals "is_set" = some (some (.ref f_is_set)))
    (l_is_set : K.lookup f_is_set = some ⟨oc_is_set, od_is_set, .func (PySem.W.fnOf "is_set" "is_set" (defArgs s_is_set) (defBody s_is_set) (defScope s_is_set) .none kV_is_set dc_is_set pm_is_set an_is_set cd_is_set ct_is_set), sl_is_set⟩)
    (c_is_set : PySem.W.codeIn K cd_is_set "is_set" = true)
    (k_is_set : PySem.W.keepIn K (.ref f_is_set) = true)
    (a_check_set : PySem.W.nsIn K mainGlobals "check_set" = some (some (.ref f_check_set)))
    (l_check_set : K.lookup f_check_set = some ⟨oc_check_set, od_check_set, .func (PySem.W.fnOf "check_set" "check_set" (defArgs s_check_set) (defBody s_check_set) (defScope s_check_set) .none kV_check_set dc_check_set pm_check_set an_check_set cd_check_set ct_check_set), sl_check_set⟩)
    (c_check_set : PySem.W.codeIn K cd_check_set "check_set" = true)
    (k_check_set : PySem.W.keepIn K (.ref f_check_set) = true)
    (a_first_apart : PySem.W.nsIn K mainGlobals "first_apart" = some (some (.ref f_first_apart)))
    (l_first_apart : K.lookup f_first_apart = some ⟨oc_first_apart, od_first_apart, .func (PySem.W.fnOf "first_apart" "first_apart" (defArgs s_first_apart) (defBody s_first_apart) (defScope s_first_apart) .none kV_first_apart dc_first_apart pm_first_apart an_first_apart cd_first_apart ct_first_apart), sl_first_apart⟩)
    (c_first_apart : PySem.W.codeIn K cd_first_apart "first_apart" = true)
    (k_first_apart : PySem.W.keepIn K (.ref f_first_apart) = true)
    (a_alike : PySem.W.nsIn K mainGlobals "alike" = some (some (.ref f_alike)))
    (l_alike : K.lookup f_alike = some ⟨oc_alike, od_alike, .func (PySem.W.fnOf "alike" "alike" (defArgs s_alike) (defBody s_alike) (defScope s_alike) .none kV_alike dc_alike pm_alike an_alike cd_alike ct_alike), sl_alike⟩)
    (c_alike : PySem.W.codeIn K cd_alike "alike" = true)
    (k_alike : PySem.W.keepIn K (.ref f_alike) = true)
    (a_check_pairs : PySem.W.nsIn K mainGlobals "check_pairs" = some (some (.ref f_check_pairs)))
    (l_check_pairs : K.lookup f_check_pairs = some ⟨oc_check_pairs, od_check_pairs, .func (PySem.W.fnOf "check_pairs" "check_pairs" (defArgs s_check_pairs) (defBody s_check_pairs) (defScope s_check_pairs) .none kV_check_pairs dc_check_pairs pm_check_pairs an_check_pairs cd_check_pairs ct_check_pairs), sl_check_pairs⟩)
    (c_check_pairs : PySem.W.codeIn K cd_check_pairs "check_pairs" = true)
    (k_check_pairs : PySem.W.keepIn K (.ref f_check_pairs) = true)
    (a_check_number : PySem.W.nsIn K mainGlobals "check_number" = some (some (.ref f_check_number)))
    (l_check_number : K.lookup f_check_number = some ⟨oc_check_number, od_check_number, .func (PySem.W.fnOf "check_number" "check_number" (defArgs s_check_number) (defBody s_check_number) (defScope s_check_number) .none kV_check_number dc_check_number pm_check_number an_check_number cd_check_number ct_check_number), sl_check_number⟩)
    (c_check_number : PySem.W.codeIn K cd_check_number "check_number" = true)
    (k_check_number : PySem.W.keepIn K (.ref f_check_number) = true)
    (a_check_tries : PySem.W.nsIn K mainGlobals "check_tries" = some (some (.ref f_check_tries)))
    (l_check_tries : K.lookup f_check_tries = some ⟨oc_check_tries, od_check_tries, .func (PySem.W.fnOf "check_tries" "check_tries" (defArgs s_check_tries) (defBody s_check_tries) (defScope s_check_tries) .none kV_check_tries dc_check_tries pm_check_tries an_check_tries cd_check_tries ct_check_tries), sl_check_tries⟩)
    (c_check_tries : PySem.W.codeIn K cd_check_tries "check_tries" = true)
    (k_check_tries : PySem.W.keepIn K (.ref f_check_tries) = true)
    (a_is_pair : PySem.W.nsIn K mainGlobals "is_pair" = some (some (.ref f_is_pair)))
    (l_is_pair : K.lookup f_is_pair = some ⟨oc_is_pair, od_is_pair, .func (PySem.W.fnOf "is_pair" "is_pair" (defArgs s_is_pair) (defBody s_is_pair) (defScope s_is_pair) .none kV_is_pair dc_is_pair pm_is_pair an_is_pair cd_is_pair ct_is_pair), sl_is_pair⟩)
    (c_is_pair : PySem.W.codeIn K cd_is_pair "is_pair" = true)
    (k_is_pair : PySem.W.keepIn K (.ref f_is_pair) = true)
    (a_is_try : PySem.W.nsIn K mainGlobals "is_try" = some (some (.ref f_is_try)))
    (l_is_try : K.lookup f_is_try = some ⟨oc_is_try, od_is_try, .func (PySem.W.fnOf "is_try" "is_try" (defArgs s_is_try) (defBody s_is_try) (defScope s_is_try) .none kV_is_try dc_is_try pm_is_try an_is_try cd_is_try ct_is_try), sl_is_try⟩)
    (c_is_try : PySem.W.codeIn K cd_is_try "is_try" = true)
    (k_is_try : PySem.W.keepIn K (.ref f_is_try) = true)
    (a_check_few_drawers : PySem.W.nsIn K mainGlobals "check_few_drawers" = some (some (.ref f_check_few_drawers)))
    (l_check_few_drawers : K.lookup f_check_few_drawers = some ⟨oc_check_few_drawers, od_check_few_drawers, .func (PySem.W.fnOf "check_few_drawers" "check_few_drawers" (defArgs s_check_few_drawers) (defBody s_check_few_drawers) (defScope s_check_few_drawers) .none kV_check_few_drawers dc_check_few_drawers pm_check_few_drawers an_check_few_drawers cd_check_few_drawers ct_check_few_drawers), sl_check_few_drawers⟩)
    (c_check_few_drawers : PySem.W.codeIn K cd_check_few_drawers "check_few_drawers" = true)
    (k_check_few_drawers : PySem.W.keepIn K (.ref f_check_few_drawers) = true)
    (a_paper : PySem.W.nsIn K mainGlobals "paper" = some (some (.ref f_paper)))
    (l_paper : K.lookup f_paper = some ⟨oc_paper, od_paper, .func (PySem.W.fnOf "paper" "paper" (defArgs s_paper) (defBody s_paper) (defScope s_paper) .none kV_paper dc_paper pm_paper an_paper cd_paper ct_paper), sl_paper⟩)
    (c_paper : PySem.W.codeIn K cd_paper "paper" = true)
    (k_paper : PySem.W.keepIn K (.ref f_paper) = true)
    (a_guards : PySem.W.nsIn K mainGlobals "guards" = some (some (.ref f_guards)))
    (l_guards : K.lookup f_guards = some ⟨oc_guards, od_guards, .func (PySem.W.fnOf "guards" "guards" (defArgs s_guards) (defBody s_guards) (defScope s_guards) .none kV_guards dc_guards pm_guards an_guards cd_guards ct_guards), sl_guards⟩)
    (c_guards : PySem.W.codeIn K cd_guards "guards" = true)
    (k_guards : PySem.W.keepIn K (.ref f_guards) = true)
    (a_count_rows : PySem.W.nsIn K mainGlobals "count_rows" = some (some (.ref f_count_rows)))
    (l_count_rows : K.lookup f_count_rows = some ⟨oc_count_rows, od_count_rows, .func (PySem.W.fnOf "count_rows" "count_rows" (defArgs s_count_rows) (defBody s_count_rows) (defScope s_count_rows) .none kV_count_rows dc_count_rows pm_count_rows an_count_rows cd_count_rows ct_count_rows), sl_count_rows⟩)
    (c_count_rows : PySem.W.codeIn K cd_count_rows "count_rows" = true)
    (k_count_rows : PySem.W.keepIn K (.ref f_count_rows) = true)
    (a_sure : PySem.W.nsIn K mainGlobals "sure" = some (some (.ref f_sure)))
    (l_sure : K.lookup f_sure = some ⟨oc_sure, od_sure, .func (PySem.W.fnOf "sure" "sure" (defArgs s_sure) (defBody s_sure) (defScope s_sure) .none kV_sure dc_sure pm_sure an_sure cd_sure ct_sure), sl_sure⟩)
    (c_sure : PySem.W.codeIn K cd_sure "sure" = true)
    (k_sure : PySem.W.keepIn K (.ref f_sure) = true)
    (a_check_words : PySem.W.nsIn K mainGlobals "check_words" = some (some (.ref f_check_words)))
    (l_check_words : K.lookup f_check_words = some ⟨oc_check_words, od_check_words, .func (PySem.W.fnOf "check_words" "check_words" (defArgs s_check_words) (defBody s_check_words) (defScope s_check_words) .none kV_check_words dc_check_words pm_check_words an_check_words cd_check_words ct_check_words), sl_check_words⟩)
    (c_check_words : PySem.W.codeIn K cd_check_words "check_words" = true)
    (k_check_words : PySem.W.keepIn K (.ref f_check_words) = true)
    (a_words_of : PySem.W.nsIn K mainGlobals "words_of" = some (some (.ref f_words_of)))
    (l_words_of : K.lookup f_words_of = some ⟨oc_words_of, od_words_of, .func (PySem.W.fnOf "words_of" "words_of" (defArgs s_words_of) (defBody s_words_of) (defScope s_words_of) .none kV_words_of dc_words_of pm_words_of an_words_of cd_words_of ct_words_of), sl_words_of⟩)
    (c_words_of : PySem.W.codeIn K cd_words_of "words_of" = true)
    (k_words_of : PySem.W.keepIn K (.ref f_words_of) = true)
    (a_read_drawers : PySem.W.nsIn K mainGlobals "read_drawers" = some (some (.ref f_read_drawers)))
    (l_read_drawers : K.lookup f_read_drawers = some ⟨oc_read_drawers, od_read_drawers, .func (PySem.W.fnOf "read_drawers" "read_drawers" (defArgs s_read_drawers) (defBody s_read_drawers) (defScope s_read_drawers) .none kV_read_drawers dc_read_drawers pm_read_drawers an_read_drawers cd_read_drawers ct_read_drawers), sl_read_drawers⟩)
    (c_read_drawers : PySem.W.codeIn K cd_read_drawers "read_drawers" = true)
    (k_read_drawers : PySem.W.keepIn K (.ref f_read_drawers) = true)
    (a_read : PySem.W.nsIn K mainGlobals "read" = some (some (.ref f_read)))
    (l_read : K.lookup f_read = some ⟨oc_read, od_read, .func (PySem.W.fnOf "read" "read" (defArgs s_read) (defBody s_read) (defScope s_read) .none kV_read dc_read pm_read an_read cd_read ct_read), sl_read⟩)
    (c_read : PySem.W.codeIn K cd_read "read" = true)
    (k_read : PySem.W.keepIn K (.ref f_read) = true)
    (a__law_early : PySem.W.nsIn K mainGlobals "_law_early" = some (some (.ref f__law_early)))
    (l__law_early : K.lookup f__law_early = some ⟨oc__law_early, od__law_early, .func (PySem.W.fnOf "_law_early" "_law_early" (defArgs s__law_early) (defBody s__law_early) (defScope s__law_early) .none kV__law_early dc__law_early pm__law_early an__law_early cd__law_early ct__law_early), sl__law_early⟩)
    (c__law_early : PySem.W.codeIn K cd__law_early "_law_early" = true)
    (k__law_early : PySem.W.keepIn K (.ref f__law_early) = true)
    (a__law_call : PySem.W.nsIn K mainGlobals "_law_call" = some (some (.ref f__law_call)))
    (l__law_call : K.lookup f__law_call = some ⟨oc__law_call, od__law_call, .func (PySem.W.fnOf "_law_call" "_law_call" (defArgs s__law_call) (defBody s__law_call) (defScope s__law_call) .none kV__law_call dc__law_call pm__law_call an__law_call cd__law_call ct__law_call), sl__law_call⟩)
    (c__law_call : PySem.W.codeIn K cd__law_call "_law_call" = true)
    (k__law_call : PySem.W.keepIn K (.ref f__law_call) = true)
    (a__law_first : PySem.W.nsIn K mainGlobals "_law_first" = some (some (.ref f__law_first)))
    (l__law_first : K.lookup f__law_first = some ⟨oc__law_first, od__law_first, .func (PySem.W.fnOf "_law_first" "_law_first" (defArgs s__law_first) (defBody s__law_first) (defScope s__law_first) .none kV__law_first dc__law_first pm__law_first an__law_first cd__law_first ct__law_first), sl__law_first⟩)
    (c__law_first : PySem.W.codeIn K cd__law_first "_law_first" = true)
    (k__law_first : PySem.W.keepIn K (.ref f__law_first) = true)
    (a__law_second : PySem.W.nsIn K mainGlobals "_law_second" = some (some (.ref f__law_second)))
    (l__law_second : K.lookup f__law_second = some ⟨oc__law_second, od__law_second, .func (PySem.W.fnOf "_law_second" "_law_second" (defArgs s__law_second) (defBody s__law_second) (defScope s__law_second) .none kV__law_second dc__law_second pm__law_second an__law_second cd__law_second ct__law_second), sl__law_second⟩)
    (c__law_second : PySem.W.codeIn K cd__law_second "_law_second" = true)
    (k__law_second : PySem.W.keepIn K (.ref f__law_second) = true)
    (a_law : PySem.W.nsIn K mainGlobals "law" = some (some (.ref f_law)))
    (l_law : K.lookup f_law = some ⟨oc_law, od_law, .func (PySem.W.fnOf "law" "law" (defArgs s_law) (defBody s_law) (defScope s_law) .none kV_law dc_law pm_law an_law cd_law ct_law), sl_law⟩)
    (c_law : PySem.W.codeIn K cd_law "law" = true)
    (k_law : PySem.W.keepIn K (.ref f_law) = true)
    (aC : PySem.W.nsIn K mainGlobals "Cabinet" = some (some (.ref C)))
    (pg : PySem.W.plainGet K C Str.empty = true)
    (hd : PySem.W.hasDictIn K C = true)
    (po : PySem.W.plainOver K C = true)
    (sa : PySem.W.findIn K (.ref C) "__setattr__" = some (some (.builtin "object.__setattr__")))
    (mk : PySem.W.makesIn K C = true)
    (kc : PySem.W.keepIn K (.ref C) = true)
    (nD : PySem.W.findIn K (.ref C) "_drawers" = some none)
    (nB : PySem.W.findIn K (.ref C) "_bars" = some none)
    (a_Cabinet___init__ : PySem.W.findIn K (.ref C) "__init__" = some (some (.ref f_Cabinet___init__)))
    (l_Cabinet___init__ : K.lookup f_Cabinet___init__ = some ⟨oc_Cabinet___init__, od_Cabinet___init__, .func (PySem.W.fnOf "__init__" "Cabinet.__init__" (defArgs sInit) (defBody sInit) (defScope sInit) .none kV_Cabinet___init__ dc_Cabinet___init__ pm_Cabinet___init__ an_Cabinet___init__ cd_Cabinet___init__ ct_Cabinet___init__), sl_Cabinet___init__⟩)
    (c_Cabinet___init__ : PySem.W.codeIn K cd_Cabinet___init__ "Cabinet.__init__" = true)
    (k_Cabinet___init__ : PySem.W.keepIn K (.ref f_Cabinet___init__) = true)
    (i_init : PySem.W.isFn K (.ref f_Cabinet___init__) = true)
    (pa_drawers : PySem.W.findIn K (.ref C) "drawers" = some (some (.ref p_drawers)))
    (pg_drawers : PySem.W.specialIn K (.ref p_drawers) "__get__" = some (some (.builtin "property.__get__")))
    (pt_drawers : PySem.W.takesIn K (.ref p_drawers) = some true)
    (pr_drawers : PySem.W.recIn K p_drawers "property" = some (.ref f_Cabinet_drawers :: rest_drawers))
    (l_Cabinet_drawers : K.lookup f_Cabinet_drawers = some ⟨oc_Cabinet_drawers, od_Cabinet_drawers, .func (PySem.W.fnOf "drawers" "Cabinet.drawers" (defArgs sDrawers) (defBody sDrawers) (defScope sDrawers) .none kV_Cabinet_drawers dc_Cabinet_drawers pm_Cabinet_drawers an_Cabinet_drawers cd_Cabinet_drawers ct_Cabinet_drawers), sl_Cabinet_drawers⟩)
    (c_Cabinet_drawers : PySem.W.codeIn K cd_Cabinet_drawers "Cabinet.drawers" = true)
    (k_Cabinet_drawers : PySem.W.keepIn K (.ref f_Cabinet_drawers) = true)
    (pa_bars : PySem.W.findIn K (.ref C) "bars" = some (some (.ref p_bars)))
    (pg_bars : PySem.W.specialIn K (.ref p_bars) "__get__" = some (some (.builtin "property.__get__")))
    (pt_bars : PySem.W.takesIn K (.ref p_bars) = some true)
    (pr_bars : PySem.W.recIn K p_bars "property" = some (.ref f_Cabinet_bars :: rest_bars))
    (l_Cabinet_bars : K.lookup f_Cabinet_bars = some ⟨oc_Cabinet_bars, od_Cabinet_bars, .func (PySem.W.fnOf "bars" "Cabinet.bars" (defArgs sBars) (defBody sBars) (defScope sBars) .none kV_Cabinet_bars dc_Cabinet_bars pm_Cabinet_bars an_Cabinet_bars cd_Cabinet_bars ct_Cabinet_bars), sl_Cabinet_bars⟩)
    (c_Cabinet_bars : PySem.W.codeIn K cd_Cabinet_bars "Cabinet.bars" = true)
    (k_Cabinet_bars : PySem.W.keepIn K (.ref f_Cabinet_bars) = true)
    (ci1 : PySem.W.findIn K (.ref C) "__class__" = some (some (.builtin "object.__class__")))
    (ci2 : PySem.W.specialIn K (.builtin "object.__class__") "__get__" = some (some (.builtin "getset_descriptor.__get__")))
    (ci3 : PySem.W.takesIn K (.builtin "object.__class__") = some true)
    (ci4 : PySem.W.mroIn K C (.type "object") = some true)
    (ci5 : PySem.W.kitOne K (.ref C) (.ref C) = some true)
    (l_Desk___init__ : K.lookup f_Desk___init__ = some ⟨oc_Desk___init__, od_Desk___init__, .func (PySem.W.fnOf "__init__" "Desk.__init__" (defArgs s_Desk__init_) (defBody s_Desk__init_) (defScope s_Desk__init_) .none kV_Desk___init__ dc_Desk___init__ pm_Desk___init__ an_Desk___init__ cd_Desk___init__ ct_Desk___init__), sl_Desk___init__⟩)
    (c_Desk___init__ : PySem.W.codeIn K cd_Desk___init__ "Desk.__init__" = true)
    (k_Desk___init__ : PySem.W.keepIn K (.ref f_Desk___init__) = true)
    (l_Desk_pull : K.lookup f_Desk_pull = some ⟨oc_Desk_pull, od_Desk_pull, .func (PySem.W.fnOf "pull" "Desk.pull" (defArgs s_Desk_pull) (defBody s_Desk_pull) (defScope s_Desk_pull) .none kV_Desk_pull dc_Desk_pull pm_Desk_pull an_Desk_pull cd_Desk_pull ct_Desk_pull), sl_Desk_pull⟩)
    (c_Desk_pull : PySem.W.codeIn K cd_Desk_pull "Desk.pull" = true)
    (k_Desk_pull : PySem.W.keepIn K (.ref f_Desk_pull) = true)
    (z_isinstance : PySem.W.nsIn K mainGlobals "isinstance" = some none)
    (z_int : PySem.W.nsIn K mainGlobals "int" = some none)
    (z_bool : PySem.W.nsIn K mainGlobals "bool" = some none)
    (z_tuple : PySem.W.nsIn K mainGlobals "tuple" = some none)
    (z_len : PySem.W.nsIn K mainGlobals "len" = some none)
    (z_enumerate : PySem.W.nsIn K mainGlobals "enumerate" = some none)
    (z_range : PySem.W.nsIn K mainGlobals "range" = some none)
    (z_sorted : PySem.W.nsIn K mainGlobals "sorted" = some none)
    (z_str : PySem.W.nsIn K mainGlobals "str" = some none)
    (z_all : PySem.W.nsIn K mainGlobals "all" = some none)
    (z_zip : PySem.W.nsIn K mainGlobals "zip" = some none)
    (z_super : PySem.W.nsIn K mainGlobals "super" = some none)
    (z_list : PySem.W.nsIn K mainGlobals "list" = some none)
    (z_min : PySem.W.nsIn K mainGlobals "min" = some none)
    (aM : PySem.W.nsIn K mainGlobals "MOST_DRAWERS" = some (some (.int 7 tM)))
    (aW : PySem.W.nsIn K mainGlobals "WORDS" = some (some (.ref fW)))
    (lW : K.lookup fW = some ⟨.type "tuple", ddW, .seq #[.str "open" tW1, .str "shut" tW2] nW, slW⟩)
    (aS : PySem.W.nsIn K mainGlobals "SIGNS" = some (some (.ref fS)))
    (lS : K.lookup fS = some ⟨.type "dict", none, .dict esS nS, #[]⟩)
    (kS : PySem.W.KeysLit w.params esS.toList)
    (oS : PySem.W.nsIn K fS "open" = some (some (.str "o" tS1)))
    (sS : PySem.W.nsIn K fS "shut" = some (some (.str "s" tS2)))
    (aST : PySem.W.nsIn K mainGlobals "STANDING_SIGNS" = some (some (.str "os" tST)))
    (aSS : PySem.W.nsIn K mainGlobals "PATTERN_SIGNS" = some (some (.str "os?" tSS)))
    (aBd : PySem.W.nsIn K mainGlobals "Barred" = some (some (.ref CBd)))
    (xBd : PySem.W.excIn K CBd [.type "ValueError", .type "Exception", .type "BaseException", .type "object"] "ValueError.__new__" = true)
    (kBd : PySem.W.keepIn K (.ref CBd) = true)
    (bBd : PySem.W.subIn K (.ref CBd) (.type "BaseException") = some true)
    (tBd : PySem.W.typeIn K (.ref CBd) = some (.type "type"))
    (iBd : PySem.W.isClsIn K CBd = true)
    (sBd : PySem.W.subIn K (.ref CBd) (.ref CBd) = some true)
    (aSt : PySem.W.nsIn K mainGlobals "BadSet" = some (some (.ref CSt)))
    (xSt : PySem.W.excIn K CSt [.type "ValueError", .type "Exception", .type "BaseException", .type "object"] "ValueError.__new__" = true)
    (kSt : PySem.W.keepIn K (.ref CSt) = true)
    (bSt : PySem.W.subIn K (.ref CSt) (.type "BaseException") = some true)
    (tSt : PySem.W.typeIn K (.ref CSt) = some (.type "type"))
    (aDr : PySem.W.nsIn K mainGlobals "BadDrawers" = some (some (.ref CDr)))
    (xDr : PySem.W.excIn K CDr [.type "ValueError", .type "Exception", .type "BaseException", .type "object"] "ValueError.__new__" = true)
    (kDr : PySem.W.keepIn K (.ref CDr) = true)
    (bDr : PySem.W.subIn K (.ref CDr) (.type "BaseException") = some true)
    (tDr : PySem.W.typeIn K (.ref CDr) = some (.type "type"))
    (aSd : PySem.W.nsIn K mainGlobals "BadStanding" = some (some (.ref CSd)))
    (xSd : PySem.W.excIn K CSd [.type "ValueError", .type "Exception", .type "BaseException", .type "object"] "ValueError.__new__" = true)
    (kSd : PySem.W.keepIn K (.ref CSd) = true)
    (bSd : PySem.W.subIn K (.ref CSd) (.type "BaseException") = some true)
    (tSd : PySem.W.typeIn K (.ref CSd) = some (.type "type"))
    (aPt : PySem.W.nsIn K mainGlobals "BadPattern" = some (some (.ref CPt)))
    (xPt : PySem.W.excIn K CPt [.type "ValueError", .type "Exception", .type "BaseException", .type "object"] "ValueError.__new__" = true)
    (kPt : PySem.W.keepIn K (.ref CPt) = true)
    (bPt : PySem.W.subIn K (.ref CPt) (.type "BaseException") = some true)
    (tPt : PySem.W.typeIn K (.ref CPt) = some (.type "type"))
    (aDw : PySem.W.nsIn K mainGlobals "BadDrawer" = some (some (.ref CDw)))
    (xDw : PySem.W.excIn K CDw [.type "ValueError", .type "Exception", .type "BaseException", .type "object"] "ValueError.__new__" = true)
    (kDw : PySem.W.keepIn K (.ref CDw) = true)
    (bDw : PySem.W.subIn K (.ref CDw) (.type "BaseException") = some true)
    (tDw : PySem.W.typeIn K (.ref CDw) = some (.type "type"))
    (aCb : PySem.W.nsIn K mainGlobals "BadCabinet" = some (some (.ref CCb)))
    (xCb : PySem.W.excIn K CCb [.type "ValueError", .type "Exception", .type "BaseException", .type "object"] "ValueError.__new__" = true)
    (kCb : PySem.W.keepIn K (.ref CCb) = true)
    (bCb : PySem.W.subIn K (.ref CCb) (.type "BaseException") = some true)
    (tCb : PySem.W.typeIn K (.ref CCb) = some (.type "type"))
    (aUn : PySem.W.nsIn K mainGlobals "Unlike" = some (some (.ref CUn)))
    (xUn : PySem.W.excIn K CUn [.type "ValueError", .type "Exception", .type "BaseException", .type "object"] "ValueError.__new__" = true)
    (kUn : PySem.W.keepIn K (.ref CUn) = true)
    (bUn : PySem.W.subIn K (.ref CUn) (.type "BaseException") = some true)
    (tUn : PySem.W.typeIn K (.ref CUn) = some (.type "type"))
    (aBB : PySem.W.nsIn K mainGlobals "BadBars" = some (some (.ref CBB)))
    (lBB : K.lookup CBB = some (excClassObj nmBB qBB CBB NBB bsBB [.ref DEBB, .type "ValueError", .type "Exception", .type "BaseException", .type "object"] true snBB sbBB abBB colBB ddBB k0BB k1BB k2BB k3BB k5BB "ValueError.__new__"))
    (saBB : PySem.W.findIn K (.ref CBB) "__setattr__" = some (some (.builtin "object.__setattr__")))
    (bBB : PySem.W.subIn K (.ref CBB) (.type "BaseException") = some true)
    (tBB : PySem.W.typeIn K (.ref CBB) = some (.type "type"))
    (kBB : PySem.W.keepIn K (.ref CBB) = true)
    (inBB : PySem.W.findIn K (.ref CBB) "__init__" = some (some (.ref fBB)))
    (tyBB : PySem.W.typeIn K (.ref fBB) = some (.type "function"))
    (lfBB : K.lookup fBB = some ⟨ocfBB, odfBB, .func (PySem.W.ksFn "__init__" "BadBars.__init__" (defArgs s_BadBars__init_) (defBody s_BadBars__init_) (defScope s_BadBars__init_) .none kVfBB docfBB pmfBB anfBB (.ref cdaBB) ctfBB ccBB), oslfBB⟩)
    (cdBB : PySem.W.codeIn K (.ref cdaBB) "BadBars.__init__" = true)
    (alBB : PySem.W.alongIn K "__init__" [.ref DEBB, .type "ValueError", .type "Exception", .type "BaseException", .type "object"] = some (some (.builtin "ValueError.__init__")))
    (coBB : K.lookup cdaBB = some ⟨cclfBB, cddfBB, .fields vsfBB, ccsfBB⟩)
    (vsBB : vsfBB[2]? = some (.str fileBB tfBB))
    (fiBB : ((l.prog.main.file : Str) == fileBB) = true)
    (ceBB : K.lookup ccBB = some ⟨clcBB, cldcBB, .cell (some (.ref CBB)), cslcBB⟩)
    (suBB : PySem.W.mroIn K CBB (.ref CBB) = some true)
    (anBB : PySem.W.nsIn K cStatics "thirdparty.any" = some none)
    (svBB : PySem.W.subIn K (.ref CBB) (.type "ValueError") = some true)
    (toBB : (l.prog.main.scope.names.lookup ("super" : Str)).isSome = false)
    (atBB : PySem.W.findIn K (.ref CBB) "index" = some none)
    (aBP : PySem.W.nsIn K mainGlobals "BadPairs" = some (some (.ref CBP)))
    (lBP : K.lookup CBP = some (excClassObj nmBP qBP CBP NBP bsBP [.ref DEBP, .type "ValueError", .type "Exception", .type "BaseException", .type "object"] true snBP sbBP abBP colBP ddBP k0BP k1BP k2BP k3BP k5BP "ValueError.__new__"))
    (saBP : PySem.W.findIn K (.ref CBP) "__setattr__" = some (some (.builtin "object.__setattr__")))
    (bBP : PySem.W.subIn K (.ref CBP) (.type "BaseException") = some true)
    (tBP : PySem.W.typeIn K (.ref CBP) = some (.type "type"))
    (kBP : PySem.W.keepIn K (.ref CBP) = true)
    (inBP : PySem.W.findIn K (.ref CBP) "__init__" = some (some (.ref fBP)))
    (tyBP : PySem.W.typeIn K (.ref fBP) = some (.type "function"))
    (lfBP : K.lookup fBP = some ⟨ocfBP, odfBP, .func (PySem.W.ksFn "__init__" "BadPairs.__init__" (defArgs s_BadPairs__init_) (defBody s_BadPairs__init_) (defScope s_BadPairs__init_) .none kVfBP docfBP pmfBP anfBP (.ref cdaBP) ctfBP ccBP), oslfBP⟩)
    (cdBP : PySem.W.codeIn K (.ref cdaBP) "BadPairs.__init__" = true)
    (alBP : PySem.W.alongIn K "__init__" [.ref DEBP, .type "ValueError", .type "Exception", .type "BaseException", .type "object"] = some (some (.builtin "ValueError.__init__")))
    (coBP : K.lookup cdaBP = some ⟨cclfBP, cddfBP, .fields vsfBP, ccsfBP⟩)
    (vsBP : vsfBP[2]? = some (.str fileBP tfBP))
    (fiBP : ((l.prog.main.file : Str) == fileBP) = true)
    (ceBP : K.lookup ccBP = some ⟨clcBP, cldcBP, .cell (some (.ref CBP)), cslcBP⟩)
    (suBP : PySem.W.mroIn K CBP (.ref CBP) = some true)
    (svBP : PySem.W.subIn K (.ref CBP) (.type "ValueError") = some true)
    (atBP : PySem.W.findIn K (.ref CBP) "index" = some none)
    (aTM : PySem.W.nsIn K mainGlobals "TooMany" = some (some (.ref CTM)))
    (lTM : K.lookup CTM = some (excClassObj nmTM qTM CTM NTM bsTM [.ref DETM, .type "ValueError", .type "Exception", .type "BaseException", .type "object"] true snTM sbTM abTM colTM ddTM k0TM k1TM k2TM k3TM k5TM "ValueError.__new__"))
    (saTM : PySem.W.findIn K (.ref CTM) "__setattr__" = some (some (.builtin "object.__setattr__")))
    (bTM : PySem.W.subIn K (.ref CTM) (.type "BaseException") = some true)
    (tTM : PySem.W.typeIn K (.ref CTM) = some (.type "type"))
    (kTM : PySem.W.keepIn K (.ref CTM) = true)
    (inTM : PySem.W.findIn K (.ref CTM) "__init__" = some (some (.ref fTM)))
    (tyTM : PySem.W.typeIn K (.ref fTM) = some (.type "function"))
    (lfTM : K.lookup fTM = some ⟨ocfTM, odfTM, .func (PySem.W.ksFn "__init__" "TooMany.__init__" (defArgs s_TooMany__init_) (defBody s_TooMany__init_) (defScope s_TooMany__init_) .none kVfTM docfTM pmfTM anfTM (.ref cdaTM) ctfTM ccTM), oslfTM⟩)
    (cdTM : PySem.W.codeIn K (.ref cdaTM) "TooMany.__init__" = true)
    (alTM : PySem.W.alongIn K "__init__" [.ref DETM, .type "ValueError", .type "Exception", .type "BaseException", .type "object"] = some (some (.builtin "ValueError.__init__")))
    (coTM : K.lookup cdaTM = some ⟨cclfTM, cddfTM, .fields vsfTM, ccsfTM⟩)
    (vsTM : vsfTM[2]? = some (.str fileTM tfTM))
    (fiTM : ((l.prog.main.file : Str) == fileTM) = true)
    (ceTM : K.lookup ccTM = some ⟨clcTM, cldcTM, .cell (some (.ref CTM)), cslcTM⟩)
    (suTM : PySem.W.mroIn K CTM (.ref CTM) = some true)
    (svTM : PySem.W.subIn K (.ref CTM) (.type "ValueError") = some true)
    (atTM : PySem.W.findIn K (.ref CTM) "most" = some none)
    (aBN : PySem.W.nsIn K mainGlobals "BadNumber" = some (some (.ref CBN)))
    (lBN : K.lookup CBN = some (excClassObj nmBN qBN CBN NBN bsBN [.ref DEBN, .type "ValueError", .type "Exception", .type "BaseException", .type "object"] true snBN sbBN abBN colBN ddBN k0BN k1BN k2BN k3BN k5BN "ValueError.__new__"))
    (saBN : PySem.W.findIn K (.ref CBN) "__setattr__" = some (some (.builtin "object.__setattr__")))
    (bBN : PySem.W.subIn K (.ref CBN) (.type "BaseException") = some true)
    (tBN : PySem.W.typeIn K (.ref CBN) = some (.type "type"))
    (kBN : PySem.W.keepIn K (.ref CBN) = true)
    (inBN : PySem.W.findIn K (.ref CBN) "__init__" = some (some (.ref fBN)))
    (tyBN : PySem.W.typeIn K (.ref fBN) = some (.type "function"))
    (lfBN : K.lookup fBN = some ⟨ocfBN, odfBN, .func (PySem.W.ksFn "__init__" "BadNumber.__init__" (defArgs s_BadNumber__init_) (defBody s_BadNumber__init_) (defScope s_BadNumber__init_) .none kVfBN docfBN pmfBN anfBN (.ref cdaBN) ctfBN ccBN), oslfBN⟩)
    (cdBN : PySem.W.codeIn K (.ref cdaBN) "BadNumber.__init__" = true)
    (alBN : PySem.W.alongIn K "__init__" [.ref DEBN, .type "ValueError", .type "Exception", .type "BaseException", .type "object"] = some (some (.builtin "ValueError.__init__")))
    (coBN : K.lookup cdaBN = some ⟨cclfBN, cddfBN, .fields vsfBN, ccsfBN⟩)
    (vsBN : vsfBN[2]? = some (.str fileBN tfBN))
    (fiBN : ((l.prog.main.file : Str) == fileBN) = true)
    (ceBN : K.lookup ccBN = some ⟨clcBN, cldcBN, .cell (some (.ref CBN)), cslcBN⟩)
    (suBN : PySem.W.mroIn K CBN (.ref CBN) = some true)
    (svBN : PySem.W.subIn K (.ref CBN) (.type "ValueError") = some true)
    (atBN : PySem.W.findIn K (.ref CBN) "n" = some none)
    (aBT : PySem.W.nsIn K mainGlobals "BadTries" = some (some (.ref CBT)))
    (lBT : K.lookup CBT = some (excClassObj nmBT qBT CBT NBT bsBT [.ref DEBT, .type "ValueError", .type "Exception", .type "BaseException", .type "object"] true snBT sbBT abBT colBT ddBT k0BT k1BT k2BT k3BT k5BT "ValueError.__new__"))
    (saBT : PySem.W.findIn K (.ref CBT) "__setattr__" = some (some (.builtin "object.__setattr__")))
    (bBT : PySem.W.subIn K (.ref CBT) (.type "BaseException") = some true)
    (tBT : PySem.W.typeIn K (.ref CBT) = some (.type "type"))
    (kBT : PySem.W.keepIn K (.ref CBT) = true)
    (inBT : PySem.W.findIn K (.ref CBT) "__init__" = some (some (.ref fBT)))
    (tyBT : PySem.W.typeIn K (.ref fBT) = some (.type "function"))
    (lfBT : K.lookup fBT = some ⟨ocfBT, odfBT, .func (PySem.W.ksFn "__init__" "BadTries.__init__" (defArgs s_BadTries__init_) (defBody s_BadTries__init_) (defScope s_BadTries__init_) .none kVfBT docfBT pmfBT anfBT (.ref cdaBT) ctfBT ccBT), oslfBT⟩)
    (cdBT : PySem.W.codeIn K (.ref cdaBT) "BadTries.__init__" = true)
    (alBT : PySem.W.alongIn K "__init__" [.ref DEBT, .type "ValueError", .type "Exception", .type "BaseException", .type "object"] = some (some (.builtin "ValueError.__init__")))
    (coBT : K.lookup cdaBT = some ⟨cclfBT, cddfBT, .fields vsfBT, ccsfBT⟩)
    (vsBT : vsfBT[2]? = some (.str fileBT tfBT))
    (fiBT : ((l.prog.main.file : Str) == fileBT) = true)
    (ceBT : K.lookup ccBT = some ⟨clcBT, cldcBT, .cell (some (.ref CBT)), cslcBT⟩)
    (suBT : PySem.W.mroIn K CBT (.ref CBT) = some true)
    (svBT : PySem.W.subIn K (.ref CBT) (.type "ValueError") = some true)
    (atBT : PySem.W.findIn K (.ref CBT) "index" = some none)
    (aIT : PySem.W.nsIn K mainGlobals "InvalidText" = some (some (.ref CIT)))
    (lIT : K.lookup CIT = some (excClassObj nmIT qIT CIT NIT bsIT [.ref DEIT, .type "ValueError", .type "Exception", .type "BaseException", .type "object"] true snIT sbIT abIT colIT ddIT k0IT k1IT k2IT k3IT k5IT "ValueError.__new__"))
    (saIT : PySem.W.findIn K (.ref CIT) "__setattr__" = some (some (.builtin "object.__setattr__")))
    (bIT : PySem.W.subIn K (.ref CIT) (.type "BaseException") = some true)
    (tIT : PySem.W.typeIn K (.ref CIT) = some (.type "type"))
    (kIT : PySem.W.keepIn K (.ref CIT) = true)
    (inIT : PySem.W.findIn K (.ref CIT) "__init__" = some (some (.ref fIT)))
    (tyIT : PySem.W.typeIn K (.ref fIT) = some (.type "function"))
    (lfIT : K.lookup fIT = some ⟨ocfIT, odfIT, .func (PySem.W.ksFn "__init__" "InvalidText.__init__" (defArgs s_InvalidText__init_) (defBody s_InvalidText__init_) (defScope s_InvalidText__init_) .none kVfIT docfIT pmfIT anfIT (.ref cdaIT) ctfIT ccIT), oslfIT⟩)
    (cdIT : PySem.W.codeIn K (.ref cdaIT) "InvalidText.__init__" = true)
    (alIT : PySem.W.alongIn K "__init__" [.ref DEIT, .type "ValueError", .type "Exception", .type "BaseException", .type "object"] = some (some (.builtin "ValueError.__init__")))
    (coIT : K.lookup cdaIT = some ⟨cclfIT, cddfIT, .fields vsfIT, ccsfIT⟩)
    (vsIT : vsfIT[2]? = some (.str fileIT tfIT))
    (fiIT : ((l.prog.main.file : Str) == fileIT) = true)
    (ceIT : K.lookup ccIT = some ⟨clcIT, cldcIT, .cell (some (.ref CIT)), cslcIT⟩)
    (suIT : PySem.W.mroIn K CIT (.ref CIT) = some true)
    (svIT : PySem.W.subIn K (.ref CIT) (.type "ValueError") = some true)
    (atIT : PySem.W.findIn K (.ref CIT) "line" = some none)
    (aMT : PySem.W.nsIn K mainGlobals "MOST_TRIES" = some (some (.int 30 tMT)))
    (aMP : PySem.W.nsIn K mainGlobals "MOST_PULLS" = some (some (.int 60 tMP)))
    (aMG : PySem.W.nsIn K mainGlobals "MOST_GUARDED" = some (some (.int 4 tMG)))
    (aMA : PySem.W.nsIn K mainGlobals "MOST_ADDED" = some (some (.int 2 tMA)))
    (kcI : PySem.W.kitOne K (.type "int") (.ref C) = some false)
    (atIT2 : PySem.W.findIn K (.ref CIT) "word" = some none)
    (aDE : PySem.W.nsIn K mainGlobals "DrawerError" = some (some (.ref CDE)))
    (bDE : PySem.W.subIn K (.ref CDE) (.type "BaseException") = some true)
    (tDE : PySem.W.typeIn K (.ref CDE) = some (.type "type"))
    (iDE : PySem.W.isClsIn K CDE = true)
    (uAp : ([CDr, CBB, CCb, CSd, CPt, CDw, CSt, CBP, CBN, CBT, CBd, CTM, CUn, CIT].map fun a => [CDr, CBB, CCb, CSd, CPt, CDw, CSt, CBP, CBN, CBT, CBd, CTM, CUn, CIT].map fun b => PySem.W.subIn K (.ref a) (.ref b)) = (List.range 14).map fun i => (List.range 14).map fun j => some (decide (i = j)))
    (uTp : ([CDr, CBB, CCb, CSd, CPt, CDw, CSt, CBP, CBN, CBT, CBd, CTM, CUn, CIT].map fun a => PySem.W.subIn K (.ref a) (.ref CDE)) = List.replicate 14 (some true))
    (uBs : ([CDr, CBB, CCb, CSd, CPt, CDw, CSt, CBP, CBN, CBT, CBd, CTM, CUn, CIT].map fun b => PySem.W.subIn K (.ref b) (.type "BaseException")) = List.replicate 14 (some true))
    (uCs : ([CDr, CBB, CCb, CSd, CPt, CDw, CSt, CBP, CBN, CBT, CBd, CTM, CUn, CIT].map fun b => PySem.W.isClsIn K b) = List.replicate 14 true)
    (uTs : ([CDr, CBB, CCb, CSd, CPt, CDw, CSt, CBP, CBN, CBT, CBd, CTM, CUn, CIT].map fun b => PySem.W.typeIn K (.ref b)) = List.replicate 14 (some (.type "type")))
    (pgDk : PySem.W.plainGet K CDk Str.empty = true)
    (hdDk : PySem.W.hasDictIn K CDk = true)
    (poDk : PySem.W.plainOver K CDk = true)
    (saDk : PySem.W.findIn K (.ref CDk) "__setattr__" = some (some (.builtin "object.__setattr__")))
    (mkDk : PySem.W.makesIn K CDk = true)
    (kcDk : PySem.W.keepIn K (.ref CDk) = true)
    (nCDk : PySem.W.findIn K (.ref CDk) "_cabinet" = some none)
    (nSDk : PySem.W.findIn K (.ref CDk) "_standing" = some none)
    (nPDk : PySem.W.findIn K (.ref CDk) "_pulls" = some none)
    (i_Deskinit : PySem.W.isFn K (.ref f_Desk___init__) = true)
    (i_Deskpull : PySem.W.isFn K (.ref f_Desk_pull) = true)
    : ∃ fd : FuncData, (∀ (s : Shared) (v : Value), BindsTo s fd ⟨[v], []⟩ [("_law_script", v)]) ∧ ∀ base : Heap, K.In base → base.Ns mainGlobals mg → FnOk l.prog w K mg base CX0 20 fa fd ["_law_script"] (spLaw29 K) := by
  have e := hfa.symm.trans (PySem.W.mg_of X G a_law)
  cases e
  have F_is_integer := fun_mk (st := sIsInt) l_is_integer c_is_integer k_is_integer
  have b_is_integer := F_is_integer.binds (ps := ["value"]) fun _ _ _ _ _ _ us hl => match us, hl with | [_], _ => rfl
  have g_is_integer := PySem.W.mg_of X G a_is_integer
  have F_is_drawer_count := fun_mk (st := sIsCount) l_is_drawer_count c_is_drawer_count k_is_drawer_count
  have b_is_drawer_count := F_is_drawer_count.binds (ps := ["value"]) fun _ _ _ _ _ _ us hl => match us, hl with | [_], _ => rfl
  have g_is_drawer_count := PySem.W.mg_of X G a_is_drawer_count
  have F_is_drawer := fun_mk (st := sIsDrawer) l_is_drawer c_is_drawer k_is_drawer
  have b_is_drawer := F_is_drawer.binds (ps := ["drawers", "value"]) fun _ _ _ _ _ _ us hl => match us, hl with | [_, _], _ => rfl
  have g_is_drawer := PySem.W.mg_of X G a_is_drawer
  have F_is_bar := fun_mk (st := sIsBar) l_is_bar c_is_bar k_is_bar
  have b_is_bar := F_is_bar.binds (ps := ["drawers", "value"]) fun _ _ _ _ _ _ us hl => match us, hl with | [_, _], _ => rfl
  have g_is_bar := PySem.W.mg_of X G a_is_bar
  have F_check_drawers := fun_mk (st := sCheckDrawers) l_check_drawers c_check_drawers k_check_drawers
  have b_check_drawers := F_check_drawers.binds (ps := ["drawers"]) fun _ _ _ _ _ _ us hl => match us, hl with | [_], _ => rfl
  have g_check_drawers := PySem.W.mg_of X G a_check_drawers
  have F_check_bars := fun_mk (st := sCheckBars) l_check_bars c_check_bars k_check_bars
  have b_check_bars := F_check_bars.binds (ps := ["drawers", "bars"]) fun _ _ _ _ _ _ us hl => match us, hl with | [_, _], _ => rfl
  have g_check_bars := PySem.W.mg_of X G a_check_bars
  have F__law_taken := fun_mk (st := sTaken) l__law_taken c__law_taken k__law_taken
  have b__law_taken := F__law_taken.binds (ps := ["_law_row", "_law_many"]) fun _ _ _ _ _ _ us hl => match us, hl with | [_, _], _ => rfl
  have g__law_taken := PySem.W.mg_of X G a__law_taken
  have F_hinders := fun_mk (st := s_hinders) l_hinders c_hinders k_hinders
  have b_hinders := F_hinders.binds (ps := ["bar", "standing", "drawer"]) fun _ _ _ _ _ _ us hl => match us, hl with | [_, _, _], _ => rfl
  have g_hinders := PySem.W.mg_of X G a_hinders
  have F_moved := fun_mk (st := s_moved) l_moved c_moved k_moved
  have b_moved := F_moved.binds (ps := ["standing", "drawer"]) fun _ _ _ _ _ _ us hl => match us, hl with | [_, _], _ => rfl
  have g_moved := PySem.W.mg_of X G a_moved
  have F_bars_against := fun_mk (st := s_bars_against) l_bars_against c_bars_against k_bars_against
  have b_bars_against := F_bars_against.binds (ps := ["cabinet", "standing", "drawer"]) fun _ _ _ _ _ _ us hl => match us, hl with | [_, _, _], _ => rfl
  have g_bars_against := PySem.W.mg_of X G a_bars_against
  have F_goes := fun_mk (st := s_goes) l_goes c_goes k_goes
  have b_goes := F_goes.binds (ps := ["cabinet", "standing", "drawer"]) fun _ _ _ _ _ _ us hl => match us, hl with | [_, _, _], _ => rfl
  have g_goes := PySem.W.mg_of X G a_goes
  have F_has_signs := fun_mk (st := s_has_signs) l_has_signs c_has_signs k_has_signs
  have b_has_signs := F_has_signs.binds (ps := ["drawers", "value", "signs"]) fun _ _ _ _ _ _ us hl => match us, hl with | [_, _, _], _ => rfl
  have g_has_signs := PySem.W.mg_of X G a_has_signs
  have F_is_standing := fun_mk (st := s_is_standing) l_is_standing c_is_standing k_is_standing
  have b_is_standing := F_is_standing.binds (ps := ["drawers", "value"]) fun _ _ _ _ _ _ us hl => match us, hl with | [_, _], _ => rfl
  have g_is_standing := PySem.W.mg_of X G a_is_standing
  have F_is_pattern := fun_mk (st := s_is_pattern) l_is_pattern c_is_pattern k_is_pattern
  have b_is_pattern := F_is_pattern.binds (ps := ["drawers", "value"]) fun _ _ _ _ _ _ us hl => match us, hl with | [_, _], _ => rfl
  have g_is_pattern := PySem.W.mg_of X G a_is_pattern
  have F_check_cabinet := fun_mk (st := s_check_cabinet) l_check_cabinet c_check_cabinet k_check_cabinet
  have b_check_cabinet := F_check_cabinet.binds (ps := ["cabinet"]) fun _ _ _ _ _ _ us hl => match us, hl with | [_], _ => rfl
  have g_check_cabinet := PySem.W.mg_of X G a_check_cabinet
  have F_check_standing := fun_mk (st := s_check_standing) l_check_standing c_check_standing k_check_standing
  have b_check_standing := F_check_standing.binds (ps := ["cabinet", "standing"]) fun _ _ _ _ _ _ us hl => match us, hl with | [_, _], _ => rfl
  have g_check_standing := PySem.W.mg_of X G a_check_standing
  have F_check_pattern := fun_mk (st := s_check_pattern) l_check_pattern c_check_pattern k_check_pattern
  have b_check_pattern := F_check_pattern.binds (ps := ["cabinet", "pattern"]) fun _ _ _ _ _ _ us hl => match us, hl with | [_, _], _ => rfl
  have g_check_pattern := PySem.W.mg_of X G a_check_pattern
  have F_check_drawer := fun_mk (st := s_check_drawer) l_check_drawer c_check_drawer k_check_drawer
  have b_check_drawer := F_check_drawer.binds (ps := ["cabinet", "drawer"]) fun _ _ _ _ _ _ us hl => match us, hl with | [_, _], _ => rfl
  have g_check_drawer := PySem.W.mg_of X G a_check_drawer
  have F_can := fun_mk (st := s_can) l_can c_can k_can
  have b_can := F_can.binds (ps := ["cabinet", "standing"]) fun _ _ _ _ _ _ us hl => match us, hl with | [_, _], _ => rfl
  have g_can := PySem.W.mg_of X G a_can
  have F_behind := fun_mk (st := s_behind) l_behind c_behind k_behind
  have b_behind := F_behind.binds (ps := ["cabinet", "standing", "drawer"]) fun _ _ _ _ _ _ us hl => match us, hl with | [_, _, _], _ => rfl
  have g_behind := PySem.W.mg_of X G a_behind
  have F_first_standing := fun_mk (st := s_first_standing) l_first_standing c_first_standing k_first_standing
  have b_first_standing := F_first_standing.binds (ps := ["drawers"]) fun _ _ _ _ _ _ us hl => match us, hl with | [_], _ => rfl
  have g_first_standing := PySem.W.mg_of X G a_first_standing
  have F_row_to := fun_mk (st := s_row_to) l_row_to c_row_to k_row_to
  have b_row_to := F_row_to.binds (ps := ["cabinet", "pattern"]) fun _ _ _ _ _ _ us hl => match us, hl with | [_, _], _ => rfl
  have g_row_to := PySem.W.mg_of X G a_row_to
  have F_reached := fun_mk (st := s_reached) l_reached c_reached k_reached
  have b_reached := F_reached.binds (ps := ["cabinet"]) fun _ _ _ _ _ _ us hl => match us, hl with | [_], _ => rfl
  have g_reached := PySem.W.mg_of X G a_reached
  have F_is_set := fun_mk (st := s_is_set) l_is_set c_is_set k_is_set
  have b_is_set := F_is_set.binds (ps := ["drawers", "value"]) fun _ _ _ _ _ _ us hl => match us, hl with | [_, _], _ => rfl
  have g_is_set := PySem.W.mg_of X G a_is_set
  have F_check_set := fun_mk (st := s_check_set) l_check_set c_check_set k_check_set
  have b_check_set := F_check_set.binds (ps := ["cabinet", "some"]) fun _ _ _ _ _ _ us hl => match us, hl with | [_, _], _ => rfl
  have g_check_set := PySem.W.mg_of X G a_check_set
  have F_first_apart := fun_mk (st := s_first_apart) l_first_apart c_first_apart k_first_apart
  have b_first_apart := F_first_apart.binds (ps := ["one", "other"]) fun _ _ _ _ _ _ us hl => match us, hl with | [_, _], _ => rfl
  have g_first_apart := PySem.W.mg_of X G a_first_apart
  have F_alike := fun_mk (st := s_alike) l_alike c_alike k_alike
  have b_alike := F_alike.binds (ps := ["one", "other"]) fun _ _ _ _ _ _ us hl => match us, hl with | [_, _], _ => rfl
  have g_alike := PySem.W.mg_of X G a_alike
  have F_check_pairs := fun_mk (st := s_check_pairs) l_check_pairs c_check_pairs k_check_pairs
  have b_check_pairs := F_check_pairs.binds (ps := ["cabinet", "pairs"]) fun _ _ _ _ _ _ us hl => match us, hl with | [_, _], _ => rfl
  have g_check_pairs := PySem.W.mg_of X G a_check_pairs
  have F_check_number := fun_mk (st := s_check_number) l_check_number c_check_number k_check_number
  have b_check_number := F_check_number.binds (ps := ["value", "least", "most"]) fun _ _ _ _ _ _ us hl => match us, hl with | [_, _, _], _ => rfl
  have g_check_number := PySem.W.mg_of X G a_check_number
  have F_check_tries := fun_mk (st := s_check_tries) l_check_tries c_check_tries k_check_tries
  have b_check_tries := F_check_tries.binds (ps := ["drawers", "tries"]) fun _ _ _ _ _ _ us hl => match us, hl with | [_, _], _ => rfl
  have g_check_tries := PySem.W.mg_of X G a_check_tries
  have F_is_pair := fun_mk (st := s_is_pair) l_is_pair c_is_pair k_is_pair
  have b_is_pair := F_is_pair.binds (ps := ["drawers", "value"]) fun _ _ _ _ _ _ us hl => match us, hl with | [_, _], _ => rfl
  have g_is_pair := PySem.W.mg_of X G a_is_pair
  have F_is_try := fun_mk (st := s_is_try) l_is_try c_is_try k_is_try
  have b_is_try := F_is_try.binds (ps := ["drawers", "value"]) fun _ _ _ _ _ _ us hl => match us, hl with | [_, _], _ => rfl
  have g_is_try := PySem.W.mg_of X G a_is_try
  have F_check_few_drawers := fun_mk (st := s_check_few_drawers) l_check_few_drawers c_check_few_drawers k_check_few_drawers
  have b_check_few_drawers := F_check_few_drawers.binds (ps := ["cabinet", "most"]) fun _ _ _ _ _ _ us hl => match us, hl with | [_, _], _ => rfl
  have g_check_few_drawers := PySem.W.mg_of X G a_check_few_drawers
  have F_paper := fun_mk (st := s_paper) l_paper c_paper k_paper
  have b_paper := F_paper.binds (ps := ["cabinet", "some"]) fun _ _ _ _ _ _ us hl => match us, hl with | [_, _], _ => rfl
  have g_paper := PySem.W.mg_of X G a_paper
  have F_guards := fun_mk (st := s_guards) l_guards c_guards k_guards
  have b_guards := F_guards.binds (ps := ["cabinet", "pairs", "most"]) fun _ _ _ _ _ _ us hl => match us, hl with | [_, _, _], _ => rfl
  have g_guards := PySem.W.mg_of X G a_guards
  have F_count_rows := fun_mk (st := s_count_rows) l_count_rows c_count_rows k_count_rows
  have b_count_rows := F_count_rows.binds (ps := ["cabinet", "length"]) fun _ _ _ _ _ _ us hl => match us, hl with | [_, _], _ => rfl
  have g_count_rows := PySem.W.mg_of X G a_count_rows
  have F_sure := fun_mk (st := s_sure) l_sure c_sure k_sure
  have b_sure := F_sure.binds (ps := ["drawers", "tries"]) fun _ _ _ _ _ _ us hl => match us, hl with | [_, _], _ => rfl
  have g_sure := PySem.W.mg_of X G a_sure
  have F_check_words := fun_mk (st := s_check_words) l_check_words c_check_words k_check_words
  have b_check_words := F_check_words.binds (ps := ["line", "words", "allowed"]) fun _ _ _ _ _ _ us hl => match us, hl with | [_, _, _], _ => rfl
  have g_check_words := PySem.W.mg_of X G a_check_words
  have F_words_of := fun_mk (st := s_words_of) l_words_of c_words_of k_words_of
  have b_words_of := F_words_of.binds (ps := ["line"]) fun _ _ _ _ _ _ us hl => match us, hl with | [_], _ => rfl
  have g_words_of := PySem.W.mg_of X G a_words_of
  have F_read_drawers := fun_mk (st := s_read_drawers) l_read_drawers c_read_drawers k_read_drawers
  have b_read_drawers := F_read_drawers.binds (ps := ["words"]) fun _ _ _ _ _ _ us hl => match us, hl with | [_], _ => rfl
  have g_read_drawers := PySem.W.mg_of X G a_read_drawers
  have F_read := fun_mk (st := s_read) l_read c_read k_read
  have b_read := F_read.binds (ps := ["text"]) fun _ _ _ _ _ _ us hl => match us, hl with | [_], _ => rfl
  have g_read := PySem.W.mg_of X G a_read
  have F__law_early := fun_mk (st := s__law_early) l__law_early c__law_early k__law_early
  have b__law_early := F__law_early.binds (ps := ["_law_kind", "_law_cabinet"]) fun _ _ _ _ _ _ us hl => match us, hl with | [_, _], _ => rfl
  have g__law_early := PySem.W.mg_of X G a__law_early
  have F__law_call := fun_mk (st := s__law_call) l__law_call c__law_call k__law_call
  have b__law_call := F__law_call.binds (ps := ["_law_kind"]) fun _ _ _ _ _ _ us hl => match us, hl with | [_], _ => rfl
  have g__law_call := PySem.W.mg_of X G a__law_call
  have F__law_first := fun_mk (st := s__law_first) l__law_first c__law_first k__law_first
  have b__law_first := F__law_first.binds (ps := ["_law_kind"]) fun _ _ _ _ _ _ us hl => match us, hl with | [_], _ => rfl
  have g__law_first := PySem.W.mg_of X G a__law_first
  have F__law_second := fun_mk (st := s__law_second) l__law_second c__law_second k__law_second
  have b__law_second := F__law_second.binds (ps := ["_law_kind"]) fun _ _ _ _ _ _ us hl => match us, hl with | [_], _ => rfl
  have g__law_second := PySem.W.mg_of X G a__law_second
  have F_law := fun_mk (st := s_law) l_law c_law k_law
  have F_Cabinet___init__ := fun_mk (st := sInit) l_Cabinet___init__ c_Cabinet___init__ k_Cabinet___init__
  have b_Cabinet___init__ := F_Cabinet___init__.binds (ps := ["self", "drawers", "bars"]) fun _ _ _ _ _ _ us hl => match us, hl with | [_, _, _], _ => rfl
  have F_Cabinet_drawers := fun_mk (st := sDrawers) l_Cabinet_drawers c_Cabinet_drawers k_Cabinet_drawers
  have b_Cabinet_drawers := F_Cabinet_drawers.binds (ps := ["self"]) fun _ _ _ _ _ _ us hl => match us, hl with | [_], _ => rfl
  have F_Cabinet_bars := fun_mk (st := sBars) l_Cabinet_bars c_Cabinet_bars k_Cabinet_bars
  have b_Cabinet_bars := F_Cabinet_bars.binds (ps := ["self"]) fun _ _ _ _ _ _ us hl => match us, hl with | [_], _ => rfl
  have TC : CabT K mg C := ⟨⟨pg, hd, po, sa⟩, nD, nB, PySem.W.mg_of X G aC⟩
  have MC : Mk K C f_Cabinet___init__ := ⟨mk, a_Cabinet___init__, i_init, kc⟩
  have IC : CabI K mg C := ⟨⟨pg, hd, po, sa⟩, PySem.W.mg_of X G aC, ci1, ci2, ci3, ci4, ci5⟩
  have F_Desk___init__ := fun_mk (st := s_Desk__init_) l_Desk___init__ c_Desk___init__ k_Desk___init__
  have b_Desk___init__ := F_Desk___init__.binds (ps := ["self", "cabinet"]) fun _ _ _ _ _ _ us hl => match us, hl with | [_, _], _ => rfl
  have F_Desk_pull := fun_mk (st := s_Desk_pull) l_Desk_pull c_Desk_pull k_Desk_pull
  have b_Desk_pull := F_Desk_pull.binds (ps := ["self", "drawer"]) fun _ _ _ _ _ _ us hl => match us, hl with | [_, _], _ => rfl
  have TB : Bt mg := ⟨PySem.W.mg_none_of X G z_isinstance, PySem.W.mg_none_of X G z_int, PySem.W.mg_none_of X G z_bool, PySem.W.mg_none_of X G z_tuple, PySem.W.mg_none_of X G z_len, PySem.W.mg_none_of X G z_enumerate, PySem.W.mg_none_of X G z_range, PySem.W.mg_none_of X G z_sorted⟩
  have n_str := PySem.W.mg_none_of X G z_str
  have n_all := PySem.W.mg_none_of X G z_all
  have n_zip := PySem.W.mg_none_of X G z_zip
  have n_super := PySem.W.mg_none_of X G z_super
  have n_list := PySem.W.mg_none_of X G z_list
  have n_min := PySem.W.mg_none_of X G z_min
  have gM := PySem.W.mg_of X G aM
  have gW := PySem.W.mg_of X G aW
  have hW : ∀ H, SqT K H fW [.str "open", .str "shut"] := fun H => .inr ⟨_, _, _, lW, rfl, rfl, by show 2 ≤ sizeLine; decide, .cons ⟨_, rfl⟩ (.cons ⟨_, rfl⟩ .nil)⟩
  have gS := PySem.W.mg_of X G aS
  have TS : SgT K w mg fS := ⟨gS, ⟨esS, nS, _, lS, kS, oS, _, rfl⟩, ⟨esS, nS, _, lS, kS, sS, _, rfl⟩⟩
  have gST := PySem.W.mg_of X G aST
  have gSS := PySem.W.mg_of X G aSS
  have BT : BarT K mg CBd := ⟨PySem.W.mg_of X G aBd, xBd, kBd, bBd, tBd, exm_self bBd iBd tBd sBd⟩
  have ETSt : ErrT K mg "BadSet" CSt := ⟨PySem.W.mg_of X G aSt, xSt, kSt, bSt, tSt⟩
  have ETDr : ErrT K mg "BadDrawers" CDr := ⟨PySem.W.mg_of X G aDr, xDr, kDr, bDr, tDr⟩
  have ETSd : ErrT K mg "BadStanding" CSd := ⟨PySem.W.mg_of X G aSd, xSd, kSd, bSd, tSd⟩
  have ETPt : ErrT K mg "BadPattern" CPt := ⟨PySem.W.mg_of X G aPt, xPt, kPt, bPt, tPt⟩
  have ETDw : ErrT K mg "BadDrawer" CDw := ⟨PySem.W.mg_of X G aDw, xDw, kDw, bDw, tDw⟩
  have ETCb : ErrT K mg "BadCabinet" CCb := ⟨PySem.W.mg_of X G aCb, xCb, kCb, bCb, tCb⟩
  have ETUn : ErrT K mg "Unlike" CUn := ⟨PySem.W.mg_of X G aUn, xUn, kUn, bUn, tUn⟩
  have gBB := PySem.W.mg_of X G aBB
  have OEBB : OexC K CBB := ⟨⟨_, _, _, _, _, _, _, _, _, _, _, _, _, _, _, lBB, rfl⟩, saBB, bBB, tBB, kBB⟩
  have FSBB : FunS K "__init__" "BadBars.__init__" s_BadBars__init_ fBB cdaBB ccBB _ := ⟨⟨_, _, _, _, _, _, _, _, rfl, lfBB, cdBB⟩⟩
  have SKBB : SupK K l.prog fBB CBB ccBB cdaBB _ "self" := ⟨OEBB, mro_is lBB alBB, ⟨_, _, _, lfBB⟩, ⟨_, rfl, rfl⟩, ⟨_, _, _, _, _, _, coBB, vsBB, fiBB⟩, ⟨_, _, _, ceBB⟩, suBB, anBB, svBB, toBB⟩
  have gBP := PySem.W.mg_of X G aBP
  have OEBP : OexC K CBP := ⟨⟨_, _, _, _, _, _, _, _, _, _, _, _, _, _, _, lBP, rfl⟩, saBP, bBP, tBP, kBP⟩
  have FSBP : FunS K "__init__" "BadPairs.__init__" s_BadPairs__init_ fBP cdaBP ccBP _ := ⟨⟨_, _, _, _, _, _, _, _, rfl, lfBP, cdBP⟩⟩
  have SKBP : SupK K l.prog fBP CBP ccBP cdaBP _ "self" := ⟨OEBP, mro_is lBP alBP, ⟨_, _, _, lfBP⟩, ⟨_, rfl, rfl⟩, ⟨_, _, _, _, _, _, coBP, vsBP, fiBP⟩, ⟨_, _, _, ceBP⟩, suBP, anBB, svBP, toBB⟩
  have gTM := PySem.W.mg_of X G aTM
  have OETM : OexC K CTM := ⟨⟨_, _, _, _, _, _, _, _, _, _, _, _, _, _, _, lTM, rfl⟩, saTM, bTM, tTM, kTM⟩
  have FSTM : FunS K "__init__" "TooMany.__init__" s_TooMany__init_ fTM cdaTM ccTM _ := ⟨⟨_, _, _, _, _, _, _, _, rfl, lfTM, cdTM⟩⟩
  have SKTM : SupK K l.prog fTM CTM ccTM cdaTM _ "self" := ⟨OETM, mro_is lTM alTM, ⟨_, _, _, lfTM⟩, ⟨_, rfl, rfl⟩, ⟨_, _, _, _, _, _, coTM, vsTM, fiTM⟩, ⟨_, _, _, ceTM⟩, suTM, anBB, svTM, toBB⟩
  have gBN := PySem.W.mg_of X G aBN
  have OEBN : OexC K CBN := ⟨⟨_, _, _, _, _, _, _, _, _, _, _, _, _, _, _, lBN, rfl⟩, saBN, bBN, tBN, kBN⟩
  have FSBN : FunS K "__init__" "BadNumber.__init__" s_BadNumber__init_ fBN cdaBN ccBN _ := ⟨⟨_, _, _, _, _, _, _, _, rfl, lfBN, cdBN⟩⟩
  have SKBN : SupK K l.prog fBN CBN ccBN cdaBN _ "self" := ⟨OEBN, mro_is lBN alBN, ⟨_, _, _, lfBN⟩, ⟨_, rfl, rfl⟩, ⟨_, _, _, _, _, _, coBN, vsBN, fiBN⟩, ⟨_, _, _, ceBN⟩, suBN, anBB, svBN, toBB⟩
  have gBT := PySem.W.mg_of X G aBT
  have OEBT : OexC K CBT := ⟨⟨_, _, _, _, _, _, _, _, _, _, _, _, _, _, _, lBT, rfl⟩, saBT, bBT, tBT, kBT⟩
  have FSBT : FunS K "__init__" "BadTries.__init__" s_BadTries__init_ fBT cdaBT ccBT _ := ⟨⟨_, _, _, _, _, _, _, _, rfl, lfBT, cdBT⟩⟩
  have SKBT : SupK K l.prog fBT CBT ccBT cdaBT _ "self" := ⟨OEBT, mro_is lBT alBT, ⟨_, _, _, lfBT⟩, ⟨_, rfl, rfl⟩, ⟨_, _, _, _, _, _, coBT, vsBT, fiBT⟩, ⟨_, _, _, ceBT⟩, suBT, anBB, svBT, toBB⟩
  have gIT := PySem.W.mg_of X G aIT
  have OEIT : OexC K CIT := ⟨⟨_, _, _, _, _, _, _, _, _, _, _, _, _, _, _, lIT, rfl⟩, saIT, bIT, tIT, kIT⟩
  have FSIT : FunS K "__init__" "InvalidText.__init__" s_InvalidText__init_ fIT cdaIT ccIT _ := ⟨⟨_, _, _, _, _, _, _, _, rfl, lfIT, cdIT⟩⟩
  have SKIT : SupK K l.prog fIT CIT ccIT cdaIT _ "self" := ⟨OEIT, mro_is lIT alIT, ⟨_, _, _, lfIT⟩, ⟨_, rfl, rfl⟩, ⟨_, _, _, _, _, _, coIT, vsIT, fiIT⟩, ⟨_, _, _, ceIT⟩, suIT, anBB, svIT, toBB⟩
  have gMT := PySem.W.mg_of X G aMT
  have gMP := PySem.W.mg_of X G aMP
  have gMG := PySem.W.mg_of X G aMG
  have gMA := PySem.W.mg_of X G aMA
  have bBBi := bindsS (K := K) (ps := ["self", "index"]) (fd := PySem.W.ksFn "__init__" "BadBars.__init__" (defArgs s_BadBars__init_) (defBody s_BadBars__init_) (defScope s_BadBars__init_) .none kVfBB docfBB pmfBB anfBB (.ref cdaBB) ctfBB ccBB) fun us hl => match us, hl with | [_, _], _ => rfl
  have bITi := bindsS (K := K) (ps := ["self", "line", "word"]) (fd := PySem.W.ksFn "__init__" "InvalidText.__init__" (defArgs s_InvalidText__init_) (defBody s_InvalidText__init_) (defScope s_InvalidText__init_) .none kVfIT docfIT pmfIT anfIT (.ref cdaIT) ctfIT ccIT) fun us hl => match us, hl with | [_, _, _], _ => rfl
  have gDE := PySem.W.mg_of X G aDE
  have bBPi := bindsS (K := K) (ps := ["self", "index"]) (fd := PySem.W.ksFn "__init__" "BadPairs.__init__" (defArgs s_BadPairs__init_) (defBody s_BadPairs__init_) (defScope s_BadPairs__init_) .none kVfBP docfBP pmfBP anfBP (.ref cdaBP) ctfBP ccBP) fun us hl => match us, hl with | [_, _], _ => rfl
  have bTMi := bindsS (K := K) (ps := ["self", "most"]) (fd := PySem.W.ksFn "__init__" "TooMany.__init__" (defArgs s_TooMany__init_) (defBody s_TooMany__init_) (defScope s_TooMany__init_) .none kVfTM docfTM pmfTM anfTM (.ref cdaTM) ctfTM ccTM) fun us hl => match us, hl with | [_, _], _ => rfl
  have bBNi := bindsS (K := K) (ps := ["self", "n"]) (fd := PySem.W.ksFn "__init__" "BadNumber.__init__" (defArgs s_BadNumber__init_) (defBody s_BadNumber__init_) (defScope s_BadNumber__init_) .none kVfBN docfBN pmfBN anfBN (.ref cdaBN) ctfBN ccBN) fun us hl => match us, hl with | [_, _], _ => rfl
  have bBTi := bindsS (K := K) (ps := ["self", "index"]) (fd := PySem.W.ksFn "__init__" "BadTries.__init__" (defArgs s_BadTries__init_) (defBody s_BadTries__init_) (defScope s_BadTries__init_) .none kVfBT docfBT pmfBT anfBT (.ref cdaBT) ctfBT ccBT) fun us hl => match us, hl with | [_, _], _ => rfl
  have X9 := apart_of uAp uTp uBs uCs uTs bDE iDE tDE
  have DT : DeskT K mg CDk := ⟨⟨pgDk, hdDk, poDk, saDk⟩, nCDk, nSDk, nPDk, PySem.W.mg_of X G aDk⟩
  have MD : Mk K CDk f_Desk___init__ := ⟨mkDk, a_Desk___init__, i_Deskinit, kcDk⟩
  have UD : Meth K CDk "pull" f_Desk_pull := ⟨a_Desk_pull, i_Deskpull, k_Desk_pull⟩
  refine ⟨PySem.W.fnOf "law" "law" (defArgs s_law) (defBody s_law) (defScope s_law) .none kV_law dc_law pm_law an_law cd_law ct_law, fun s v => .of_eq rfl, fun base hKX hGX => ?_⟩
  have OD := ok_getD (P := l.prog) (w := w) (base := base) F_Cabinet_drawers TC
  have OB := ok_getB (P := l.prog) (w := w) (base := base) F_Cabinet_bars TC
  have CP : CabP l.prog w K mg base C := ⟨TC.cl, ⟨_, _, _, ⟨pa_drawers, pg_drawers, pt_drawers, ⟨_, pr_drawers⟩⟩, OD, b_Cabinet_drawers⟩, ⟨_, _, _, ⟨pa_bars, pg_bars, pt_bars, ⟨_, pr_bars⟩⟩, OB, b_Cabinet_bars⟩⟩
  have O__law_taken := ok_taken (P := l.prog) (w := w) (base := base) F__law_taken TB
  have O_x_ckC := ok_ckC (P := l.prog) (w := w) (base := base) F_check_cabinet TB IC ETCb
  have O_reached := ok_reached_N F_reached O_x_ckC g_check_cabinet k_check_cabinet b_check_cabinet
  have O_check_cabinet := ok_ckCab (P := l.prog) (w := w) (base := base) F_check_cabinet TB IC
  have O_x_signsI := ok_hasSignsI (P := l.prog) (w := w) (base := base) F_has_signs TB n_str n_all
  have O_x_stdI := ok_isStdI F_is_standing O_x_signsI g_has_signs k_has_signs b_has_signs ⟨_, gST⟩
  have O_x_standing := ok_ckStdI F_check_standing CP ETSd O_x_stdI g_is_standing k_is_standing b_is_standing
  have O_can := ok_canI F_can O_check_cabinet g_check_cabinet k_check_cabinet b_check_cabinet O_x_standing g_check_standing k_check_standing b_check_standing
  have O_is_pattern := ok_isPatI F_is_pattern O_x_signsI g_has_signs k_has_signs b_has_signs ⟨_, gSS⟩
  have O_check_pattern := ok_ckPatI F_check_pattern CP ETPt O_is_pattern g_is_pattern k_is_pattern b_is_pattern
  have O_row_to := ok_row_toI F_row_to O_check_cabinet g_check_cabinet k_check_cabinet b_check_cabinet O_check_pattern g_check_pattern k_check_pattern b_check_pattern
  have O_is_integer := ok_isInt (P := l.prog) (w := w) (base := base) F_is_integer TB
  have O_is_drawer := ok_isDrawer F_is_drawer TB O_is_integer g_is_integer k_is_integer b_is_integer
  have O_is_set := ok_isSet F_is_set TB n_all n_zip O_is_drawer g_is_drawer k_is_drawer b_is_drawer
  have O_x_ckSetX := ok_ckSetX F_check_set CP ETSt O_is_set g_is_set k_is_set b_is_set
  have O_paper := ok_paperX F_paper O_check_cabinet g_check_cabinet k_check_cabinet b_check_cabinet O_x_ckSetX g_check_set k_check_set b_check_set
  have O_is_drawer_count := ok_isCount F_is_drawer_count TB O_is_integer g_is_integer k_is_integer b_is_integer ⟨_, gM⟩
  have O_x_ckDX := ok_ckDX F_check_drawers ETDr O_is_drawer_count g_is_drawer_count k_is_drawer_count b_is_drawer_count
  have O_is_bar := ok_isBar F_is_bar TB O_is_drawer g_is_drawer k_is_drawer b_is_drawer ⟨fW, gW, hW⟩
  have O_x_badBB := ok_badInit (w := w) (mg := mg) (base := base) FSBB SKBB n_super atBB
  have O_x_ckBX := ok_ckBX F_check_bars TB ⟨OEBB, gBB, ⟨_, _, inBB, tyBB, O_x_badBB, bBBi⟩⟩ O_is_bar g_is_bar k_is_bar b_is_bar
  have O_x_initX := ok_initX F_Cabinet___init__ TC O_x_ckDX g_check_drawers k_check_drawers b_check_drawers O_x_ckBX g_check_bars k_check_bars b_check_bars
  have O_first_standing := ok_first (P := l.prog) (base := base) F_first_standing TS
  have O_Desk___init__ := ok_deskI F_Desk___init__ DT CP O_check_cabinet g_check_cabinet k_check_cabinet b_check_cabinet O_first_standing g_first_standing k_first_standing b_first_standing
  have O_x_drawer := ok_ckDrI F_check_drawer CP ETDw O_is_drawer g_is_drawer k_is_drawer b_is_drawer
  have O_Desk_pull := ok_pullX F_Desk_pull DT O_x_drawer g_check_drawer k_check_drawer b_check_drawer
  have O__law_early := ok_early (C7 := CBP) (C8 := CBN) (C9 := CBT) (C10 := CBd) (C11 := CTM) (C12 := CUn) (C13 := CIT) F__law_early TC.mgC MC O_x_initX b_Cabinet___init__ O_reached g_reached k_reached b_reached O_can g_can k_can b_can O_row_to g_row_to k_row_to b_row_to DT MD O_Desk___init__ b_Desk___init__ UD O_Desk_pull b_Desk_pull O_paper g_paper k_paper b_paper kcI
  have O_x_badM := ok_TooManyInit (w := w) (mg := mg) (base := base) FSTM SKTM n_super atTM
  have O_check_few_drawers := ok_few F_check_few_drawers CP ⟨OETM, gTM, ⟨_, _, inTM, tyTM, O_x_badM, bTMi⟩⟩
  have O_is_pair := ok_isPair F_is_pair TB O_is_set g_is_set k_is_set b_is_set
  have O_x_badP := ok_BadPairsInit (w := w) (mg := mg) (base := base) FSBP SKBP n_super atBP
  have O_x_ckPr := ok_ckPrX F_check_pairs TB n_list CP ⟨OEBP, gBP, ⟨_, _, inBP, tyBP, O_x_badP, bBPi⟩⟩ O_is_pair g_is_pair k_is_pair b_is_pair
  have O_x_badN := ok_BadNumberInit (w := w) (mg := mg) (base := base) FSBN SKBN n_super atBN
  have O_x_ckNum := ok_ckNumX F_check_number ⟨OEBN, gBN, ⟨_, _, inBN, tyBN, O_x_badN, bBNi⟩⟩ O_is_integer g_is_integer k_is_integer b_is_integer
  have O_guards := ok_guardsX F_guards CP ⟨_, gMG⟩ ⟨_, gMA⟩ O_check_few_drawers g_check_few_drawers k_check_few_drawers b_check_few_drawers O_check_cabinet g_check_cabinet k_check_cabinet b_check_cabinet O_x_ckPr g_check_pairs k_check_pairs b_check_pairs O_x_ckNum g_check_number k_check_number b_check_number
  have O_x_ckLen := ok_ckLen F_check_number ⟨OEBN, gBN, ⟨_, _, inBN, tyBN, O_x_badN, bBNi⟩⟩ O_is_integer g_is_integer k_is_integer b_is_integer
  have O_count_rows := ok_countRowsX F_count_rows ⟨_, gMP⟩ O_check_cabinet g_check_cabinet k_check_cabinet b_check_cabinet O_x_ckLen g_check_number k_check_number b_check_number
  have O_x_signsG := ok_hasSignsG (P := l.prog) (w := w) (base := base) F_has_signs TB n_str n_all
  have O_x_stdG := ok_isStdG F_is_standing O_x_signsG g_has_signs k_has_signs b_has_signs ⟨_, gST⟩
  have O_is_try := ok_isTry F_is_try TB O_x_stdG g_is_standing k_is_standing b_is_standing O_is_drawer g_is_drawer k_is_drawer b_is_drawer
  have O_x_badT := ok_BadTriesInit (w := w) (mg := mg) (base := base) FSBT SKBT n_super atBT
  have O_x_ckTrX := ok_ckTrX F_check_tries TB n_list ⟨_, gMT⟩ ⟨OEBT, gBT, ⟨_, _, inBT, tyBT, O_x_badT, bBTi⟩⟩ O_is_try g_is_try k_is_try b_is_try
  have O_sure := ok_sureX F_sure O_x_ckDX g_check_drawers k_check_drawers b_check_drawers O_x_ckTrX g_check_tries k_check_tries b_check_tries
  have O_has_signs := ok_hasSigns (P := l.prog) (w := w) (base := base) F_has_signs TB n_str n_all
  have O_is_standing := ok_isStd F_is_standing O_has_signs g_has_signs k_has_signs b_has_signs ⟨_, gST⟩
  have O_check_standing := ok_ckStd F_check_standing CP O_is_standing g_is_standing k_is_standing b_is_standing
  have O_check_drawer := ok_ckDrawer F_check_drawer CP O_is_drawer g_is_drawer k_is_drawer b_is_drawer
  have O_hinders := ok_hinders (P := l.prog) (base := base) F_hinders TS
  have O_bars_against := ok_against F_bars_against CP O_hinders g_hinders k_hinders b_hinders
  have O_goes := ok_goes F_goes O_bars_against g_bars_against k_bars_against b_bars_against
  have O_moved := ok_moved (P := l.prog) (base := base) F_moved TS
  have O_behind := ok_behind F_behind BT O_check_cabinet g_check_cabinet k_check_cabinet b_check_cabinet O_check_standing g_check_standing k_check_standing b_check_standing O_check_drawer g_check_drawer k_check_drawer b_check_drawer O_goes g_goes k_goes b_goes O_moved g_moved k_moved b_moved
  have O_first_apart := ok_firstApartU F_first_apart CP ETUn O_check_cabinet g_check_cabinet k_check_cabinet b_check_cabinet
  have O_alike := ok_alikeU F_alike O_first_apart g_first_apart k_first_apart b_first_apart
  have O_words_of := ok_wordsOf0 (mg := mg) (P := l.prog) (w := w) (base := base) F_words_of
  have O_x_badI := ok_InvTextInit (w := w) (mg := mg) (base := base) FSIT SKIT n_super atIT atIT2
  have O_check_words := ok_ckWords0 F_check_words TB n_zip n_min ⟨OEIT, gIT, ⟨_, _, inIT, tyIT, O_x_badI, bITi⟩⟩
  have O_read_drawers := ok_readDr0 F_read_drawers TB n_str ⟨_, gM⟩ O_check_words g_check_words k_check_words b_check_words
  have O_read := ok_read0 F_read O_words_of g_words_of k_words_of b_words_of O_read_drawers g_read_drawers k_read_drawers b_read_drawers
  have O_check_drawers := ok_checkDrawers F_check_drawers O_is_drawer_count g_is_drawer_count k_is_drawer_count b_is_drawer_count
  have O_check_bars := ok_checkBars F_check_bars TB O_is_bar g_is_bar k_is_bar b_is_bar
  have O_Cabinet___init__ := ok_init F_Cabinet___init__ TC O_check_drawers g_check_drawers k_check_drawers b_check_drawers O_check_bars g_check_bars k_check_bars b_check_bars
  have O__law_call := ok_call9 F__law_call TC.mgC MC O_Cabinet___init__ b_Cabinet___init__ O__law_early g__law_early k__law_early b__law_early O_guards g_guards k_guards b_guards O_count_rows g_count_rows k_count_rows b_count_rows O_sure g_sure k_sure b_sure O_behind g_behind k_behind b_behind O_alike g_alike k_alike b_alike O_read g_read k_read b_read
  have O__law_first := ok__law_first F__law_first O__law_call g__law_call k__law_call b__law_call ETDr.g gBB ETCb.g ETSd.g ETPt.g ETDw.g ETSt.g gDE X9
  have O__law_second := ok__law_second F__law_second O__law_call g__law_call k__law_call b__law_call gBP gBN gBT BT.g gTM ETUn.g gIT gDE X9
  have O_check_tries := F_check_tries
  have O_check_pairs := F_check_pairs
  have O_check_number := F_check_number
  have O_check_set := ok_ckSet F_check_set CP O_is_set g_is_set k_is_set b_is_set
  exact ok_law F_law TB n_min O__law_taken g__law_taken k__law_taken b__law_taken O__law_first g__law_first k__law_first b__law_first O__law_second g__law_second k__law_second b__law_second
theorem walk {l : PySem.W.OpenLaw} {q : Program} {loose : List Str} {XP : (Str → Option Value) → Heap → Prop} {YP : World → Heap → Prop} {d : DefRec} {K : Params → PySem.W.Frag} (hn : l.most = some 63) (hdf : d.params.defaults = [])
    (hY : ∀ (w : World) (h : Heap), YP w h → (K w.params).In h)
    (F : ∀ (w : World) (mg : Str → Option Value) (fa : Addr) (h : Heap), (K w.params).In h → h.Ns mainGlobals mg → mg d.name = some (.ref fa) →
      ∃ fd : FuncData, (∀ (s : Shared) (u : Value), BindsTo s fd ⟨[u], []⟩ [("_law_script", u)]) ∧ ∀ base : Heap, (K w.params).In base → base.Ns mainGlobals mg → FnOk l.prog w (K w.params) mg base CX0 20 fa fd ["_law_script"] (spLaw29 (K w.params))) :
    PySem.W.WalkO q loose XP YP l.row.toRowW d [] (fun f vs => PySem.call f vs) :=
  L2.walk_of (n := 63) (k := 20) (x := "_law_script") (CX := fun _ => CX0) (sp := fun w => spLaw29 (K w.params)) hn (by decide) hdf ⟨rfl, by decide, by decide⟩ hY F (fun _ _ a ns hl _ hS => ⟨a, ns, rfl, hS, hl, fun _ => rfl⟩) fun _ _ _ _ _ z => z
end DL


set_option Elab.async false
set_option linter.all false
set_option maxRecDepth 100000
set_option maxHeartbeats 2000000
/-! A head whose facts are read off by a Hook: functions by their parts, the rest by Bools. -/
namespace HX
open PySem PySem.Spec PyProof.Rows L2
abbrev Fr := PySem.W.Frag
/-! ### what the Hook looks at -/
def fdA (K : Fr) (f : Addr) : Option FuncData := match K.lookup f with
  | some ⟨_, _, .func fd, _⟩ => some fd
  | _ => none
abbrev FnL : Type := Option (Str × Str × Arguments × FuncBody × Scope × Addr × List Str × Value × Addr)
def fnL (K : Fr) (f : Addr) : FnL := (fdA K f).map fun fd => (fd.name, fd.qualname, fd.params, fd.body, fd.scope, fd.globals, fd.closure.map (·.1), fd.defaults, fd.builtins)
/-- a def: its address, its parts; own: it holds its class in a cell -/
structure FD where
  ad : Fr → Addr
  name : Str
  qual : Str
  params : Arguments
  body : List Stmt
  scope : Scope
  own : List Str := []
def FD.val (d : FD) : FnL := some (d.name, d.qual, d.params, .stmts d.body, d.scope, mainGlobals, d.own, .none, builtinsNs)
def codeB (K : Fr) (f : Addr) (q : Str) : Bool := match fdA K f with
  | some fd => PySem.W.codeIn K fd.code q
  | none => false
theorem fdA_ok {K : Fr} {f : Addr} {fd : FuncData} (h : fdA K f = some fd) : ∃ oc od sl, K.lookup f = some ⟨oc, od, .func fd, sl⟩ := by
  unfold fdA at h
  cases q : K.lookup f with
  | none => rw [q] at h; cases h
  | some o =>
    obtain ⟨oc, od, dt, sl⟩ := o
    rw [q] at h
    cases dt with
    | func fd' =>
      injection h with h
      subst h
      exact ⟨oc, od, sl, rfl⟩
    | _ => cases h
theorem fnL_ok {K : Fr} {d : FD} (e : fnL K (d.ad K) = d.val) : ∃ fd, fdA K (d.ad K) = some fd ∧ fd.name = d.name ∧ fd.qualname = d.qual ∧ fd.params = d.params ∧ fd.body = .stmts d.body ∧ fd.scope = d.scope ∧ fd.globals = mainGlobals ∧ fd.closure.map (·.1) = d.own ∧ fd.defaults = .none ∧ fd.builtins = builtinsNs := by
  unfold fnL FD.val at e
  cases q : fdA K (d.ad K) with
  | none => rw [q] at e; cases e
  | some fd =>
    rw [q] at e
    simp only [Option.map_some, Option.some.injEq, Prod.mk.injEq] at e
    obtain ⟨h1, h2, h3, h4, h5, h6, h7, h8, h9⟩ := e
    exact ⟨fd, rfl, h1, h2, h3, h4, h5, h6, h7, h8, h9⟩
/-- a def without a cell -/
theorem fd_plain {K : Fr} {d : FD} (ho : d.own = []) (e : fnL K (d.ad K) = d.val) (c : codeB K (d.ad K) d.qual = true) :
    ∃ (od an : Option Addr) (sl : Array (Option Value)) (oc kV dc pm cd ct : Value), K.lookup (d.ad K) = some ⟨oc, od, .func (PySem.W.fnOf d.name d.qual d.params d.body d.scope .none kV dc pm an cd ct), sl⟩ ∧ PySem.W.codeIn K cd d.qual = true := by
  obtain ⟨fd, hf, h1, h2, h3, h4, h5, h6, h7, h8, h9⟩ := fnL_ok e
  obtain ⟨oc, od, sl, hl⟩ := fdA_ok hf
  unfold codeB at c
  rw [hf] at c
  obtain ⟨n1, n2, n3, n4, n5, n6, n7, n8, n9, n10, n11, n12, n13, n14, n15⟩ := fd
  simp only at h1 h2 h3 h4 h5 h6 h7 h8 h9 c
  rw [ho] at h7
  obtain rfl : n7 = [] := List.map_eq_nil_iff.mp h7
  subst h1 h2 h3 h4 h5 h6 h8 h9
  exact ⟨od, n12, sl, oc, n9, n10, n11, n13, n14, hl, c⟩
/-! ### a def with super(): its code's file, its cell -/
def cdA (K : Fr) (f : Addr) : Addr := match fdA K f with
  | some fd => (match fd.code with
    | .ref a => a
    | _ => 0)
  | none => 0
def ccA (K : Fr) (f : Addr) : Addr := match fdA K f with
  | some fd => (match fd.closure with
    | [(_, a)] => a
    | _ => 0)
  | none => 0
def codeR (K : Fr) (f : Addr) : Bool := match fdA K f with
  | some fd => (match fd.code with
    | .ref _ => true
    | _ => false)
  | none => false
def fileB (K : Fr) (a : Addr) (file : Str) : Bool := match K.lookup a with
  | some ⟨_, _, .fields vs, _⟩ => (match (vs[2]? : Option Value) with
    | some (Value.str z _) => file == z
    | _ => false)
  | _ => false
def cellB (K : Fr) (a C : Addr) : Bool := match K.lookup a with
  | some ⟨_, _, .cell (some (.ref c)), _⟩ => decide (c = C)
  | _ => false
theorem fd_super {K : Fr} {d : FD} (ho : d.own = [("__class__" : Str)]) (e : fnL K (d.ad K) = d.val) (c : codeB K (d.ad K) d.qual = true) (r : codeR K (d.ad K) = true) :
    ∃ (od an : Option Addr) (sl : Array (Option Value)) (oc kV dc pm ct : Value), K.lookup (d.ad K) = some ⟨oc, od, .func (PySem.W.ksFn d.name d.qual d.params d.body d.scope .none kV dc pm an (.ref (cdA K (d.ad K))) ct (ccA K (d.ad K))), sl⟩ ∧ PySem.W.codeIn K (.ref (cdA K (d.ad K))) d.qual = true := by
  obtain ⟨fd, hf, h1, h2, h3, h4, h5, h6, h7, h8, h9⟩ := fnL_ok e
  obtain ⟨oc, od, sl, hl⟩ := fdA_ok hf
  unfold codeB at c
  unfold codeR at r
  unfold cdA ccA
  rw [hf] at c r ⊢
  obtain ⟨n1, n2, n3, n4, n5, n6, n7, n8, n9, n10, n11, n12, n13, n14, n15⟩ := fd
  simp only at h1 h2 h3 h4 h5 h6 h7 h8 h9 c r ⊢
  rw [ho] at h7
  match n7, h7 with
  | [(x, a)], h7 =>
    injection h7 with h7 _
    simp only at h7
    subst h7
    cases n13 with
    | ref b =>
      subst h1 h2 h3 h4 h5 h6 h8 h9
      exact ⟨od, n12, sl, oc, n9, n10, n11, n14, hl, c⟩
    | _ => cases r
theorem file_ok {K : Fr} {a : Addr} {file : Str} (h : fileB K a file = true) : ∃ ccl cdd vs ccs z tf, K.lookup a = some ⟨ccl, cdd, .fields vs, ccs⟩ ∧ vs[2]? = some (.str z tf) ∧ (file == z) = true := by
  unfold fileB at h
  cases q : K.lookup a with
  | none => rw [q] at h; cases h
  | some o =>
    obtain ⟨oc, od, dt, sl⟩ := o
    rw [q] at h
    cases dt with
    | fields vs =>
      simp only at h
      cases e : vs[2]? with
      | none => rw [e] at h; cases h
      | some v =>
        rw [e] at h
        cases v with
        | str z tf => exact ⟨oc, od, vs, sl, z, tf, rfl, e, h⟩
        | _ => cases h
    | _ => cases h
theorem cell_ok {K : Fr} {a C : Addr} (h : cellB K a C = true) : ∃ cl cld csl, K.lookup a = some ⟨cl, cld, .cell (some (.ref C)), csl⟩ := by
  unfold cellB at h
  cases q : K.lookup a with
  | none => rw [q] at h; cases h
  | some o =>
    obtain ⟨oc, od, dt, sl⟩ := o
    rw [q] at h
    cases dt with
    | cell v =>
      cases v with
      | none => cases h
      | some v =>
        cases v with
        | ref c =>
          have e : c = C := of_decide_eq_true h
          subst e
          exact ⟨oc, od, sl, rfl⟩
        | _ => cases h
    | _ => cases h
/-! ### an own error's class under another own one -/
def exB (K : Fr) (C D : Addr) : Bool := match K.lookup C with
  | some ⟨.type t, _, .cls cd, sl⟩ => (match cd.mro, sl.toList with
    | .ref C' :: bm, [_, _, _, _, some (.builtin n), _] => t == "type" && C' == C && n == "ValueError.__new__" && !cd.hasDel && cd.hasDict && bm == [.ref D, .type "ValueError", .type "Exception", .type "BaseException", .type "object"]
    | _, _ => false)
  | _ => false
theorem ex_ok {K : Fr} {C D : Addr} (q : exB K C D = true) : ∃ (nm qn : Str) (N : Addr) (bs : List Value) (sn : List Str) (sub : List Value) (ab : Bool) (col : Option Bool) (dd : Option Addr) (k0 k1 k2 k3 k5 : Option Value),
    K.lookup C = some (excClassObj nm qn C N bs [.ref D, .type "ValueError", .type "Exception", .type "BaseException", .type "object"] true sn sub ab col dd k0 k1 k2 k3 k5 "ValueError.__new__") := by
  unfold exB at q
  split at q
  · rename_i t dd cd sl ho
    split at q
    · rename_i C' bm k0 k1 k2 k3 n k5 hm hs
      simp only [Bool.and_eq_true, beq_iff_eq, Bool.not_eq_true'] at q
      obtain ⟨⟨⟨⟨⟨rfl, rfl⟩, rfl⟩, hdel⟩, hd⟩, rfl⟩ := q
      obtain ⟨nm, bs, mro, ns, qn, hd', sn, sub, ab, col, del⟩ := cd
      dsimp only at hm hdel hd
      subst hm hdel hd
      have hsl : sl = #[k0, k1, k2, k3, some (.builtin "ValueError.__new__"), k5] := by
        obtain ⟨l⟩ := sl
        simp only at hs
        rw [hs]
      subst hsl
      exact ⟨nm, qn, ns, bs, sn, sub, ab, col, dd, k0, k1, k2, k3, k5, ho⟩
    · cases q
  · cases q
/-! ### names, values -/
def intB (K : Fr) (a : Addr) (x : Str) (i : Int) : Bool := match PySem.W.nsIn K a x with
  | some (some (.int j _)) => decide (j = i)
  | _ => false
theorem int_ok {K : Fr} {a : Addr} {x : Str} {i : Int} (h : intB K a x i = true) : ∃ t, PySem.W.nsIn K a x = some (some (.int i t)) := by
  unfold intB at h
  split at h
  · rename_i j t e
    rw [of_decide_eq_true h] at e
    exact ⟨t, e⟩
  · cases h
def strB (K : Fr) (a : Addr) (x z : Str) : Bool := match PySem.W.nsIn K a x with
  | some (some (.str y _)) => decide (y = z)
  | _ => false
theorem str_ok {K : Fr} {a : Addr} {x z : Str} (h : strB K a x z = true) : ∃ t, PySem.W.nsIn K a x = some (some (.str z t)) := by
  unfold strB at h
  split at h
  · rename_i j t e
    rw [of_decide_eq_true h] at e
    exact ⟨t, e⟩
  · cases h
def tup2B (K : Fr) (a : Addr) (x y : Str) : Bool := match K.lookup a with
  | some ⟨.type c, _, .seq ⟨[.str p _, .str q _]⟩ _, _⟩ => decide (c = "tuple") && (decide (p = x) && decide (q = y))
  | _ => false
theorem tup2_ok {K : Fr} {a : Addr} {x y : Str} (h : tup2B K a x y = true) : ∃ dd t1 t2 n sl, K.lookup a = some ⟨.type "tuple", dd, .seq #[.str x t1, .str y t2] n, sl⟩ := by
  unfold tup2B at h
  split at h
  · rename_i c dd p t1 q t2 n sl e
    simp only [Bool.and_eq_true, decide_eq_true_eq] at h
    obtain ⟨rfl, rfl, rfl⟩ := h
    exact ⟨dd, t1, t2, n, sl, e⟩
  · cases h
/-- a property's def -/
def prA (K : Fr) (p : Addr) : Addr := match PySem.W.recIn K p "property" with
  | some (.ref f :: _) => f
  | _ => 0
def prR (K : Fr) (p : Addr) : List Value := match PySem.W.recIn K p "property" with
  | some (_ :: r) => r
  | _ => []
def prB (K : Fr) (p : Addr) : Bool := match PySem.W.recIn K p "property" with
  | some (.ref _ :: _) => true
  | _ => false
theorem pr_ok {K : Fr} {p : Addr} (h : prB K p = true) : PySem.W.recIn K p "property" = some (.ref (prA K p) :: prR K p) := by
  unfold prB at h
  unfold prA prR
  split at h
  · rename_i f r e
    rw [e]
  · cases h
/-- a dict's keys, with their hashes -/
def keyO (e : DictEntry) : Option (Str × Int) := match e.key with
  | .str x _ => some (x, e.hash)
  | _ => none
def dicO (K : Fr) (a : Addr) : Option (List (Option (Str × Int))) := match K.lookup a with
  | some ⟨.type c, none, .dict es _, ⟨[]⟩⟩ => (match c == "dict" with
    | true => some (es.toList.map keyO)
    | false => none)
  | _ => none
theorem dic_ok {K : Fr} {a : Addr} {P : Params} {ks : List Str} (h : dicO K a = some (ks.map fun x => some (x, PyData.keyHash P x))) : ∃ es n, K.lookup a = some ⟨.type "dict", none, .dict es n, #[]⟩ ∧ PySem.W.KeysLit P es.toList := by
  unfold dicO at h
  split at h
  · rename_i c es n e
    split at h
    · rename_i hc
      injection h with h
      rw [beq_iff_eq.mp hc] at e
      refine ⟨es, n, e, ?_⟩
      generalize es.toList = l at h
      clear e
      induction l generalizing ks with
      | nil => trivial
      | cons d l ih =>
        cases ks with
        | nil => cases h
        | cons k ks =>
          rw [List.map_cons, List.map_cons] at h
          injection h with h1 h2
          refine ⟨?_, ih h2⟩
          unfold keyO at h1
          split at h1
          · rename_i x t ek
            injection h1 with h1
            injection h1 with h1 h3
            subst h1
            exact ⟨_, t, ek, h3⟩
          · cases h1
    · cases h
  · cases h
/-! ### the Hook -/
def memN (a : Nat) : List Nat → Bool
  | [] => false
  | b :: r => match Nat.beq a b with
    | true => true
    | false => memN a r
/-- of these the ones that are not there yet -/
def newN : List Nat → List Nat → List Nat → List Nat
  | [], _, acc => acc
  | a :: r, seen, acc => match memN a seen with
    | true => newN r seen acc
    | false => (match memN a acc with
      | true => newN r seen acc
      | false => newN r seen (a :: acc))
/-- the objects that matter to the facts: a dict's values, a def's code and cells, a class's names and bases, a property's defs -/
def refsX (o : Obj) : List Addr := match o.data with
  | .dict es _ => es.toList.flatMap fun e => He.refV e.val
  | .func fd => He.refV fd.code ++ fd.closure.map (·.2)
  | .cls cd => cd.ns :: cd.mro.flatMap He.refV
  | .fields vs => (match o.cls with
    | .type c => (match c == "property" with
      | true => vs.toList.flatMap He.refV
      | false => [])
    | _ => [])
  | _ => []
def outX (g : Addr → Option Obj) : List Addr → List Addr
  | [] => []
  | a :: r => (match g a with
    | some o => refsX o
    | none => []) ++ outX g r
def walkX (g : Addr → Option Obj) : Nat → List Addr → List Addr → List Addr
  | 0, seen, _ => seen
  | n + 1, seen, front => (fun nw => walkX g n (seen ++ nw) nw) (newN (outX g front) seen [])
def asX (g : Addr → Option Obj) (n : Nat) : List Addr := walkX g n [mainGlobals, cStatics] [mainGlobals, cStatics]
abbrev AlX : Type := Bool × List FnL × Option (List (Option (Str × Int)))
structure Look where
  bs : Fr → List Bool
  fn : List FD
  di : Fr → Addr
  ks : List Str
def Look.obs (L : Look) (K : Fr) : AlX := ((L.bs K).all id, L.fn.map fun d => fnL K (d.ad K), dicO K (L.di K))
def Look.val (L : Look) (w : World) : AlX := (true, L.fn.map FD.val, some (L.ks.map fun x => some (x, PyData.keyHash w.params x)))
def Look.hook (n : Nat) (L : Look) : PySem.W.Hook where
  α := AlX
  obs := fun s => L.obs (He.frG s.heap.get? (asX s.heap.get? n))
  val := fun w => L.val w
  says := fun w h => ∃ K : Fr, K.In h ∧ L.obs K = L.val w
  of := fun _ _ e => ⟨_, He.frG_in, e⟩
  keeps := fun _ _ _ ⟨K, hK, c⟩ k => ⟨K, PySem.W.Frag.In.keeps hK k, c⟩
def Look.ob (n : Nat) (L : Look) (s : PySem.W.SharedT) : AlX := L.obs (He.frG (HandSHeadRun.getT s) (asX (HandSHeadRun.getT s) n))
theorem Look.ob_eq (n : Nat) (L : Look) (s : PySem.W.SharedT) : L.ob n s = (L.hook n).obs s.abs := by
  have e : HandSHeadRun.getT s = s.abs.heap.get? := funext (HandSHeadRun.getT_eq s)
  show L.obs (He.frG (HandSHeadRun.getT s) (asX (HandSHeadRun.getT s) n)) = L.obs (He.frG s.abs.heap.get? (asX s.abs.heap.get? n))
  rw [e]
section
variable {L : Look} {K : Fr} {w : World}
theorem Look.bit (c : L.obs K = L.val w) (i : Nat) {b : Bool} (h : (L.bs K)[i]? = some b) : b = true := by
  have c1 : (L.bs K).all id = true := congrArg (fun z : AlX => z.1) c
  exact List.all_eq_true.mp c1 b (List.mem_of_getElem? h)
theorem Look.eq (c : L.obs K = L.val w) (i : Nat) {p : Prop} [Decidable p] (h : (L.bs K)[i]? = some (decide p)) : p := of_decide_eq_true (Look.bit c i h)
theorem Look.def_ (c : L.obs K = L.val w) (i : Nat) {d : FD} (h : L.fn[i]? = some d) : fnL K (d.ad K) = d.val := by
  have e : L.fn.map (fun d => fnL K (d.ad K)) = L.fn.map FD.val := congrArg (fun z : AlX => z.2.1) c
  have e2 : (L.fn.map fun d => fnL K (d.ad K))[i]? = (L.fn.map FD.val)[i]? := by rw [e]
  rw [List.getElem?_map, List.getElem?_map, h] at e2
  exact Option.some.inj e2
theorem Look.dic (c : L.obs K = L.val w) : ∃ es n, K.lookup (L.di K) = some ⟨.type "dict", none, .dict es n, #[]⟩ ∧ PySem.W.KeysLit w.params es.toList := dic_ok (congrArg (fun z : AlX => z.2.2) c)
end
end HX

set_option Elab.async false
set_option linter.all false
set_option maxRecDepth 100000
set_option maxHeartbeats 0
namespace HDG
open PySem PySem.Spec PyProof.Rows L2 DL
abbrev R : PySem.W.OpenRow := PySem.W.OpenLaw.row PySem.Challenge.rw_drawerlocks_k29_errors_are_apart
def l0 : List PySem.Str := [PySem.Str.ofString "_wall", PySem.Str.ofString "__name__", PySem.Str.ofString "DrawerError", PySem.Str.ofString "BadDrawers", PySem.Str.ofString "BadBars", PySem.Str.ofString "BadCabinet", PySem.Str.ofString "BadStanding", PySem.Str.ofString "BadPattern", PySem.Str.ofString "BadDrawer", PySem.Str.ofString "BadSet", PySem.Str.ofString "BadPairs", PySem.Str.ofString "BadNumber", PySem.Str.ofString "BadTries", PySem.Str.ofString "Barred", PySem.Str.ofString "TooMany", PySem.Str.ofString "Unlike", PySem.Str.ofString "InvalidText", PySem.Str.ofString "MOST_DRAWERS", PySem.Str.ofString "WORDS", PySem.Str.ofString "SIGNS", PySem.Str.ofString "STANDING_SIGNS", PySem.Str.ofString "PATTERN_SIGNS", PySem.Str.ofString "is_integer", PySem.Str.ofString "is_drawer_count", PySem.Str.ofString "is_drawer", PySem.Str.ofString "is_set", PySem.Str.ofString "is_pair", PySem.Str.ofString "is_bar", PySem.Str.ofString "all_bars", PySem.Str.ofString "is_standing", PySem.Str.ofString "is_pattern", PySem.Str.ofString "is_try", PySem.Str.ofString "has_signs", PySem.Str.ofString "first_standing", PySem.Str.ofString "fits"]
def l1 : List PySem.Str := [PySem.Str.ofString "hinders", PySem.Str.ofString "moved", PySem.Str.ofString "Cabinet", PySem.Str.ofString "can", PySem.Str.ofString "behind", PySem.Str.ofString "free_drawers", PySem.Str.ofString "goes", PySem.Str.ofString "bars_against", PySem.Str.ofString "check_drawers", PySem.Str.ofString "check_bars", PySem.Str.ofString "check_cabinet", PySem.Str.ofString "check_standing", PySem.Str.ofString "check_pattern", PySem.Str.ofString "check_drawer", PySem.Str.ofString "check_few_drawers", PySem.Str.ofString "check_number", PySem.Str.ofString "reached", PySem.Str.ofString "row_to", PySem.Str.ofString "first_rows", PySem.Str.ofString "reached_pulls", PySem.Str.ofString "rows_from", PySem.Str.ofString "first_row_to", PySem.Str.ofString "MOST_PULLS", PySem.Str.ofString "count_rows", PySem.Str.ofString "counts_by_end", PySem.Str.ofString "counts_behind", PySem.Str.ofString "Desk", PySem.Str.ofString "paper", PySem.Str.ofString "any_fits", PySem.Str.ofString "open_pattern", PySem.Str.ofString "check_set", PySem.Str.ofString "MOST_GUARDED", PySem.Str.ofString "MOST_ADDED", PySem.Str.ofString "guards", PySem.Str.ofString "is_guarded"]
def l2 : List PySem.Str := [PySem.Str.ofString "reached_beside", PySem.Str.ofString "check_pairs", PySem.Str.ofString "alike", PySem.Str.ofString "first_apart", PySem.Str.ofString "read", PySem.Str.ofString "words_of", PySem.Str.ofString "read_drawers", PySem.Str.ofString "read_bar", PySem.Str.ofString "check_words", PySem.Str.ofString "MOST_TRIES", PySem.Str.ofString "sure", PySem.Str.ofString "some_agree", PySem.Str.ofString "needs_of", PySem.Str.ofString "bars_left", PySem.Str.ofString "check_tries", PySem.Str.ofString "_law_taken", PySem.Str.ofString "_law_call", PySem.Str.ofString "_law_early", PySem.Str.ofString "_law_first", PySem.Str.ofString "_law_second"]
def loose : List PySem.Str := l0 ++ l1 ++ l2
def fd0 : HX.FD := ⟨fun K => He.ga K "is_integer", "is_integer", "is_integer", (defArgs sIsInt), (defBody sIsInt), (defScope sIsInt), []⟩
def fd1 : HX.FD := ⟨fun K => He.ga K "is_drawer_count", "is_drawer_count", "is_drawer_count", (defArgs sIsCount), (defBody sIsCount), (defScope sIsCount), []⟩
def fd2 : HX.FD := ⟨fun K => He.ga K "is_drawer", "is_drawer", "is_drawer", (defArgs sIsDrawer), (defBody sIsDrawer), (defScope sIsDrawer), []⟩
def fd3 : HX.FD := ⟨fun K => He.ga K "is_bar", "is_bar", "is_bar", (defArgs sIsBar), (defBody sIsBar), (defScope sIsBar), []⟩
def fd4 : HX.FD := ⟨fun K => He.ga K "check_drawers", "check_drawers", "check_drawers", (defArgs sCheckDrawers), (defBody sCheckDrawers), (defScope sCheckDrawers), []⟩
def fd5 : HX.FD := ⟨fun K => He.ga K "check_bars", "check_bars", "check_bars", (defArgs sCheckBars), (defBody sCheckBars), (defScope sCheckBars), []⟩
def fd6 : HX.FD := ⟨fun K => He.ga K "_law_taken", "_law_taken", "_law_taken", (defArgs sTaken), (defBody sTaken), (defScope sTaken), []⟩
def fd7 : HX.FD := ⟨fun K => He.ga K "hinders", "hinders", "hinders", (defArgs s_hinders), (defBody s_hinders), (defScope s_hinders), []⟩
def fd8 : HX.FD := ⟨fun K => He.ga K "moved", "moved", "moved", (defArgs s_moved), (defBody s_moved), (defScope s_moved), []⟩
def fd9 : HX.FD := ⟨fun K => He.ga K "bars_against", "bars_against", "bars_against", (defArgs s_bars_against), (defBody s_bars_against), (defScope s_bars_against), []⟩
def fd10 : HX.FD := ⟨fun K => He.ga K "goes", "goes", "goes", (defArgs s_goes), (defBody s_goes), (defScope s_goes), []⟩
def fd11 : HX.FD := ⟨fun K => He.ga K "has_signs", "has_signs", "has_signs", (defArgs s_has_signs), (defBody s_has_signs), (defScope s_has_signs), []⟩
def fd12 : HX.FD := ⟨fun K => He.ga K "is_standing", "is_standing", "is_standing", (defArgs s_is_standing), (defBody s_is_standing), (defScope s_is_standing), []⟩
def fd13 : HX.FD := ⟨fun K => He.ga K "is_pattern", "is_pattern", "is_pattern", (defArgs s_is_pattern), (defBody s_is_pattern), (defScope s_is_pattern), []⟩
def fd14 : HX.FD := ⟨fun K => He.ga K "check_cabinet", "check_cabinet", "check_cabinet", (defArgs s_check_cabinet), (defBody s_check_cabinet), (defScope s_check_cabinet), []⟩
def fd15 : HX.FD := ⟨fun K => He.ga K "check_standing", "check_standing", "check_standing", (defArgs s_check_standing), (defBody s_check_standing), (defScope s_check_standing), []⟩
def fd16 : HX.FD := ⟨fun K => He.ga K "check_pattern", "check_pattern", "check_pattern", (defArgs s_check_pattern), (defBody s_check_pattern), (defScope s_check_pattern), []⟩
def fd17 : HX.FD := ⟨fun K => He.ga K "check_drawer", "check_drawer", "check_drawer", (defArgs s_check_drawer), (defBody s_check_drawer), (defScope s_check_drawer), []⟩
def fd18 : HX.FD := ⟨fun K => He.ga K "can", "can", "can", (defArgs s_can), (defBody s_can), (defScope s_can), []⟩
def fd19 : HX.FD := ⟨fun K => He.ga K "behind", "behind", "behind", (defArgs s_behind), (defBody s_behind), (defScope s_behind), []⟩
def fd20 : HX.FD := ⟨fun K => He.ga K "first_standing", "first_standing", "first_standing", (defArgs s_first_standing), (defBody s_first_standing), (defScope s_first_standing), []⟩
def fd21 : HX.FD := ⟨fun K => He.ga K "row_to", "row_to", "row_to", (defArgs s_row_to), (defBody s_row_to), (defScope s_row_to), []⟩
def fd22 : HX.FD := ⟨fun K => He.ga K "reached", "reached", "reached", (defArgs s_reached), (defBody s_reached), (defScope s_reached), []⟩
def fd23 : HX.FD := ⟨fun K => He.ga K "is_set", "is_set", "is_set", (defArgs s_is_set), (defBody s_is_set), (defScope s_is_set), []⟩
def fd24 : HX.FD := ⟨fun K => He.ga K "check_set", "check_set", "check_set", (defArgs s_check_set), (defBody s_check_set), (defScope s_check_set), []⟩
def fd25 : HX.FD := ⟨fun K => He.ga K "first_apart", "first_apart", "first_apart", (defArgs s_first_apart), (defBody s_first_apart), (defScope s_first_apart), []⟩
def fd26 : HX.FD := ⟨fun K => He.ga K "alike", "alike", "alike", (defArgs s_alike), (defBody s_alike), (defScope s_alike), []⟩
def fd27 : HX.FD := ⟨fun K => He.ga K "check_pairs", "check_pairs", "check_pairs", (defArgs s_check_pairs), (defBody s_check_pairs), (defScope s_check_pairs), []⟩
def fd28 : HX.FD := ⟨fun K => He.ga K "check_number", "check_number", "check_number", (defArgs s_check_number), (defBody s_check_number), (defScope s_check_number), []⟩
def fd29 : HX.FD := ⟨fun K => He.ga K "check_tries", "check_tries", "check_tries", (defArgs s_check_tries), (defBody s_check_tries), (defScope s_check_tries), []⟩
def fd30 : HX.FD := ⟨fun K => He.ga K "is_pair", "is_pair", "is_pair", (defArgs s_is_pair), (defBody s_is_pair), (defScope s_is_pair), []⟩
def fd31 : HX.FD := ⟨fun K => He.ga K "is_try", "is_try", "is_try", (defArgs s_is_try), (defBody s_is_try), (defScope s_is_try), []⟩
def fd32 : HX.FD := ⟨fun K => He.ga K "check_few_drawers", "check_few_drawers", "check_few_drawers", (defArgs s_check_few_drawers), (defBody s_check_few_drawers), (defScope s_check_few_drawers), []⟩
def fd33 : HX.FD := ⟨fun K => He.ga K "paper", "paper", "paper", (defArgs s_paper), (defBody s_paper), (defScope s_paper), []⟩
def fd34 : HX.FD := ⟨fun K => He.ga K "guards", "guards", "guards", (defArgs s_guards), (defBody s_guards), (defScope s_guards), []⟩
def fd35 : HX.FD := ⟨fun K => He.ga K "count_rows", "count_rows", "count_rows", (defArgs s_count_rows), (defBody s_count_rows), (defScope s_count_rows), []⟩
def fd36 : HX.FD := ⟨fun K => He.ga K "sure", "sure", "sure", (defArgs s_sure), (defBody s_sure), (defScope s_sure), []⟩
def fd37 : HX.FD := ⟨fun K => He.ga K "check_words", "check_words", "check_words", (defArgs s_check_words), (defBody s_check_words), (defScope s_check_words), []⟩
def fd38 : HX.FD := ⟨fun K => He.ga K "words_of", "words_of", "words_of", (defArgs s_words_of), (defBody s_words_of), (defScope s_words_of), []⟩
def fd39 : HX.FD := ⟨fun K => He.ga K "read_drawers", "read_drawers", "read_drawers", (defArgs s_read_drawers), (defBody s_read_drawers), (defScope s_read_drawers), []⟩
def fd40 : HX.FD := ⟨fun K => He.ga K "read", "read", "read", (defArgs s_read), (defBody s_read), (defScope s_read), []⟩
def fd41 : HX.FD := ⟨fun K => He.ga K "_law_early", "_law_early", "_law_early", (defArgs s__law_early), (defBody s__law_early), (defScope s__law_early), []⟩
def fd42 : HX.FD := ⟨fun K => He.ga K "_law_call", "_law_call", "_law_call", (defArgs s__law_call), (defBody s__law_call), (defScope s__law_call), []⟩
def fd43 : HX.FD := ⟨fun K => He.ga K "_law_first", "_law_first", "_law_first", (defArgs s__law_first), (defBody s__law_first), (defScope s__law_first), []⟩
def fd44 : HX.FD := ⟨fun K => He.ga K "_law_second", "_law_second", "_law_second", (defArgs s__law_second), (defBody s__law_second), (defScope s__law_second), []⟩
def fd45 : HX.FD := ⟨fun K => He.ga K "law", "law", "law", (defArgs s_law), (defBody s_law), (defScope s_law), []⟩
def fd46 : HX.FD := ⟨fun K => He.ma K (He.ga K "Cabinet") "__init__", "__init__", "Cabinet.__init__", (defArgs sInit), (defBody sInit), (defScope sInit), []⟩
def fd47 : HX.FD := ⟨fun K => HX.prA K (He.ma K (He.ga K "Cabinet") "drawers"), "drawers", "Cabinet.drawers", (defArgs sDrawers), (defBody sDrawers), (defScope sDrawers), []⟩
def fd48 : HX.FD := ⟨fun K => HX.prA K (He.ma K (He.ga K "Cabinet") "bars"), "bars", "Cabinet.bars", (defArgs sBars), (defBody sBars), (defScope sBars), []⟩
def fd49 : HX.FD := ⟨fun K => He.ma K (He.ga K "Desk") "__init__", "__init__", "Desk.__init__", (defArgs s_Desk__init_), (defBody s_Desk__init_), (defScope s_Desk__init_), []⟩
def fd50 : HX.FD := ⟨fun K => He.ma K (He.ga K "Desk") "pull", "pull", "Desk.pull", (defArgs s_Desk_pull), (defBody s_Desk_pull), (defScope s_Desk_pull), []⟩
def fd51 : HX.FD := ⟨fun K => He.ma K (He.ga K "BadBars") "__init__", "__init__", "BadBars.__init__", (defArgs s_BadBars__init_), (defBody s_BadBars__init_), (defScope s_BadBars__init_), ["__class__"]⟩
def fd52 : HX.FD := ⟨fun K => He.ma K (He.ga K "BadPairs") "__init__", "__init__", "BadPairs.__init__", (defArgs s_BadPairs__init_), (defBody s_BadPairs__init_), (defScope s_BadPairs__init_), ["__class__"]⟩
def fd53 : HX.FD := ⟨fun K => He.ma K (He.ga K "TooMany") "__init__", "__init__", "TooMany.__init__", (defArgs s_TooMany__init_), (defBody s_TooMany__init_), (defScope s_TooMany__init_), ["__class__"]⟩
def fd54 : HX.FD := ⟨fun K => He.ma K (He.ga K "BadNumber") "__init__", "__init__", "BadNumber.__init__", (defArgs s_BadNumber__init_), (defBody s_BadNumber__init_), (defScope s_BadNumber__init_), ["__class__"]⟩
def fd55 : HX.FD := ⟨fun K => He.ma K (He.ga K "BadTries") "__init__", "__init__", "BadTries.__init__", (defArgs s_BadTries__init_), (defBody s_BadTries__init_), (defScope s_BadTries__init_), ["__class__"]⟩
def fd56 : HX.FD := ⟨fun K => He.ma K (He.ga K "InvalidText") "__init__", "__init__", "InvalidText.__init__", (defArgs s_InvalidText__init_), (defBody s_InvalidText__init_), (defScope s_InvalidText__init_), ["__class__"]⟩
def b0 (K : HX.Fr) (r : List Bool) : List Bool :=
  decide (PySem.W.nsIn K mainGlobals "Desk" = some (some (.ref (He.ga K "Desk")))) ::
  decide (PySem.W.findIn K (.ref (He.ga K "Desk")) "__init__" = some (some (.ref (He.ma K (He.ga K "Desk") "__init__")))) ::
  decide (PySem.W.findIn K (.ref (He.ga K "Desk")) "pull" = some (some (.ref (He.ma K (He.ga K "Desk") "pull")))) ::
  decide (PySem.W.nsIn K mainGlobals "is_integer" = some (some (.ref (He.ga K "is_integer")))) ::
  HX.codeB K (He.ga K "is_integer") "is_integer" ::
  PySem.W.keepIn K (.ref (He.ga K "is_integer")) ::
  decide (PySem.W.nsIn K mainGlobals "is_drawer_count" = some (some (.ref (He.ga K "is_drawer_count")))) ::
  HX.codeB K (He.ga K "is_drawer_count") "is_drawer_count" ::
  PySem.W.keepIn K (.ref (He.ga K "is_drawer_count")) ::
  decide (PySem.W.nsIn K mainGlobals "is_drawer" = some (some (.ref (He.ga K "is_drawer")))) ::
  HX.codeB K (He.ga K "is_drawer") "is_drawer" ::
  PySem.W.keepIn K (.ref (He.ga K "is_drawer")) ::
  decide (PySem.W.nsIn K mainGlobals "is_bar" = some (some (.ref (He.ga K "is_bar")))) ::
  HX.codeB K (He.ga K "is_bar") "is_bar" ::
  PySem.W.keepIn K (.ref (He.ga K "is_bar")) ::
  decide (PySem.W.nsIn K mainGlobals "check_drawers" = some (some (.ref (He.ga K "check_drawers")))) ::
  HX.codeB K (He.ga K "check_drawers") "check_drawers" ::
  PySem.W.keepIn K (.ref (He.ga K "check_drawers")) ::
  decide (PySem.W.nsIn K mainGlobals "check_bars" = some (some (.ref (He.ga K "check_bars")))) ::
  HX.codeB K (He.ga K "check_bars") "check_bars" ::
  PySem.W.keepIn K (.ref (He.ga K "check_bars")) ::
  decide (PySem.W.nsIn K mainGlobals "_law_taken" = some (some (.ref (He.ga K "_law_taken")))) ::
  HX.codeB K (He.ga K "_law_taken") "_law_taken" ::
  PySem.W.keepIn K (.ref (He.ga K "_law_taken")) ::
  decide (PySem.W.nsIn K mainGlobals "hinders" = some (some (.ref (He.ga K "hinders")))) ::
  HX.codeB K (He.ga K "hinders") "hinders" ::
  PySem.W.keepIn K (.ref (He.ga K "hinders")) ::
  decide (PySem.W.nsIn K mainGlobals "moved" = some (some (.ref (He.ga K "moved")))) ::
  HX.codeB K (He.ga K "moved") "moved" ::
  PySem.W.keepIn K (.ref (He.ga K "moved")) ::
  decide (PySem.W.nsIn K mainGlobals "bars_against" = some (some (.ref (He.ga K "bars_against")))) ::
  HX.codeB K (He.ga K "bars_against") "bars_against" ::
  PySem.W.keepIn K (.ref (He.ga K "bars_against")) ::
  decide (PySem.W.nsIn K mainGlobals "goes" = some (some (.ref (He.ga K "goes")))) ::
  HX.codeB K (He.ga K "goes") "goes" ::
  PySem.W.keepIn K (.ref (He.ga K "goes")) ::
  decide (PySem.W.nsIn K mainGlobals "has_signs" = some (some (.ref (He.ga K "has_signs")))) ::
  HX.codeB K (He.ga K "has_signs") "has_signs" ::
  PySem.W.keepIn K (.ref (He.ga K "has_signs")) ::
  decide (PySem.W.nsIn K mainGlobals "is_standing" = some (some (.ref (He.ga K "is_standing")))) ::
  r
def b1 (K : HX.Fr) (r : List Bool) : List Bool :=
  HX.codeB K (He.ga K "is_standing") "is_standing" ::
  PySem.W.keepIn K (.ref (He.ga K "is_standing")) ::
  decide (PySem.W.nsIn K mainGlobals "is_pattern" = some (some (.ref (He.ga K "is_pattern")))) ::
  HX.codeB K (He.ga K "is_pattern") "is_pattern" ::
  PySem.W.keepIn K (.ref (He.ga K "is_pattern")) ::
  decide (PySem.W.nsIn K mainGlobals "check_cabinet" = some (some (.ref (He.ga K "check_cabinet")))) ::
  HX.codeB K (He.ga K "check_cabinet") "check_cabinet" ::
  PySem.W.keepIn K (.ref (He.ga K "check_cabinet")) ::
  decide (PySem.W.nsIn K mainGlobals "check_standing" = some (some (.ref (He.ga K "check_standing")))) ::
  HX.codeB K (He.ga K "check_standing") "check_standing" ::
  PySem.W.keepIn K (.ref (He.ga K "check_standing")) ::
  decide (PySem.W.nsIn K mainGlobals "check_pattern" = some (some (.ref (He.ga K "check_pattern")))) ::
  HX.codeB K (He.ga K "check_pattern") "check_pattern" ::
  PySem.W.keepIn K (.ref (He.ga K "check_pattern")) ::
  decide (PySem.W.nsIn K mainGlobals "check_drawer" = some (some (.ref (He.ga K "check_drawer")))) ::
  HX.codeB K (He.ga K "check_drawer") "check_drawer" ::
  PySem.W.keepIn K (.ref (He.ga K "check_drawer")) ::
  decide (PySem.W.nsIn K mainGlobals "can" = some (some (.ref (He.ga K "can")))) ::
  HX.codeB K (He.ga K "can") "can" ::
  PySem.W.keepIn K (.ref (He.ga K "can")) ::
  decide (PySem.W.nsIn K mainGlobals "behind" = some (some (.ref (He.ga K "behind")))) ::
  HX.codeB K (He.ga K "behind") "behind" ::
  PySem.W.keepIn K (.ref (He.ga K "behind")) ::
  decide (PySem.W.nsIn K mainGlobals "first_standing" = some (some (.ref (He.ga K "first_standing")))) ::
  HX.codeB K (He.ga K "first_standing") "first_standing" ::
  PySem.W.keepIn K (.ref (He.ga K "first_standing")) ::
  decide (PySem.W.nsIn K mainGlobals "row_to" = some (some (.ref (He.ga K "row_to")))) ::
  HX.codeB K (He.ga K "row_to") "row_to" ::
  PySem.W.keepIn K (.ref (He.ga K "row_to")) ::
  decide (PySem.W.nsIn K mainGlobals "reached" = some (some (.ref (He.ga K "reached")))) ::
  HX.codeB K (He.ga K "reached") "reached" ::
  PySem.W.keepIn K (.ref (He.ga K "reached")) ::
  decide (PySem.W.nsIn K mainGlobals "is_set" = some (some (.ref (He.ga K "is_set")))) ::
  HX.codeB K (He.ga K "is_set") "is_set" ::
  PySem.W.keepIn K (.ref (He.ga K "is_set")) ::
  decide (PySem.W.nsIn K mainGlobals "check_set" = some (some (.ref (He.ga K "check_set")))) ::
  HX.codeB K (He.ga K "check_set") "check_set" ::
  PySem.W.keepIn K (.ref (He.ga K "check_set")) ::
  decide (PySem.W.nsIn K mainGlobals "first_apart" = some (some (.ref (He.ga K "first_apart")))) ::
  HX.codeB K (He.ga K "first_apart") "first_apart" ::
  r
def b2 (K : HX.Fr) (r : List Bool) : List Bool :=
  PySem.W.keepIn K (.ref (He.ga K "first_apart")) ::
  decide (PySem.W.nsIn K mainGlobals "alike" = some (some (.ref (He.ga K "alike")))) ::
  HX.codeB K (He.ga K "alike") "alike" ::
  PySem.W.keepIn K (.ref (He.ga K "alike")) ::
  decide (PySem.W.nsIn K mainGlobals "check_pairs" = some (some (.ref (He.ga K "check_pairs")))) ::
  HX.codeB K (He.ga K "check_pairs") "check_pairs" ::
  PySem.W.keepIn K (.ref (He.ga K "check_pairs")) ::
  decide (PySem.W.nsIn K mainGlobals "check_number" = some (some (.ref (He.ga K "check_number")))) ::
  HX.codeB K (He.ga K "check_number") "check_number" ::
  PySem.W.keepIn K (.ref (He.ga K "check_number")) ::
  decide (PySem.W.nsIn K mainGlobals "check_tries" = some (some (.ref (He.ga K "check_tries")))) ::
  HX.codeB K (He.ga K "check_tries") "check_tries" ::
  PySem.W.keepIn K (.ref (He.ga K "check_tries")) ::
  decide (PySem.W.nsIn K mainGlobals "is_pair" = some (some (.ref (He.ga K "is_pair")))) ::
  HX.codeB K (He.ga K "is_pair") "is_pair" ::
  PySem.W.keepIn K (.ref (He.ga K "is_pair")) ::
  decide (PySem.W.nsIn K mainGlobals "is_try" = some (some (.ref (He.ga K "is_try")))) ::
  HX.codeB K (He.ga K "is_try") "is_try" ::
  PySem.W.keepIn K (.ref (He.ga K "is_try")) ::
  decide (PySem.W.nsIn K mainGlobals "check_few_drawers" = some (some (.ref (He.ga K "check_few_drawers")))) ::
  HX.codeB K (He.ga K "check_few_drawers") "check_few_drawers" ::
  PySem.W.keepIn K (.ref (He.ga K "check_few_drawers")) ::
  decide (PySem.W.nsIn K mainGlobals "paper" = some (some (.ref (He.ga K "paper")))) ::
  HX.codeB K (He.ga K "paper") "paper" ::
  PySem.W.keepIn K (.ref (He.ga K "paper")) ::
  decide (PySem.W.nsIn K mainGlobals "guards" = some (some (.ref (He.ga K "guards")))) ::
  HX.codeB K (He.ga K "guards") "guards" ::
  PySem.W.keepIn K (.ref (He.ga K "guards")) ::
  decide (PySem.W.nsIn K mainGlobals "count_rows" = some (some (.ref (He.ga K "count_rows")))) ::
  HX.codeB K (He.ga K "count_rows") "count_rows" ::
  PySem.W.keepIn K (.ref (He.ga K "count_rows")) ::
  decide (PySem.W.nsIn K mainGlobals "sure" = some (some (.ref (He.ga K "sure")))) ::
  HX.codeB K (He.ga K "sure") "sure" ::
  PySem.W.keepIn K (.ref (He.ga K "sure")) ::
  decide (PySem.W.nsIn K mainGlobals "check_words" = some (some (.ref (He.ga K "check_words")))) ::
  HX.codeB K (He.ga K "check_words") "check_words" ::
  PySem.W.keepIn K (.ref (He.ga K "check_words")) ::
  decide (PySem.W.nsIn K mainGlobals "words_of" = some (some (.ref (He.ga K "words_of")))) ::
  HX.codeB K (He.ga K "words_of") "words_of" ::
  PySem.W.keepIn K (.ref (He.ga K "words_of")) ::
  r
def b3 (K : HX.Fr) (r : List Bool) : List Bool :=
  decide (PySem.W.nsIn K mainGlobals "read_drawers" = some (some (.ref (He.ga K "read_drawers")))) ::
  HX.codeB K (He.ga K "read_drawers") "read_drawers" ::
  PySem.W.keepIn K (.ref (He.ga K "read_drawers")) ::
  decide (PySem.W.nsIn K mainGlobals "read" = some (some (.ref (He.ga K "read")))) ::
  HX.codeB K (He.ga K "read") "read" ::
  PySem.W.keepIn K (.ref (He.ga K "read")) ::
  decide (PySem.W.nsIn K mainGlobals "_law_early" = some (some (.ref (He.ga K "_law_early")))) ::
  HX.codeB K (He.ga K "_law_early") "_law_early" ::
  PySem.W.keepIn K (.ref (He.ga K "_law_early")) ::
  decide (PySem.W.nsIn K mainGlobals "_law_call" = some (some (.ref (He.ga K "_law_call")))) ::
  HX.codeB K (He.ga K "_law_call") "_law_call" ::
  PySem.W.keepIn K (.ref (He.ga K "_law_call")) ::
  decide (PySem.W.nsIn K mainGlobals "_law_first" = some (some (.ref (He.ga K "_law_first")))) ::
  HX.codeB K (He.ga K "_law_first") "_law_first" ::
  PySem.W.keepIn K (.ref (He.ga K "_law_first")) ::
  decide (PySem.W.nsIn K mainGlobals "_law_second" = some (some (.ref (He.ga K "_law_second")))) ::
  HX.codeB K (He.ga K "_law_second") "_law_second" ::
  PySem.W.keepIn K (.ref (He.ga K "_law_second")) ::
  decide (PySem.W.nsIn K mainGlobals "law" = some (some (.ref (He.ga K "law")))) ::
  HX.codeB K (He.ga K "law") "law" ::
  PySem.W.keepIn K (.ref (He.ga K "law")) ::
  decide (PySem.W.nsIn K mainGlobals "Cabinet" = some (some (.ref (He.ga K "Cabinet")))) ::
  PySem.W.plainGet K (He.ga K "Cabinet") Str.empty ::
  PySem.W.hasDictIn K (He.ga K "Cabinet") ::
  PySem.W.plainOver K (He.ga K "Cabinet") ::
  decide (PySem.W.findIn K (.ref (He.ga K "Cabinet")) "__setattr__" = some (some (.builtin "object.__setattr__"))) ::
  PySem.W.makesIn K (He.ga K "Cabinet") ::
  PySem.W.keepIn K (.ref (He.ga K "Cabinet")) ::
  decide (PySem.W.findIn K (.ref (He.ga K "Cabinet")) "_drawers" = some none) ::
  decide (PySem.W.findIn K (.ref (He.ga K "Cabinet")) "_bars" = some none) ::
  decide (PySem.W.findIn K (.ref (He.ga K "Cabinet")) "__init__" = some (some (.ref (He.ma K (He.ga K "Cabinet") "__init__")))) ::
  HX.codeB K (He.ma K (He.ga K "Cabinet") "__init__") "Cabinet.__init__" ::
  PySem.W.keepIn K (.ref (He.ma K (He.ga K "Cabinet") "__init__")) ::
  PySem.W.isFn K (.ref (He.ma K (He.ga K "Cabinet") "__init__")) ::
  decide (PySem.W.findIn K (.ref (He.ga K "Cabinet")) "drawers" = some (some (.ref (He.ma K (He.ga K "Cabinet") "drawers")))) ::
  decide (PySem.W.specialIn K (.ref (He.ma K (He.ga K "Cabinet") "drawers")) "__get__" = some (some (.builtin "property.__get__"))) ::
  decide (PySem.W.takesIn K (.ref (He.ma K (He.ga K "Cabinet") "drawers")) = some true) ::
  HX.prB K (He.ma K (He.ga K "Cabinet") "drawers") ::
  HX.codeB K (HX.prA K (He.ma K (He.ga K "Cabinet") "drawers")) "Cabinet.drawers" ::
  PySem.W.keepIn K (.ref (HX.prA K (He.ma K (He.ga K "Cabinet") "drawers"))) ::
  r
def b4 (K : HX.Fr) (r : List Bool) : List Bool :=
  decide (PySem.W.findIn K (.ref (He.ga K "Cabinet")) "bars" = some (some (.ref (He.ma K (He.ga K "Cabinet") "bars")))) ::
  decide (PySem.W.specialIn K (.ref (He.ma K (He.ga K "Cabinet") "bars")) "__get__" = some (some (.builtin "property.__get__"))) ::
  decide (PySem.W.takesIn K (.ref (He.ma K (He.ga K "Cabinet") "bars")) = some true) ::
  HX.prB K (He.ma K (He.ga K "Cabinet") "bars") ::
  HX.codeB K (HX.prA K (He.ma K (He.ga K "Cabinet") "bars")) "Cabinet.bars" ::
  PySem.W.keepIn K (.ref (HX.prA K (He.ma K (He.ga K "Cabinet") "bars"))) ::
  decide (PySem.W.findIn K (.ref (He.ga K "Cabinet")) "__class__" = some (some (.builtin "object.__class__"))) ::
  decide (PySem.W.specialIn K (.builtin "object.__class__") "__get__" = some (some (.builtin "getset_descriptor.__get__"))) ::
  decide (PySem.W.takesIn K (.builtin "object.__class__") = some true) ::
  decide (PySem.W.mroIn K (He.ga K "Cabinet") (.type "object") = some true) ::
  decide (PySem.W.kitOne K (.ref (He.ga K "Cabinet")) (.ref (He.ga K "Cabinet")) = some true) ::
  HX.codeB K (He.ma K (He.ga K "Desk") "__init__") "Desk.__init__" ::
  PySem.W.keepIn K (.ref (He.ma K (He.ga K "Desk") "__init__")) ::
  HX.codeB K (He.ma K (He.ga K "Desk") "pull") "Desk.pull" ::
  PySem.W.keepIn K (.ref (He.ma K (He.ga K "Desk") "pull")) ::
  decide (PySem.W.nsIn K mainGlobals "isinstance" = some none) ::
  decide (PySem.W.nsIn K mainGlobals "int" = some none) ::
  decide (PySem.W.nsIn K mainGlobals "bool" = some none) ::
  decide (PySem.W.nsIn K mainGlobals "tuple" = some none) ::
  decide (PySem.W.nsIn K mainGlobals "len" = some none) ::
  decide (PySem.W.nsIn K mainGlobals "enumerate" = some none) ::
  decide (PySem.W.nsIn K mainGlobals "range" = some none) ::
  decide (PySem.W.nsIn K mainGlobals "sorted" = some none) ::
  decide (PySem.W.nsIn K mainGlobals "str" = some none) ::
  decide (PySem.W.nsIn K mainGlobals "all" = some none) ::
  decide (PySem.W.nsIn K mainGlobals "zip" = some none) ::
  decide (PySem.W.nsIn K mainGlobals "super" = some none) ::
  decide (PySem.W.nsIn K mainGlobals "list" = some none) ::
  decide (PySem.W.nsIn K mainGlobals "min" = some none) ::
  HX.intB K mainGlobals "MOST_DRAWERS" 7 ::
  decide (PySem.W.nsIn K mainGlobals "WORDS" = some (some (.ref (He.ga K "WORDS")))) ::
  HX.tup2B K (He.ga K "WORDS") "open" "shut" ::
  decide (PySem.W.nsIn K mainGlobals "SIGNS" = some (some (.ref (He.ga K "SIGNS")))) ::
  HX.strB K (He.ga K "SIGNS") "open" "o" ::
  HX.strB K (He.ga K "SIGNS") "shut" "s" ::
  HX.strB K mainGlobals "STANDING_SIGNS" "os" ::
  HX.strB K mainGlobals "PATTERN_SIGNS" "os?" ::
  decide (PySem.W.nsIn K mainGlobals "Barred" = some (some (.ref (He.ga K "Barred")))) ::
  PySem.W.excIn K (He.ga K "Barred") [.type "ValueError", .type "Exception", .type "BaseException", .type "object"] "ValueError.__new__" ::
  PySem.W.keepIn K (.ref (He.ga K "Barred")) ::
  r
def b5 (K : HX.Fr) (r : List Bool) : List Bool :=
  decide (PySem.W.subIn K (.ref (He.ga K "Barred")) (.type "BaseException") = some true) ::
  decide (PySem.W.typeIn K (.ref (He.ga K "Barred")) = some (.type "type")) ::
  PySem.W.isClsIn K (He.ga K "Barred") ::
  decide (PySem.W.subIn K (.ref (He.ga K "Barred")) (.ref (He.ga K "Barred")) = some true) ::
  decide (PySem.W.nsIn K mainGlobals "BadSet" = some (some (.ref (He.ga K "BadSet")))) ::
  PySem.W.excIn K (He.ga K "BadSet") [.type "ValueError", .type "Exception", .type "BaseException", .type "object"] "ValueError.__new__" ::
  PySem.W.keepIn K (.ref (He.ga K "BadSet")) ::
  decide (PySem.W.subIn K (.ref (He.ga K "BadSet")) (.type "BaseException") = some true) ::
  decide (PySem.W.typeIn K (.ref (He.ga K "BadSet")) = some (.type "type")) ::
  decide (PySem.W.nsIn K mainGlobals "BadDrawers" = some (some (.ref (He.ga K "BadDrawers")))) ::
  PySem.W.excIn K (He.ga K "BadDrawers") [.type "ValueError", .type "Exception", .type "BaseException", .type "object"] "ValueError.__new__" ::
  PySem.W.keepIn K (.ref (He.ga K "BadDrawers")) ::
  decide (PySem.W.subIn K (.ref (He.ga K "BadDrawers")) (.type "BaseException") = some true) ::
  decide (PySem.W.typeIn K (.ref (He.ga K "BadDrawers")) = some (.type "type")) ::
  decide (PySem.W.nsIn K mainGlobals "BadStanding" = some (some (.ref (He.ga K "BadStanding")))) ::
  PySem.W.excIn K (He.ga K "BadStanding") [.type "ValueError", .type "Exception", .type "BaseException", .type "object"] "ValueError.__new__" ::
  PySem.W.keepIn K (.ref (He.ga K "BadStanding")) ::
  decide (PySem.W.subIn K (.ref (He.ga K "BadStanding")) (.type "BaseException") = some true) ::
  decide (PySem.W.typeIn K (.ref (He.ga K "BadStanding")) = some (.type "type")) ::
  decide (PySem.W.nsIn K mainGlobals "BadPattern" = some (some (.ref (He.ga K "BadPattern")))) ::
  PySem.W.excIn K (He.ga K "BadPattern") [.type "ValueError", .type "Exception", .type "BaseException", .type "object"] "ValueError.__new__" ::
  PySem.W.keepIn K (.ref (He.ga K "BadPattern")) ::
  decide (PySem.W.subIn K (.ref (He.ga K "BadPattern")) (.type "BaseException") = some true) ::
  decide (PySem.W.typeIn K (.ref (He.ga K "BadPattern")) = some (.type "type")) ::
  decide (PySem.W.nsIn K mainGlobals "BadDrawer" = some (some (.ref (He.ga K "BadDrawer")))) ::
  PySem.W.excIn K (He.ga K "BadDrawer") [.type "ValueError", .type "Exception", .type "BaseException", .type "object"] "ValueError.__new__" ::
  PySem.W.keepIn K (.ref (He.ga K "BadDrawer")) ::
  decide (PySem.W.subIn K (.ref (He.ga K "BadDrawer")) (.type "BaseException") = some true) ::
  decide (PySem.W.typeIn K (.ref (He.ga K "BadDrawer")) = some (.type "type")) ::
  decide (PySem.W.nsIn K mainGlobals "BadCabinet" = some (some (.ref (He.ga K "BadCabinet")))) ::
  PySem.W.excIn K (He.ga K "BadCabinet") [.type "ValueError", .type "Exception", .type "BaseException", .type "object"] "ValueError.__new__" ::
  PySem.W.keepIn K (.ref (He.ga K "BadCabinet")) ::
  decide (PySem.W.subIn K (.ref (He.ga K "BadCabinet")) (.type "BaseException") = some true) ::
  decide (PySem.W.typeIn K (.ref (He.ga K "BadCabinet")) = some (.type "type")) ::
  decide (PySem.W.nsIn K mainGlobals "Unlike" = some (some (.ref (He.ga K "Unlike")))) ::
  PySem.W.excIn K (He.ga K "Unlike") [.type "ValueError", .type "Exception", .type "BaseException", .type "object"] "ValueError.__new__" ::
  PySem.W.keepIn K (.ref (He.ga K "Unlike")) ::
  decide (PySem.W.subIn K (.ref (He.ga K "Unlike")) (.type "BaseException") = some true) ::
  decide (PySem.W.typeIn K (.ref (He.ga K "Unlike")) = some (.type "type")) ::
  decide (PySem.W.nsIn K mainGlobals "BadBars" = some (some (.ref (He.ga K "BadBars")))) ::
  r
def b6 (K : HX.Fr) (r : List Bool) : List Bool :=
  HX.exB K (He.ga K "BadBars") (He.ga K "DrawerError") ::
  decide (PySem.W.findIn K (.ref (He.ga K "BadBars")) "__setattr__" = some (some (.builtin "object.__setattr__"))) ::
  decide (PySem.W.subIn K (.ref (He.ga K "BadBars")) (.type "BaseException") = some true) ::
  decide (PySem.W.typeIn K (.ref (He.ga K "BadBars")) = some (.type "type")) ::
  PySem.W.keepIn K (.ref (He.ga K "BadBars")) ::
  decide (PySem.W.findIn K (.ref (He.ga K "BadBars")) "__init__" = some (some (.ref (He.ma K (He.ga K "BadBars") "__init__")))) ::
  decide (PySem.W.typeIn K (.ref (He.ma K (He.ga K "BadBars") "__init__")) = some (.type "function")) ::
  HX.codeB K (He.ma K (He.ga K "BadBars") "__init__") "BadBars.__init__" ::
  HX.codeR K (He.ma K (He.ga K "BadBars") "__init__") ::
  decide (PySem.W.alongIn K "__init__" [.ref (He.ga K "DrawerError"), .type "ValueError", .type "Exception", .type "BaseException", .type "object"] = some (some (.builtin "ValueError.__init__"))) ::
  HX.fileB K (HX.cdA K (He.ma K (He.ga K "BadBars") "__init__")) PySem.Challenge.rw_drawerlocks_k29_errors_are_apart.prog.main.file ::
  HX.cellB K (HX.ccA K (He.ma K (He.ga K "BadBars") "__init__")) (He.ga K "BadBars") ::
  decide (PySem.W.mroIn K (He.ga K "BadBars") (.ref (He.ga K "BadBars")) = some true) ::
  decide (PySem.W.nsIn K cStatics "thirdparty.any" = some none) ::
  decide (PySem.W.subIn K (.ref (He.ga K "BadBars")) (.type "ValueError") = some true) ::
  decide (PySem.W.findIn K (.ref (He.ga K "BadBars")) "index" = some none) ::
  decide (PySem.W.nsIn K mainGlobals "BadPairs" = some (some (.ref (He.ga K "BadPairs")))) ::
  HX.exB K (He.ga K "BadPairs") (He.ga K "DrawerError") ::
  decide (PySem.W.findIn K (.ref (He.ga K "BadPairs")) "__setattr__" = some (some (.builtin "object.__setattr__"))) ::
  decide (PySem.W.subIn K (.ref (He.ga K "BadPairs")) (.type "BaseException") = some true) ::
  decide (PySem.W.typeIn K (.ref (He.ga K "BadPairs")) = some (.type "type")) ::
  PySem.W.keepIn K (.ref (He.ga K "BadPairs")) ::
  decide (PySem.W.findIn K (.ref (He.ga K "BadPairs")) "__init__" = some (some (.ref (He.ma K (He.ga K "BadPairs") "__init__")))) ::
  decide (PySem.W.typeIn K (.ref (He.ma K (He.ga K "BadPairs") "__init__")) = some (.type "function")) ::
  HX.codeB K (He.ma K (He.ga K "BadPairs") "__init__") "BadPairs.__init__" ::
  HX.codeR K (He.ma K (He.ga K "BadPairs") "__init__") ::
  HX.fileB K (HX.cdA K (He.ma K (He.ga K "BadPairs") "__init__")) PySem.Challenge.rw_drawerlocks_k29_errors_are_apart.prog.main.file ::
  HX.cellB K (HX.ccA K (He.ma K (He.ga K "BadPairs") "__init__")) (He.ga K "BadPairs") ::
  decide (PySem.W.mroIn K (He.ga K "BadPairs") (.ref (He.ga K "BadPairs")) = some true) ::
  decide (PySem.W.subIn K (.ref (He.ga K "BadPairs")) (.type "ValueError") = some true) ::
  decide (PySem.W.findIn K (.ref (He.ga K "BadPairs")) "index" = some none) ::
  decide (PySem.W.nsIn K mainGlobals "TooMany" = some (some (.ref (He.ga K "TooMany")))) ::
  HX.exB K (He.ga K "TooMany") (He.ga K "DrawerError") ::
  decide (PySem.W.findIn K (.ref (He.ga K "TooMany")) "__setattr__" = some (some (.builtin "object.__setattr__"))) ::
  decide (PySem.W.subIn K (.ref (He.ga K "TooMany")) (.type "BaseException") = some true) ::
  decide (PySem.W.typeIn K (.ref (He.ga K "TooMany")) = some (.type "type")) ::
  PySem.W.keepIn K (.ref (He.ga K "TooMany")) ::
  decide (PySem.W.findIn K (.ref (He.ga K "TooMany")) "__init__" = some (some (.ref (He.ma K (He.ga K "TooMany") "__init__")))) ::
  decide (PySem.W.typeIn K (.ref (He.ma K (He.ga K "TooMany") "__init__")) = some (.type "function")) ::
  HX.codeB K (He.ma K (He.ga K "TooMany") "__init__") "TooMany.__init__" ::
  r
def b7 (K : HX.Fr) (r : List Bool) : List Bool :=
  HX.codeR K (He.ma K (He.ga K "TooMany") "__init__") ::
  HX.fileB K (HX.cdA K (He.ma K (He.ga K "TooMany") "__init__")) PySem.Challenge.rw_drawerlocks_k29_errors_are_apart.prog.main.file ::
  HX.cellB K (HX.ccA K (He.ma K (He.ga K "TooMany") "__init__")) (He.ga K "TooMany") ::
  decide (PySem.W.mroIn K (He.ga K "TooMany") (.ref (He.ga K "TooMany")) = some true) ::
  decide (PySem.W.subIn K (.ref (He.ga K "TooMany")) (.type "ValueError") = some true) ::
  decide (PySem.W.findIn K (.ref (He.ga K "TooMany")) "most" = some none) ::
  decide (PySem.W.nsIn K mainGlobals "BadNumber" = some (some (.ref (He.ga K "BadNumber")))) ::
  HX.exB K (He.ga K "BadNumber") (He.ga K "DrawerError") ::
  decide (PySem.W.findIn K (.ref (He.ga K "BadNumber")) "__setattr__" = some (some (.builtin "object.__setattr__"))) ::
  decide (PySem.W.subIn K (.ref (He.ga K "BadNumber")) (.type "BaseException") = some true) ::
  decide (PySem.W.typeIn K (.ref (He.ga K "BadNumber")) = some (.type "type")) ::
  PySem.W.keepIn K (.ref (He.ga K "BadNumber")) ::
  decide (PySem.W.findIn K (.ref (He.ga K "BadNumber")) "__init__" = some (some (.ref (He.ma K (He.ga K "BadNumber") "__init__")))) ::
  decide (PySem.W.typeIn K (.ref (He.ma K (He.ga K "BadNumber") "__init__")) = some (.type "function")) ::
  HX.codeB K (He.ma K (He.ga K "BadNumber") "__init__") "BadNumber.__init__" ::
  HX.codeR K (He.ma K (He.ga K "BadNumber") "__init__") ::
  HX.fileB K (HX.cdA K (He.ma K (He.ga K "BadNumber") "__init__")) PySem.Challenge.rw_drawerlocks_k29_errors_are_apart.prog.main.file ::
  HX.cellB K (HX.ccA K (He.ma K (He.ga K "BadNumber") "__init__")) (He.ga K "BadNumber") ::
  decide (PySem.W.mroIn K (He.ga K "BadNumber") (.ref (He.ga K "BadNumber")) = some true) ::
  decide (PySem.W.subIn K (.ref (He.ga K "BadNumber")) (.type "ValueError") = some true) ::
  decide (PySem.W.findIn K (.ref (He.ga K "BadNumber")) "n" = some none) ::
  decide (PySem.W.nsIn K mainGlobals "BadTries" = some (some (.ref (He.ga K "BadTries")))) ::
  HX.exB K (He.ga K "BadTries") (He.ga K "DrawerError") ::
  decide (PySem.W.findIn K (.ref (He.ga K "BadTries")) "__setattr__" = some (some (.builtin "object.__setattr__"))) ::
  decide (PySem.W.subIn K (.ref (He.ga K "BadTries")) (.type "BaseException") = some true) ::
  decide (PySem.W.typeIn K (.ref (He.ga K "BadTries")) = some (.type "type")) ::
  PySem.W.keepIn K (.ref (He.ga K "BadTries")) ::
  decide (PySem.W.findIn K (.ref (He.ga K "BadTries")) "__init__" = some (some (.ref (He.ma K (He.ga K "BadTries") "__init__")))) ::
  decide (PySem.W.typeIn K (.ref (He.ma K (He.ga K "BadTries") "__init__")) = some (.type "function")) ::
  HX.codeB K (He.ma K (He.ga K "BadTries") "__init__") "BadTries.__init__" ::
  HX.codeR K (He.ma K (He.ga K "BadTries") "__init__") ::
  HX.fileB K (HX.cdA K (He.ma K (He.ga K "BadTries") "__init__")) PySem.Challenge.rw_drawerlocks_k29_errors_are_apart.prog.main.file ::
  HX.cellB K (HX.ccA K (He.ma K (He.ga K "BadTries") "__init__")) (He.ga K "BadTries") ::
  decide (PySem.W.mroIn K (He.ga K "BadTries") (.ref (He.ga K "BadTries")) = some true) ::
  decide (PySem.W.subIn K (.ref (He.ga K "BadTries")) (.type "ValueError") = some true) ::
  decide (PySem.W.findIn K (.ref (He.ga K "BadTries")) "index" = some none) ::
  decide (PySem.W.nsIn K mainGlobals "InvalidText" = some (some (.ref (He.ga K "InvalidText")))) ::
  HX.exB K (He.ga K "InvalidText") (He.ga K "DrawerError") ::
  decide (PySem.W.findIn K (.ref (He.ga K "InvalidText")) "__setattr__" = some (some (.builtin "object.__setattr__"))) ::
  decide (PySem.W.subIn K (.ref (He.ga K "InvalidText")) (.type "BaseException") = some true) ::
  r
def b8 (K : HX.Fr) (r : List Bool) : List Bool :=
  decide (PySem.W.typeIn K (.ref (He.ga K "InvalidText")) = some (.type "type")) ::
  PySem.W.keepIn K (.ref (He.ga K "InvalidText")) ::
  decide (PySem.W.findIn K (.ref (He.ga K "InvalidText")) "__init__" = some (some (.ref (He.ma K (He.ga K "InvalidText") "__init__")))) ::
  decide (PySem.W.typeIn K (.ref (He.ma K (He.ga K "InvalidText") "__init__")) = some (.type "function")) ::
  HX.codeB K (He.ma K (He.ga K "InvalidText") "__init__") "InvalidText.__init__" ::
  HX.codeR K (He.ma K (He.ga K "InvalidText") "__init__") ::
  HX.fileB K (HX.cdA K (He.ma K (He.ga K "InvalidText") "__init__")) PySem.Challenge.rw_drawerlocks_k29_errors_are_apart.prog.main.file ::
  HX.cellB K (HX.ccA K (He.ma K (He.ga K "InvalidText") "__init__")) (He.ga K "InvalidText") ::
  decide (PySem.W.mroIn K (He.ga K "InvalidText") (.ref (He.ga K "InvalidText")) = some true) ::
  decide (PySem.W.subIn K (.ref (He.ga K "InvalidText")) (.type "ValueError") = some true) ::
  decide (PySem.W.findIn K (.ref (He.ga K "InvalidText")) "line" = some none) ::
  HX.intB K mainGlobals "MOST_TRIES" 30 ::
  HX.intB K mainGlobals "MOST_PULLS" 60 ::
  HX.intB K mainGlobals "MOST_GUARDED" 4 ::
  HX.intB K mainGlobals "MOST_ADDED" 2 ::
  decide (PySem.W.kitOne K (.type "int") (.ref (He.ga K "Cabinet")) = some false) ::
  decide (PySem.W.findIn K (.ref (He.ga K "InvalidText")) "word" = some none) ::
  decide (PySem.W.nsIn K mainGlobals "DrawerError" = some (some (.ref (He.ga K "DrawerError")))) ::
  decide (PySem.W.subIn K (.ref (He.ga K "DrawerError")) (.type "BaseException") = some true) ::
  decide (PySem.W.typeIn K (.ref (He.ga K "DrawerError")) = some (.type "type")) ::
  PySem.W.isClsIn K (He.ga K "DrawerError") ::
  decide (([(He.ga K "BadDrawers"), (He.ga K "BadBars"), (He.ga K "BadCabinet"), (He.ga K "BadStanding"), (He.ga K "BadPattern"), (He.ga K "BadDrawer"), (He.ga K "BadSet"), (He.ga K "BadPairs"), (He.ga K "BadNumber"), (He.ga K "BadTries"), (He.ga K "Barred"), (He.ga K "TooMany"), (He.ga K "Unlike"), (He.ga K "InvalidText")].map fun a => [(He.ga K "BadDrawers"), (He.ga K "BadBars"), (He.ga K "BadCabinet"), (He.ga K "BadStanding"), (He.ga K "BadPattern"), (He.ga K "BadDrawer"), (He.ga K "BadSet"), (He.ga K "BadPairs"), (He.ga K "BadNumber"), (He.ga K "BadTries"), (He.ga K "Barred"), (He.ga K "TooMany"), (He.ga K "Unlike"), (He.ga K "InvalidText")].map fun b => PySem.W.subIn K (.ref a) (.ref b)) = (List.range 14).map fun i => (List.range 14).map fun j => some (decide (i = j))) ::
  decide (([(He.ga K "BadDrawers"), (He.ga K "BadBars"), (He.ga K "BadCabinet"), (He.ga K "BadStanding"), (He.ga K "BadPattern"), (He.ga K "BadDrawer"), (He.ga K "BadSet"), (He.ga K "BadPairs"), (He.ga K "BadNumber"), (He.ga K "BadTries"), (He.ga K "Barred"), (He.ga K "TooMany"), (He.ga K "Unlike"), (He.ga K "InvalidText")].map fun a => PySem.W.subIn K (.ref a) (.ref (He.ga K "DrawerError"))) = List.replicate 14 (some true)) ::
  decide (([(He.ga K "BadDrawers"), (He.ga K "BadBars"), (He.ga K "BadCabinet"), (He.ga K "BadStanding"), (He.ga K "BadPattern"), (He.ga K "BadDrawer"), (He.ga K "BadSet"), (He.ga K "BadPairs"), (He.ga K "BadNumber"), (He.ga K "BadTries"), (He.ga K "Barred"), (He.ga K "TooMany"), (He.ga K "Unlike"), (He.ga K "InvalidText")].map fun b => PySem.W.subIn K (.ref b) (.type "BaseException")) = List.replicate 14 (some true)) ::
  decide (([(He.ga K "BadDrawers"), (He.ga K "BadBars"), (He.ga K "BadCabinet"), (He.ga K "BadStanding"), (He.ga K "BadPattern"), (He.ga K "BadDrawer"), (He.ga K "BadSet"), (He.ga K "BadPairs"), (He.ga K "BadNumber"), (He.ga K "BadTries"), (He.ga K "Barred"), (He.ga K "TooMany"), (He.ga K "Unlike"), (He.ga K "InvalidText")].map fun b => PySem.W.isClsIn K b) = List.replicate 14 true) ::
  decide (([(He.ga K "BadDrawers"), (He.ga K "BadBars"), (He.ga K "BadCabinet"), (He.ga K "BadStanding"), (He.ga K "BadPattern"), (He.ga K "BadDrawer"), (He.ga K "BadSet"), (He.ga K "BadPairs"), (He.ga K "BadNumber"), (He.ga K "BadTries"), (He.ga K "Barred"), (He.ga K "TooMany"), (He.ga K "Unlike"), (He.ga K "InvalidText")].map fun b => PySem.W.typeIn K (.ref b)) = List.replicate 14 (some (.type "type"))) ::
  PySem.W.plainGet K (He.ga K "Desk") Str.empty ::
  PySem.W.hasDictIn K (He.ga K "Desk") ::
  PySem.W.plainOver K (He.ga K "Desk") ::
  decide (PySem.W.findIn K (.ref (He.ga K "Desk")) "__setattr__" = some (some (.builtin "object.__setattr__"))) ::
  PySem.W.makesIn K (He.ga K "Desk") ::
  PySem.W.keepIn K (.ref (He.ga K "Desk")) ::
  decide (PySem.W.findIn K (.ref (He.ga K "Desk")) "_cabinet" = some none) ::
  decide (PySem.W.findIn K (.ref (He.ga K "Desk")) "_standing" = some none) ::
  decide (PySem.W.findIn K (.ref (He.ga K "Desk")) "_pulls" = some none) ::
  PySem.W.isFn K (.ref (He.ma K (He.ga K "Desk") "__init__")) ::
  PySem.W.isFn K (.ref (He.ma K (He.ga K "Desk") "pull")) ::
  r
def bs (K : HX.Fr) : List Bool := b0 K (b1 K (b2 K (b3 K (b4 K (b5 K (b6 K (b7 K (b8 K ([])))))))))
def fn : List HX.FD := fd0 :: fd1 :: fd2 :: fd3 :: fd4 :: fd5 :: fd6 :: fd7 :: fd8 :: fd9 :: fd10 :: fd11 :: fd12 :: fd13 :: fd14 :: fd15 :: fd16 :: fd17 :: fd18 :: fd19 :: fd20 :: fd21 :: fd22 :: fd23 :: fd24 :: fd25 :: fd26 :: fd27 :: fd28 :: fd29 :: fd30 :: fd31 :: fd32 :: fd33 :: fd34 :: fd35 :: fd36 :: fd37 :: fd38 :: fd39 :: fd40 :: fd41 :: fd42 :: fd43 :: fd44 :: fd45 :: fd46 :: fd47 :: fd48 :: fd49 :: fd50 :: fd51 :: fd52 :: fd53 :: fd54 :: fd55 :: fd56 :: []
def L : HX.Look := ⟨bs, fn, fun K => He.ga K "SIGNS", ["open", "shut"]⟩
abbrev hk : PySem.W.Hook := HX.Look.hook 6 L
def ob (s : PySem.W.SharedT) : HX.AlX := HX.Look.ob 6 L s
theorem ob_eq (s : PySem.W.SharedT) : ob s = hk.obs s.abs := HX.Look.ob_eq 6 L s
theorem run0 (w : World) : HandSHeadRun.RunEqI R (PySem.W.view R.prog [0, 102]) hk ob 60000 loose (w.withFollow "special-get-raises" false) := by unfold HandSHeadRun.RunEqI; kernel_rfl
theorem run1 (w : World) : HandSHeadRun.RunEqI R (PySem.W.view R.prog [0, 102]) hk ob 60000 loose (w.withFollow "special-get-raises" true) := by unfold HandSHeadRun.RunEqI; kernel_rfl
theorem run (w : World) : HandSHeadRun.RunEqI R (PySem.W.view R.prog [0, 102]) hk ob 60000 loose w :=
  PySem.W.byRow2 "special-get-raises" (P := fun w => HandSHeadRun.RunEqI R (PySem.W.view R.prog [0, 102]) hk ob 60000 loose w) run0 run1 w
theorem facts {w : World} {K : HX.Fr} {h : Heap} {mg : Str → Option Value} {fa : Addr} (KX : K.In h) (G : h.Ns mainGlobals mg) (hmg : mg "law" = some (.ref fa)) (c : L.obs K = L.val w) :
    ∃ fd : FuncData, (∀ (s : Shared) (v : Value), BindsTo s fd ⟨[v], []⟩ [("_law_script", v)]) ∧ ∀ base : Heap, K.In base → base.Ns mainGlobals mg → FnOk (PySem.Challenge.rw_drawerlocks_k29_errors_are_apart).prog w K mg base CX0 20 fa fd ["_law_script"] (spLaw29 K) := by
  have aDk : PySem.W.nsIn K mainGlobals "Desk" = some (some (.ref (He.ga K "Desk"))) := HX.Look.eq c 0 rfl
  have a_Desk___init__ : PySem.W.findIn K (.ref (He.ga K "Desk")) "__init__" = some (some (.ref (He.ma K (He.ga K "Desk") "__init__"))) := HX.Look.eq c 1 rfl
  have a_Desk_pull : PySem.W.findIn K (.ref (He.ga K "Desk")) "pull" = some (some (.ref (He.ma K (He.ga K "Desk") "pull"))) := HX.Look.eq c 2 rfl
  have a_is_integer : PySem.W.nsIn K mainGlobals "is_integer" = some (some (.ref (He.ga K "is_integer"))) := HX.Look.eq c 3 rfl
  obtain ⟨_, _, _, _, _, _, _, _, _, l_is_integer, c_is_integer⟩ := HX.fd_plain (d := fd0) rfl (HX.Look.def_ c 0 rfl) (HX.Look.bit c 4 rfl)
  have k_is_integer : PySem.W.keepIn K (.ref (He.ga K "is_integer")) = true := HX.Look.bit c 5 rfl
  have a_is_drawer_count : PySem.W.nsIn K mainGlobals "is_drawer_count" = some (some (.ref (He.ga K "is_drawer_count"))) := HX.Look.eq c 6 rfl
  obtain ⟨_, _, _, _, _, _, _, _, _, l_is_drawer_count, c_is_drawer_count⟩ := HX.fd_plain (d := fd1) rfl (HX.Look.def_ c 1 rfl) (HX.Look.bit c 7 rfl)
  have k_is_drawer_count : PySem.W.keepIn K (.ref (He.ga K "is_drawer_count")) = true := HX.Look.bit c 8 rfl
  have a_is_drawer : PySem.W.nsIn K mainGlobals "is_drawer" = some (some (.ref (He.ga K "is_drawer"))) := HX.Look.eq c 9 rfl
  obtain ⟨_, _, _, _, _, _, _, _, _, l_is_drawer, c_is_drawer⟩ := HX.fd_plain (d := fd2) rfl (HX.Look.def_ c 2 rfl) (HX.Look.bit c 10 rfl)
  have k_is_drawer : PySem.W.keepIn K (.ref (He.ga K "is_drawer")) = true := HX.Look.bit c 11 rfl
  have a_is_bar : PySem.W.nsIn K mainGlobals "is_bar" = some (some (.ref (He.ga K "is_bar"))) := HX.Look.eq c 12 rfl
  obtain ⟨_, _, _, _, _, _, _, _, _, l_is_bar, c_is_bar⟩ := HX.fd_plain (d := fd3) rfl (HX.Look.def_ c 3 rfl) (HX.Look.bit c 13 rfl)
  have k_is_bar : PySem.W.keepIn K (.ref (He.ga K "is_bar")) = true := HX.Look.bit c 14 rfl
  have a_check_drawers : PySem.W.nsIn K mainGlobals "check_drawers" = some (some (.ref (He.ga K "check_drawers"))) := HX.Look.eq c 15 rfl
  obtain ⟨_, _, _, _, _, _, _, _, _, l_check_drawers, c_check_drawers⟩ := HX.fd_plain (d := fd4) rfl (HX.Look.def_ c 4 rfl) (HX.Look.bit c 16 rfl)
  have k_check_drawers : PySem.W.keepIn K (.ref (He.ga K "check_drawers")) = true := HX.Look.bit c 17 rfl
  have a_check_bars : PySem.W.nsIn K mainGlobals "check_bars" = some (some (.ref (He.ga K "check_bars"))) := HX.Look.eq c 18 rfl
  obtain ⟨_, _, _, _, _, _, _, _, _, l_check_bars, c_check_bars⟩ := HX.fd_plain (d := fd5) rfl (HX.Look.def_ c 5 rfl) (HX.Look.bit c 19 rfl)
  have k_check_bars : PySem.W.keepIn K (.ref (He.ga K "check_bars")) = true := HX.Look.bit c 20 rfl
  have a__law_taken : PySem.W.nsIn K mainGlobals "_law_taken" = some (some (.ref (He.ga K "_law_taken"))) := HX.Look.eq c 21 rfl
  obtain ⟨_, _, _, _, _, _, _, _, _, l__law_taken, c__law_taken⟩ := HX.fd_plain (d := fd6) rfl (HX.Look.def_ c 6 rfl) (HX.Look.bit c 22 rfl)
  have k__law_taken : PySem.W.keepIn K (.ref (He.ga K "_law_taken")) = true := HX.Look.bit c 23 rfl
  have a_hinders : PySem.W.nsIn K mainGlobals "hinders" = some (some (.ref (He.ga K "hinders"))) := HX.Look.eq c 24 rfl
  obtain ⟨_, _, _, _, _, _, _, _, _, l_hinders, c_hinders⟩ := HX.fd_plain (d := fd7) rfl (HX.Look.def_ c 7 rfl) (HX.Look.bit c 25 rfl)
  have k_hinders : PySem.W.keepIn K (.ref (He.ga K "hinders")) = true := HX.Look.bit c 26 rfl
  have a_moved : PySem.W.nsIn K mainGlobals "moved" = some (some (.ref (He.ga K "moved"))) := HX.Look.eq c 27 rfl
  obtain ⟨_, _, _, _, _, _, _, _, _, l_moved, c_moved⟩ := HX.fd_plain (d := fd8) rfl (HX.Look.def_ c 8 rfl) (HX.Look.bit c 28 rfl)
  have k_moved : PySem.W.keepIn K (.ref (He.ga K "moved")) = true := HX.Look.bit c 29 rfl
  have a_bars_against : PySem.W.nsIn K mainGlobals "bars_against" = some (some (.ref (He.ga K "bars_against"))) := HX.Look.eq c 30 rfl
  obtain ⟨_, _, _, _, _, _, _, _, _, l_bars_against, c_bars_against⟩ := HX.fd_plain (d := fd9) rfl (HX.Look.def_ c 9 rfl) (HX.Look.bit c 31 rfl)
  have k_bars_against : PySem.W.keepIn K (.ref (He.ga K "bars_against")) = true := HX.Look.bit c 32 rfl
  have a_goes : PySem.W.nsIn K mainGlobals "goes" = some (some (.ref (He.ga K "goes"))) := HX.Look.eq c 33 rfl
  obtain ⟨_, _, _, _, _, _, _, _, _, l_goes, c_goes⟩ := HX.fd_plain (d := fd10) rfl (HX.Look.def_ c 10 rfl) (HX.Look.bit c 34 rfl)
  have k_goes : PySem.W.keepIn K (.ref (He.ga K "goes")) = true := HX.Look.bit c 35 rfl
  have a_has_signs : PySem.W.nsIn K mainGlobals "has_signs" = some (some (.ref (He.ga K "has_signs"))) := HX.Look.eq c 36 rfl
  obtain ⟨_, _, _, _, _, _, _, _, _, l_has_signs, c_has_signs⟩ := HX.fd_plain (d := fd11) rfl (HX.Look.def_ c 11 rfl) (HX.Look.bit c 37 rfl)
  have k_has_signs : PySem.W.keepIn K (.ref (He.ga K "has_signs")) = true := HX.Look.bit c 38 rfl
  have a_is_standing : PySem.W.nsIn K mainGlobals "is_standing" = some (some (.ref (He.ga K "is_standing"))) := HX.Look.eq c 39 rfl
  obtain ⟨_, _, _, _, _, _, _, _, _, l_is_standing, c_is_standing⟩ := HX.fd_plain (d := fd12) rfl (HX.Look.def_ c 12 rfl) (HX.Look.bit c 40 rfl)
  have k_is_standing : PySem.W.keepIn K (.ref (He.ga K "is_standing")) = true := HX.Look.bit c 41 rfl
  have a_is_pattern : PySem.W.nsIn K mainGlobals "is_pattern" = some (some (.ref (He.ga K "is_pattern"))) := HX.Look.eq c 42 rfl
  obtain ⟨_, _, _, _, _, _, _, _, _, l_is_pattern, c_is_pattern⟩ := HX.fd_plain (d := fd13) rfl (HX.Look.def_ c 13 rfl) (HX.Look.bit c 43 rfl)
  have k_is_pattern : PySem.W.keepIn K (.ref (He.ga K "is_pattern")) = true := HX.Look.bit c 44 rfl
  have a_check_cabinet : PySem.W.nsIn K mainGlobals "check_cabinet" = some (some (.ref (He.ga K "check_cabinet"))) := HX.Look.eq c 45 rfl
  obtain ⟨_, _, _, _, _, _, _, _, _, l_check_cabinet, c_check_cabinet⟩ := HX.fd_plain (d := fd14) rfl (HX.Look.def_ c 14 rfl) (HX.Look.bit c 46 rfl)
  have k_check_cabinet : PySem.W.keepIn K (.ref (He.ga K "check_cabinet")) = true := HX.Look.bit c 47 rfl
  have a_check_standing : PySem.W.nsIn K mainGlobals "check_standing" = some (some (.ref (He.ga K "check_standing"))) := HX.Look.eq c 48 rfl
  obtain ⟨_, _, _, _, _, _, _, _, _, l_check_standing, c_check_standing⟩ := HX.fd_plain (d := fd15) rfl (HX.Look.def_ c 15 rfl) (HX.Look.bit c 49 rfl)
  have k_check_standing : PySem.W.keepIn K (.ref (He.ga K "check_standing")) = true := HX.Look.bit c 50 rfl
  have a_check_pattern : PySem.W.nsIn K mainGlobals "check_pattern" = some (some (.ref (He.ga K "check_pattern"))) := HX.Look.eq c 51 rfl
  obtain ⟨_, _, _, _, _, _, _, _, _, l_check_pattern, c_check_pattern⟩ := HX.fd_plain (d := fd16) rfl (HX.Look.def_ c 16 rfl) (HX.Look.bit c 52 rfl)
  have k_check_pattern : PySem.W.keepIn K (.ref (He.ga K "check_pattern")) = true := HX.Look.bit c 53 rfl
  have a_check_drawer : PySem.W.nsIn K mainGlobals "check_drawer" = some (some (.ref (He.ga K "check_drawer"))) := HX.Look.eq c 54 rfl
  obtain ⟨_, _, _, _, _, _, _, _, _, l_check_drawer, c_check_drawer⟩ := HX.fd_plain (d := fd17) rfl (HX.Look.def_ c 17 rfl) (HX.Look.bit c 55 rfl)
  have k_check_drawer : PySem.W.keepIn K (.ref (He.ga K "check_drawer")) = true := HX.Look.bit c 56 rfl
  have a_can : PySem.W.nsIn K mainGlobals "can" = some (some (.ref (He.ga K "can"))) := HX.Look.eq c 57 rfl
  obtain ⟨_, _, _, _, _, _, _, _, _, l_can, c_can⟩ := HX.fd_plain (d := fd18) rfl (HX.Look.def_ c 18 rfl) (HX.Look.bit c 58 rfl)
  have k_can : PySem.W.keepIn K (.ref (He.ga K "can")) = true := HX.Look.bit c 59 rfl
  have a_behind : PySem.W.nsIn K mainGlobals "behind" = some (some (.ref (He.ga K "behind"))) := HX.Look.eq c 60 rfl
  obtain ⟨_, _, _, _, _, _, _, _, _, l_behind, c_behind⟩ := HX.fd_plain (d := fd19) rfl (HX.Look.def_ c 19 rfl) (HX.Look.bit c 61 rfl)
  have k_behind : PySem.W.keepIn K (.ref (He.ga K "behind")) = true := HX.Look.bit c 62 rfl
  have a_first_standing : PySem.W.nsIn K mainGlobals "first_standing" = some (some (.ref (He.ga K "first_standing"))) := HX.Look.eq c 63 rfl
  obtain ⟨_, _, _, _, _, _, _, _, _, l_first_standing, c_first_standing⟩ := HX.fd_plain (d := fd20) rfl (HX.Look.def_ c 20 rfl) (HX.Look.bit c 64 rfl)
  have k_first_standing : PySem.W.keepIn K (.ref (He.ga K "first_standing")) = true := HX.Look.bit c 65 rfl
  have a_row_to : PySem.W.nsIn K mainGlobals "row_to" = some (some (.ref (He.ga K "row_to"))) := HX.Look.eq c 66 rfl
  obtain ⟨_, _, _, _, _, _, _, _, _, l_row_to, c_row_to⟩ := HX.fd_plain (d := fd21) rfl (HX.Look.def_ c 21 rfl) (HX.Look.bit c 67 rfl)
  have k_row_to : PySem.W.keepIn K (.ref (He.ga K "row_to")) = true := HX.Look.bit c 68 rfl
  have a_reached : PySem.W.nsIn K mainGlobals "reached" = some (some (.ref (He.ga K "reached"))) := HX.Look.eq c 69 rfl
  obtain ⟨_, _, _, _, _, _, _, _, _, l_reached, c_reached⟩ := HX.fd_plain (d := fd22) rfl (HX.Look.def_ c 22 rfl) (HX.Look.bit c 70 rfl)
  have k_reached : PySem.W.keepIn K (.ref (He.ga K "reached")) = true := HX.Look.bit c 71 rfl
  have a_is_set : PySem.W.nsIn K mainGlobals "is_set" = some (some (.ref (He.ga K "is_set"))) := HX.Look.eq c 72 rfl
  obtain ⟨_, _, _, _, _, _, _, _, _, l_is_set, c_is_set⟩ := HX.fd_plain (d := fd23) rfl (HX.Look.def_ c 23 rfl) (HX.Look.bit c 73 rfl)
  have k_is_set : PySem.W.keepIn K (.ref (He.ga K "is_set")) = true := HX.Look.bit c 74 rfl
  have a_check_set : PySem.W.nsIn K mainGlobals "check_set" = some (some (.ref (He.ga K "check_set"))) := HX.Look.eq c 75 rfl
  obtain ⟨_, _, _, _, _, _, _, _, _, l_check_set, c_check_set⟩ := HX.fd_plain (d := fd24) rfl (HX.Look.def_ c 24 rfl) (HX.Look.bit c 76 rfl)
  have k_check_set : PySem.W.keepIn K (.ref (He.ga K "check_set")) = true := HX.Look.bit c 77 rfl
  have a_first_apart : PySem.W.nsIn K mainGlobals "first_apart" = some (some (.ref (He.ga K "first_apart"))) := HX.Look.eq c 78 rfl
  obtain ⟨_, _, _, _, _, _, _, _, _, l_first_apart, c_first_apart⟩ := HX.fd_plain (d := fd25) rfl (HX.Look.def_ c 25 rfl) (HX.Look.bit c 79 rfl)
  have k_first_apart : PySem.W.keepIn K (.ref (He.ga K "first_apart")) = true := HX.Look.bit c 80 rfl
  have a_alike : PySem.W.nsIn K mainGlobals "alike" = some (some (.ref (He.ga K "alike"))) := HX.Look.eq c 81 rfl
  obtain ⟨_, _, _, _, _, _, _, _, _, l_alike, c_alike⟩ := HX.fd_plain (d := fd26) rfl (HX.Look.def_ c 26 rfl) (HX.Look.bit c 82 rfl)
  have k_alike : PySem.W.keepIn K (.ref (He.ga K "alike")) = true := HX.Look.bit c 83 rfl
  have a_check_pairs : PySem.W.nsIn K mainGlobals "check_pairs" = some (some (.ref (He.ga K "check_pairs"))) := HX.Look.eq c 84 rfl
  obtain ⟨_, _, _, _, _, _, _, _, _, l_check_pairs, c_check_pairs⟩ := HX.fd_plain (d := fd27) rfl (HX.Look.def_ c 27 rfl) (HX.Look.bit c 85 rfl)
  have k_check_pairs : PySem.W.keepIn K (.ref (He.ga K "check_pairs")) = true := HX.Look.bit c 86 rfl
  have a_check_number : PySem.W.nsIn K mainGlobals "check_number" = some (some (.ref (He.ga K "check_number"))) := HX.Look.eq c 87 rfl
  obtain ⟨_, _, _, _, _, _, _, _, _, l_check_number, c_check_number⟩ := HX.fd_plain (d := fd28) rfl (HX.Look.def_ c 28 rfl) (HX.Look.bit c 88 rfl)
  have k_check_number : PySem.W.keepIn K (.ref (He.ga K "check_number")) = true := HX.Look.bit c 89 rfl
  have a_check_tries : PySem.W.nsIn K mainGlobals "check_tries" = some (some (.ref (He.ga K "check_tries"))) := HX.Look.eq c 90 rfl
  obtain ⟨_, _, _, _, _, _, _, _, _, l_check_tries, c_check_tries⟩ := HX.fd_plain (d := fd29) rfl (HX.Look.def_ c 29 rfl) (HX.Look.bit c 91 rfl)
  have k_check_tries : PySem.W.keepIn K (.ref (He.ga K "check_tries")) = true := HX.Look.bit c 92 rfl
  have a_is_pair : PySem.W.nsIn K mainGlobals "is_pair" = some (some (.ref (He.ga K "is_pair"))) := HX.Look.eq c 93 rfl
  obtain ⟨_, _, _, _, _, _, _, _, _, l_is_pair, c_is_pair⟩ := HX.fd_plain (d := fd30) rfl (HX.Look.def_ c 30 rfl) (HX.Look.bit c 94 rfl)
  have k_is_pair : PySem.W.keepIn K (.ref (He.ga K "is_pair")) = true := HX.Look.bit c 95 rfl
  have a_is_try : PySem.W.nsIn K mainGlobals "is_try" = some (some (.ref (He.ga K "is_try"))) := HX.Look.eq c 96 rfl
  obtain ⟨_, _, _, _, _, _, _, _, _, l_is_try, c_is_try⟩ := HX.fd_plain (d := fd31) rfl (HX.Look.def_ c 31 rfl) (HX.Look.bit c 97 rfl)
  have k_is_try : PySem.W.keepIn K (.ref (He.ga K "is_try")) = true := HX.Look.bit c 98 rfl
  have a_check_few_drawers : PySem.W.nsIn K mainGlobals "check_few_drawers" = some (some (.ref (He.ga K "check_few_drawers"))) := HX.Look.eq c 99 rfl
  obtain ⟨_, _, _, _, _, _, _, _, _, l_check_few_drawers, c_check_few_drawers⟩ := HX.fd_plain (d := fd32) rfl (HX.Look.def_ c 32 rfl) (HX.Look.bit c 100 rfl)
  have k_check_few_drawers : PySem.W.keepIn K (.ref (He.ga K "check_few_drawers")) = true := HX.Look.bit c 101 rfl
  have a_paper : PySem.W.nsIn K mainGlobals "paper" = some (some (.ref (He.ga K "paper"))) := HX.Look.eq c 102 rfl
  obtain ⟨_, _, _, _, _, _, _, _, _, l_paper, c_paper⟩ := HX.fd_plain (d := fd33) rfl (HX.Look.def_ c 33 rfl) (HX.Look.bit c 103 rfl)
  have k_paper : PySem.W.keepIn K (.ref (He.ga K "paper")) = true := HX.Look.bit c 104 rfl
  have a_guards : PySem.W.nsIn K mainGlobals "guards" = some (some (.ref (He.ga K "guards"))) := HX.Look.eq c 105 rfl
  obtain ⟨_, _, _, _, _, _, _, _, _, l_guards, c_guards⟩ := HX.fd_plain (d := fd34) rfl (HX.Look.def_ c 34 rfl) (HX.Look.bit c 106 rfl)
  have k_guards : PySem.W.keepIn K (.ref (He.ga K "guards")) = true := HX.Look.bit c 107 rfl
  have a_count_rows : PySem.W.nsIn K mainGlobals "count_rows" = some (some (.ref (He.ga K "count_rows"))) := HX.Look.eq c 108 rfl
  obtain ⟨_, _, _, _, _, _, _, _, _, l_count_rows, c_count_rows⟩ := HX.fd_plain (d := fd35) rfl (HX.Look.def_ c 35 rfl) (HX.Look.bit c 109 rfl)
  have k_count_rows : PySem.W.keepIn K (.ref (He.ga K "count_rows")) = true := HX.Look.bit c 110 rfl
  have a_sure : PySem.W.nsIn K mainGlobals "sure" = some (some (.ref (He.ga K "sure"))) := HX.Look.eq c 111 rfl
  obtain ⟨_, _, _, _, _, _, _, _, _, l_sure, c_sure⟩ := HX.fd_plain (d := fd36) rfl (HX.Look.def_ c 36 rfl) (HX.Look.bit c 112 rfl)
  have k_sure : PySem.W.keepIn K (.ref (He.ga K "sure")) = true := HX.Look.bit c 113 rfl
  have a_check_words : PySem.W.nsIn K mainGlobals "check_words" = some (some (.ref (He.ga K "check_words"))) := HX.Look.eq c 114 rfl
  obtain ⟨_, _, _, _, _, _, _, _, _, l_check_words, c_check_words⟩ := HX.fd_plain (d := fd37) rfl (HX.Look.def_ c 37 rfl) (HX.Look.bit c 115 rfl)
  have k_check_words : PySem.W.keepIn K (.ref (He.ga K "check_words")) = true := HX.Look.bit c 116 rfl
  have a_words_of : PySem.W.nsIn K mainGlobals "words_of" = some (some (.ref (He.ga K "words_of"))) := HX.Look.eq c 117 rfl
  obtain ⟨_, _, _, _, _, _, _, _, _, l_words_of, c_words_of⟩ := HX.fd_plain (d := fd38) rfl (HX.Look.def_ c 38 rfl) (HX.Look.bit c 118 rfl)
  have k_words_of : PySem.W.keepIn K (.ref (He.ga K "words_of")) = true := HX.Look.bit c 119 rfl
  have a_read_drawers : PySem.W.nsIn K mainGlobals "read_drawers" = some (some (.ref (He.ga K "read_drawers"))) := HX.Look.eq c 120 rfl
  obtain ⟨_, _, _, _, _, _, _, _, _, l_read_drawers, c_read_drawers⟩ := HX.fd_plain (d := fd39) rfl (HX.Look.def_ c 39 rfl) (HX.Look.bit c 121 rfl)
  have k_read_drawers : PySem.W.keepIn K (.ref (He.ga K "read_drawers")) = true := HX.Look.bit c 122 rfl
  have a_read : PySem.W.nsIn K mainGlobals "read" = some (some (.ref (He.ga K "read"))) := HX.Look.eq c 123 rfl
  obtain ⟨_, _, _, _, _, _, _, _, _, l_read, c_read⟩ := HX.fd_plain (d := fd40) rfl (HX.Look.def_ c 40 rfl) (HX.Look.bit c 124 rfl)
  have k_read : PySem.W.keepIn K (.ref (He.ga K "read")) = true := HX.Look.bit c 125 rfl
  have a__law_early : PySem.W.nsIn K mainGlobals "_law_early" = some (some (.ref (He.ga K "_law_early"))) := HX.Look.eq c 126 rfl
  obtain ⟨_, _, _, _, _, _, _, _, _, l__law_early, c__law_early⟩ := HX.fd_plain (d := fd41) rfl (HX.Look.def_ c 41 rfl) (HX.Look.bit c 127 rfl)
  have k__law_early : PySem.W.keepIn K (.ref (He.ga K "_law_early")) = true := HX.Look.bit c 128 rfl
  have a__law_call : PySem.W.nsIn K mainGlobals "_law_call" = some (some (.ref (He.ga K "_law_call"))) := HX.Look.eq c 129 rfl
  obtain ⟨_, _, _, _, _, _, _, _, _, l__law_call, c__law_call⟩ := HX.fd_plain (d := fd42) rfl (HX.Look.def_ c 42 rfl) (HX.Look.bit c 130 rfl)
  have k__law_call : PySem.W.keepIn K (.ref (He.ga K "_law_call")) = true := HX.Look.bit c 131 rfl
  have a__law_first : PySem.W.nsIn K mainGlobals "_law_first" = some (some (.ref (He.ga K "_law_first"))) := HX.Look.eq c 132 rfl
  obtain ⟨_, _, _, _, _, _, _, _, _, l__law_first, c__law_first⟩ := HX.fd_plain (d := fd43) rfl (HX.Look.def_ c 43 rfl) (HX.Look.bit c 133 rfl)
  have k__law_first : PySem.W.keepIn K (.ref (He.ga K "_law_first")) = true := HX.Look.bit c 134 rfl
  have a__law_second : PySem.W.nsIn K mainGlobals "_law_second" = some (some (.ref (He.ga K "_law_second"))) := HX.Look.eq c 135 rfl
  obtain ⟨_, _, _, _, _, _, _, _, _, l__law_second, c__law_second⟩ := HX.fd_plain (d := fd44) rfl (HX.Look.def_ c 44 rfl) (HX.Look.bit c 136 rfl)
  have k__law_second : PySem.W.keepIn K (.ref (He.ga K "_law_second")) = true := HX.Look.bit c 137 rfl
  have a_law : PySem.W.nsIn K mainGlobals "law" = some (some (.ref (He.ga K "law"))) := HX.Look.eq c 138 rfl
  obtain ⟨_, _, _, _, _, _, _, _, _, l_law, c_law⟩ := HX.fd_plain (d := fd45) rfl (HX.Look.def_ c 45 rfl) (HX.Look.bit c 139 rfl)
  have k_law : PySem.W.keepIn K (.ref (He.ga K "law")) = true := HX.Look.bit c 140 rfl
  have aC : PySem.W.nsIn K mainGlobals "Cabinet" = some (some (.ref (He.ga K "Cabinet"))) := HX.Look.eq c 141 rfl
  have pg : PySem.W.plainGet K (He.ga K "Cabinet") Str.empty = true := HX.Look.bit c 142 rfl
  have hd : PySem.W.hasDictIn K (He.ga K "Cabinet") = true := HX.Look.bit c 143 rfl
  have po : PySem.W.plainOver K (He.ga K "Cabinet") = true := HX.Look.bit c 144 rfl
  have sa : PySem.W.findIn K (.ref (He.ga K "Cabinet")) "__setattr__" = some (some (.builtin "object.__setattr__")) := HX.Look.eq c 145 rfl
  have mk : PySem.W.makesIn K (He.ga K "Cabinet") = true := HX.Look.bit c 146 rfl
  have kc : PySem.W.keepIn K (.ref (He.ga K "Cabinet")) = true := HX.Look.bit c 147 rfl
  have nD : PySem.W.findIn K (.ref (He.ga K "Cabinet")) "_drawers" = some none := HX.Look.eq c 148 rfl
  have nB : PySem.W.findIn K (.ref (He.ga K "Cabinet")) "_bars" = some none := HX.Look.eq c 149 rfl
  have a_Cabinet___init__ : PySem.W.findIn K (.ref (He.ga K "Cabinet")) "__init__" = some (some (.ref (He.ma K (He.ga K "Cabinet") "__init__"))) := HX.Look.eq c 150 rfl
  obtain ⟨_, _, _, _, _, _, _, _, _, l_Cabinet___init__, c_Cabinet___init__⟩ := HX.fd_plain (d := fd46) rfl (HX.Look.def_ c 46 rfl) (HX.Look.bit c 151 rfl)
  have k_Cabinet___init__ : PySem.W.keepIn K (.ref (He.ma K (He.ga K "Cabinet") "__init__")) = true := HX.Look.bit c 152 rfl
  have i_init : PySem.W.isFn K (.ref (He.ma K (He.ga K "Cabinet") "__init__")) = true := HX.Look.bit c 153 rfl
  have pa_drawers : PySem.W.findIn K (.ref (He.ga K "Cabinet")) "drawers" = some (some (.ref (He.ma K (He.ga K "Cabinet") "drawers"))) := HX.Look.eq c 154 rfl
  have pg_drawers : PySem.W.specialIn K (.ref (He.ma K (He.ga K "Cabinet") "drawers")) "__get__" = some (some (.builtin "property.__get__")) := HX.Look.eq c 155 rfl
  have pt_drawers : PySem.W.takesIn K (.ref (He.ma K (He.ga K "Cabinet") "drawers")) = some true := HX.Look.eq c 156 rfl
  have pr_drawers := HX.pr_ok (HX.Look.bit c 157 rfl)
  obtain ⟨_, _, _, _, _, _, _, _, _, l_Cabinet_drawers, c_Cabinet_drawers⟩ := HX.fd_plain (d := fd47) rfl (HX.Look.def_ c 47 rfl) (HX.Look.bit c 158 rfl)
  have k_Cabinet_drawers : PySem.W.keepIn K (.ref (HX.prA K (He.ma K (He.ga K "Cabinet") "drawers"))) = true := HX.Look.bit c 159 rfl
  have pa_bars : PySem.W.findIn K (.ref (He.ga K "Cabinet")) "bars" = some (some (.ref (He.ma K (He.ga K "Cabinet") "bars"))) := HX.Look.eq c 160 rfl
  have pg_bars : PySem.W.specialIn K (.ref (He.ma K (He.ga K "Cabinet") "bars")) "__get__" = some (some (.builtin "property.__get__")) := HX.Look.eq c 161 rfl
  have pt_bars : PySem.W.takesIn K (.ref (He.ma K (He.ga K "Cabinet") "bars")) = some true := HX.Look.eq c 162 rfl
  have pr_bars := HX.pr_ok (HX.Look.bit c 163 rfl)
  obtain ⟨_, _, _, _, _, _, _, _, _, l_Cabinet_bars, c_Cabinet_bars⟩ := HX.fd_plain (d := fd48) rfl (HX.Look.def_ c 48 rfl) (HX.Look.bit c 164 rfl)
  have k_Cabinet_bars : PySem.W.keepIn K (.ref (HX.prA K (He.ma K (He.ga K "Cabinet") "bars"))) = true := HX.Look.bit c 165 rfl
  have ci1 : PySem.W.findIn K (.ref (He.ga K "Cabinet")) "__class__" = some (some (.builtin "object.__class__")) := HX.Look.eq c 166 rfl
  have ci2 : PySem.W.specialIn K (.builtin "object.__class__") "__get__" = some (some (.builtin "getset_descriptor.__get__")) := HX.Look.eq c 167 rfl
  have ci3 : PySem.W.takesIn K (.builtin "object.__class__") = some true := HX.Look.eq c 168 rfl
  have ci4 : PySem.W.mroIn K (He.ga K "Cabinet") (.type "object") = some true := HX.Look.eq c 169 rfl
  have ci5 : PySem.W.kitOne K (.ref (He.ga K "Cabinet")) (.ref (He.ga K "Cabinet")) = some true := HX.Look.eq c 170 rfl
  obtain ⟨_, _, _, _, _, _, _, _, _, l_Desk___init__, c_Desk___init__⟩ := HX.fd_plain (d := fd49) rfl (HX.Look.def_ c 49 rfl) (HX.Look.bit c 171 rfl)
  have k_Desk___init__ : PySem.W.keepIn K (.ref (He.ma K (He.ga K "Desk") "__init__")) = true := HX.Look.bit c 172 rfl
  obtain ⟨_, _, _, _, _, _, _, _, _, l_Desk_pull, c_Desk_pull⟩ := HX.fd_plain (d := fd50) rfl (HX.Look.def_ c 50 rfl) (HX.Look.bit c 173 rfl)
  have k_Desk_pull : PySem.W.keepIn K (.ref (He.ma K (He.ga K "Desk") "pull")) = true := HX.Look.bit c 174 rfl
  have z_isinstance : PySem.W.nsIn K mainGlobals "isinstance" = some none := HX.Look.eq c 175 rfl
  have z_int : PySem.W.nsIn K mainGlobals "int" = some none := HX.Look.eq c 176 rfl
  have z_bool : PySem.W.nsIn K mainGlobals "bool" = some none := HX.Look.eq c 177 rfl
  have z_tuple : PySem.W.nsIn K mainGlobals "tuple" = some none := HX.Look.eq c 178 rfl
  have z_len : PySem.W.nsIn K mainGlobals "len" = some none := HX.Look.eq c 179 rfl
  have z_enumerate : PySem.W.nsIn K mainGlobals "enumerate" = some none := HX.Look.eq c 180 rfl
  have z_range : PySem.W.nsIn K mainGlobals "range" = some none := HX.Look.eq c 181 rfl
  have z_sorted : PySem.W.nsIn K mainGlobals "sorted" = some none := HX.Look.eq c 182 rfl
  have z_str : PySem.W.nsIn K mainGlobals "str" = some none := HX.Look.eq c 183 rfl
  have z_all : PySem.W.nsIn K mainGlobals "all" = some none := HX.Look.eq c 184 rfl
  have z_zip : PySem.W.nsIn K mainGlobals "zip" = some none := HX.Look.eq c 185 rfl
  have z_super : PySem.W.nsIn K mainGlobals "super" = some none := HX.Look.eq c 186 rfl
  have z_list : PySem.W.nsIn K mainGlobals "list" = some none := HX.Look.eq c 187 rfl
  have z_min : PySem.W.nsIn K mainGlobals "min" = some none := HX.Look.eq c 188 rfl
  obtain ⟨_, aM⟩ := HX.int_ok (HX.Look.bit c 189 rfl)
  have aW : PySem.W.nsIn K mainGlobals "WORDS" = some (some (.ref (He.ga K "WORDS"))) := HX.Look.eq c 190 rfl
  obtain ⟨_, _, _, _, _, lW⟩ := HX.tup2_ok (HX.Look.bit c 191 rfl)
  have aS : PySem.W.nsIn K mainGlobals "SIGNS" = some (some (.ref (He.ga K "SIGNS"))) := HX.Look.eq c 192 rfl
  obtain ⟨_, _, lS, kS⟩ := HX.Look.dic c
  obtain ⟨_, oS⟩ := HX.str_ok (HX.Look.bit c 193 rfl)
  obtain ⟨_, sS⟩ := HX.str_ok (HX.Look.bit c 194 rfl)
  obtain ⟨_, aST⟩ := HX.str_ok (HX.Look.bit c 195 rfl)
  obtain ⟨_, aSS⟩ := HX.str_ok (HX.Look.bit c 196 rfl)
  have aBd : PySem.W.nsIn K mainGlobals "Barred" = some (some (.ref (He.ga K "Barred"))) := HX.Look.eq c 197 rfl
  have xBd : PySem.W.excIn K (He.ga K "Barred") [.type "ValueError", .type "Exception", .type "BaseException", .type "object"] "ValueError.__new__" = true := HX.Look.bit c 198 rfl
  have kBd : PySem.W.keepIn K (.ref (He.ga K "Barred")) = true := HX.Look.bit c 199 rfl
  have bBd : PySem.W.subIn K (.ref (He.ga K "Barred")) (.type "BaseException") = some true := HX.Look.eq c 200 rfl
  have tBd : PySem.W.typeIn K (.ref (He.ga K "Barred")) = some (.type "type") := HX.Look.eq c 201 rfl
  have iBd : PySem.W.isClsIn K (He.ga K "Barred") = true := HX.Look.bit c 202 rfl
  have sBd : PySem.W.subIn K (.ref (He.ga K "Barred")) (.ref (He.ga K "Barred")) = some true := HX.Look.eq c 203 rfl
  have aSt : PySem.W.nsIn K mainGlobals "BadSet" = some (some (.ref (He.ga K "BadSet"))) := HX.Look.eq c 204 rfl
  have xSt : PySem.W.excIn K (He.ga K "BadSet") [.type "ValueError", .type "Exception", .type "BaseException", .type "object"] "ValueError.__new__" = true := HX.Look.bit c 205 rfl
  have kSt : PySem.W.keepIn K (.ref (He.ga K "BadSet")) = true := HX.Look.bit c 206 rfl
  have bSt : PySem.W.subIn K (.ref (He.ga K "BadSet")) (.type "BaseException") = some true := HX.Look.eq c 207 rfl
  have tSt : PySem.W.typeIn K (.ref (He.ga K "BadSet")) = some (.type "type") := HX.Look.eq c 208 rfl
  have aDr : PySem.W.nsIn K mainGlobals "BadDrawers" = some (some (.ref (He.ga K "BadDrawers"))) := HX.Look.eq c 209 rfl
  have xDr : PySem.W.excIn K (He.ga K "BadDrawers") [.type "ValueError", .type "Exception", .type "BaseException", .type "object"] "ValueError.__new__" = true := HX.Look.bit c 210 rfl
  have kDr : PySem.W.keepIn K (.ref (He.ga K "BadDrawers")) = true := HX.Look.bit c 211 rfl
  have bDr : PySem.W.subIn K (.ref (He.ga K "BadDrawers")) (.type "BaseException") = some true := HX.Look.eq c 212 rfl
  have tDr : PySem.W.typeIn K (.ref (He.ga K "BadDrawers")) = some (.type "type") := HX.Look.eq c 213 rfl
  have aSd : PySem.W.nsIn K mainGlobals "BadStanding" = some (some (.ref (He.ga K "BadStanding"))) := HX.Look.eq c 214 rfl
  have xSd : PySem.W.excIn K (He.ga K "BadStanding") [.type "ValueError", .type "Exception", .type "BaseException", .type "object"] "ValueError.__new__" = true := HX.Look.bit c 215 rfl
  have kSd : PySem.W.keepIn K (.ref (He.ga K "BadStanding")) = true := HX.Look.bit c 216 rfl
  have bSd : PySem.W.subIn K (.ref (He.ga K "BadStanding")) (.type "BaseException") = some true := HX.Look.eq c 217 rfl
  have tSd : PySem.W.typeIn K (.ref (He.ga K "BadStanding")) = some (.type "type") := HX.Look.eq c 218 rfl
  have aPt : PySem.W.nsIn K mainGlobals "BadPattern" = some (some (.ref (He.ga K "BadPattern"))) := HX.Look.eq c 219 rfl
  have xPt : PySem.W.excIn K (He.ga K "BadPattern") [.type "ValueError", .type "Exception", .type "BaseException", .type "object"] "ValueError.__new__" = true := HX.Look.bit c 220 rfl
  have kPt : PySem.W.keepIn K (.ref (He.ga K "BadPattern")) = true := HX.Look.bit c 221 rfl
  have bPt : PySem.W.subIn K (.ref (He.ga K "BadPattern")) (.type "BaseException") = some true := HX.Look.eq c 222 rfl
  have tPt : PySem.W.typeIn K (.ref (He.ga K "BadPattern")) = some (.type "type") := HX.Look.eq c 223 rfl
  have aDw : PySem.W.nsIn K mainGlobals "BadDrawer" = some (some (.ref (He.ga K "BadDrawer"))) := HX.Look.eq c 224 rfl
  have xDw : PySem.W.excIn K (He.ga K "BadDrawer") [.type "ValueError", .type "Exception", .type "BaseException", .type "object"] "ValueError.__new__" = true := HX.Look.bit c 225 rfl
  have kDw : PySem.W.keepIn K (.ref (He.ga K "BadDrawer")) = true := HX.Look.bit c 226 rfl
  have bDw : PySem.W.subIn K (.ref (He.ga K "BadDrawer")) (.type "BaseException") = some true := HX.Look.eq c 227 rfl
  have tDw : PySem.W.typeIn K (.ref (He.ga K "BadDrawer")) = some (.type "type") := HX.Look.eq c 228 rfl
  have aCb : PySem.W.nsIn K mainGlobals "BadCabinet" = some (some (.ref (He.ga K "BadCabinet"))) := HX.Look.eq c 229 rfl
  have xCb : PySem.W.excIn K (He.ga K "BadCabinet") [.type "ValueError", .type "Exception", .type "BaseException", .type "object"] "ValueError.__new__" = true := HX.Look.bit c 230 rfl
  have kCb : PySem.W.keepIn K (.ref (He.ga K "BadCabinet")) = true := HX.Look.bit c 231 rfl
  have bCb : PySem.W.subIn K (.ref (He.ga K "BadCabinet")) (.type "BaseException") = some true := HX.Look.eq c 232 rfl
  have tCb : PySem.W.typeIn K (.ref (He.ga K "BadCabinet")) = some (.type "type") := HX.Look.eq c 233 rfl
  have aUn : PySem.W.nsIn K mainGlobals "Unlike" = some (some (.ref (He.ga K "Unlike"))) := HX.Look.eq c 234 rfl
  have xUn : PySem.W.excIn K (He.ga K "Unlike") [.type "ValueError", .type "Exception", .type "BaseException", .type "object"] "ValueError.__new__" = true := HX.Look.bit c 235 rfl
  have kUn : PySem.W.keepIn K (.ref (He.ga K "Unlike")) = true := HX.Look.bit c 236 rfl
  have bUn : PySem.W.subIn K (.ref (He.ga K "Unlike")) (.type "BaseException") = some true := HX.Look.eq c 237 rfl
  have tUn : PySem.W.typeIn K (.ref (He.ga K "Unlike")) = some (.type "type") := HX.Look.eq c 238 rfl
  have aBB : PySem.W.nsIn K mainGlobals "BadBars" = some (some (.ref (He.ga K "BadBars"))) := HX.Look.eq c 239 rfl
  obtain ⟨_, _, _, _, _, _, _, _, _, _, _, _, _, _, lBB⟩ := HX.ex_ok (HX.Look.bit c 240 rfl)
  have saBB : PySem.W.findIn K (.ref (He.ga K "BadBars")) "__setattr__" = some (some (.builtin "object.__setattr__")) := HX.Look.eq c 241 rfl
  have bBB : PySem.W.subIn K (.ref (He.ga K "BadBars")) (.type "BaseException") = some true := HX.Look.eq c 242 rfl
  have tBB : PySem.W.typeIn K (.ref (He.ga K "BadBars")) = some (.type "type") := HX.Look.eq c 243 rfl
  have kBB : PySem.W.keepIn K (.ref (He.ga K "BadBars")) = true := HX.Look.bit c 244 rfl
  have inBB : PySem.W.findIn K (.ref (He.ga K "BadBars")) "__init__" = some (some (.ref (He.ma K (He.ga K "BadBars") "__init__"))) := HX.Look.eq c 245 rfl
  have tyBB : PySem.W.typeIn K (.ref (He.ma K (He.ga K "BadBars") "__init__")) = some (.type "function") := HX.Look.eq c 246 rfl
  obtain ⟨_, _, _, _, _, _, _, _, lfBB, cdBB⟩ := HX.fd_super (d := fd51) rfl (HX.Look.def_ c 51 rfl) (HX.Look.bit c 247 rfl) (HX.Look.bit c 248 rfl)
  have alBB : PySem.W.alongIn K "__init__" [.ref (He.ga K "DrawerError"), .type "ValueError", .type "Exception", .type "BaseException", .type "object"] = some (some (.builtin "ValueError.__init__")) := HX.Look.eq c 249 rfl
  obtain ⟨_, _, _, _, _, _, coBB, vsBB, fiBB⟩ := HX.file_ok (HX.Look.bit c 250 rfl)
  obtain ⟨_, _, _, ceBB⟩ := HX.cell_ok (HX.Look.bit c 251 rfl)
  have suBB : PySem.W.mroIn K (He.ga K "BadBars") (.ref (He.ga K "BadBars")) = some true := HX.Look.eq c 252 rfl
  have anBB : PySem.W.nsIn K cStatics "thirdparty.any" = some none := HX.Look.eq c 253 rfl
  have svBB : PySem.W.subIn K (.ref (He.ga K "BadBars")) (.type "ValueError") = some true := HX.Look.eq c 254 rfl
  have toBB : (PySem.Challenge.rw_drawerlocks_k29_errors_are_apart.prog.main.scope.names.lookup ("super" : Str)).isSome = false := by first | rfl | decide +kernel
  have atBB : PySem.W.findIn K (.ref (He.ga K "BadBars")) "index" = some none := HX.Look.eq c 255 rfl
  have aBP : PySem.W.nsIn K mainGlobals "BadPairs" = some (some (.ref (He.ga K "BadPairs"))) := HX.Look.eq c 256 rfl
  obtain ⟨_, _, _, _, _, _, _, _, _, _, _, _, _, _, lBP⟩ := HX.ex_ok (HX.Look.bit c 257 rfl)
  have saBP : PySem.W.findIn K (.ref (He.ga K "BadPairs")) "__setattr__" = some (some (.builtin "object.__setattr__")) := HX.Look.eq c 258 rfl
  have bBP : PySem.W.subIn K (.ref (He.ga K "BadPairs")) (.type "BaseException") = some true := HX.Look.eq c 259 rfl
  have tBP : PySem.W.typeIn K (.ref (He.ga K "BadPairs")) = some (.type "type") := HX.Look.eq c 260 rfl
  have kBP : PySem.W.keepIn K (.ref (He.ga K "BadPairs")) = true := HX.Look.bit c 261 rfl
  have inBP : PySem.W.findIn K (.ref (He.ga K "BadPairs")) "__init__" = some (some (.ref (He.ma K (He.ga K "BadPairs") "__init__"))) := HX.Look.eq c 262 rfl
  have tyBP : PySem.W.typeIn K (.ref (He.ma K (He.ga K "BadPairs") "__init__")) = some (.type "function") := HX.Look.eq c 263 rfl
  obtain ⟨_, _, _, _, _, _, _, _, lfBP, cdBP⟩ := HX.fd_super (d := fd52) rfl (HX.Look.def_ c 52 rfl) (HX.Look.bit c 264 rfl) (HX.Look.bit c 265 rfl)
  have alBP : PySem.W.alongIn K "__init__" [.ref (He.ga K "DrawerError"), .type "ValueError", .type "Exception", .type "BaseException", .type "object"] = some (some (.builtin "ValueError.__init__")) := HX.Look.eq c 249 rfl
  obtain ⟨_, _, _, _, _, _, coBP, vsBP, fiBP⟩ := HX.file_ok (HX.Look.bit c 266 rfl)
  obtain ⟨_, _, _, ceBP⟩ := HX.cell_ok (HX.Look.bit c 267 rfl)
  have suBP : PySem.W.mroIn K (He.ga K "BadPairs") (.ref (He.ga K "BadPairs")) = some true := HX.Look.eq c 268 rfl
  have svBP : PySem.W.subIn K (.ref (He.ga K "BadPairs")) (.type "ValueError") = some true := HX.Look.eq c 269 rfl
  have atBP : PySem.W.findIn K (.ref (He.ga K "BadPairs")) "index" = some none := HX.Look.eq c 270 rfl
  have aTM : PySem.W.nsIn K mainGlobals "TooMany" = some (some (.ref (He.ga K "TooMany"))) := HX.Look.eq c 271 rfl
  obtain ⟨_, _, _, _, _, _, _, _, _, _, _, _, _, _, lTM⟩ := HX.ex_ok (HX.Look.bit c 272 rfl)
  have saTM : PySem.W.findIn K (.ref (He.ga K "TooMany")) "__setattr__" = some (some (.builtin "object.__setattr__")) := HX.Look.eq c 273 rfl
  have bTM : PySem.W.subIn K (.ref (He.ga K "TooMany")) (.type "BaseException") = some true := HX.Look.eq c 274 rfl
  have tTM : PySem.W.typeIn K (.ref (He.ga K "TooMany")) = some (.type "type") := HX.Look.eq c 275 rfl
  have kTM : PySem.W.keepIn K (.ref (He.ga K "TooMany")) = true := HX.Look.bit c 276 rfl
  have inTM : PySem.W.findIn K (.ref (He.ga K "TooMany")) "__init__" = some (some (.ref (He.ma K (He.ga K "TooMany") "__init__"))) := HX.Look.eq c 277 rfl
  have tyTM : PySem.W.typeIn K (.ref (He.ma K (He.ga K "TooMany") "__init__")) = some (.type "function") := HX.Look.eq c 278 rfl
  obtain ⟨_, _, _, _, _, _, _, _, lfTM, cdTM⟩ := HX.fd_super (d := fd53) rfl (HX.Look.def_ c 53 rfl) (HX.Look.bit c 279 rfl) (HX.Look.bit c 280 rfl)
  have alTM : PySem.W.alongIn K "__init__" [.ref (He.ga K "DrawerError"), .type "ValueError", .type "Exception", .type "BaseException", .type "object"] = some (some (.builtin "ValueError.__init__")) := HX.Look.eq c 249 rfl
  obtain ⟨_, _, _, _, _, _, coTM, vsTM, fiTM⟩ := HX.file_ok (HX.Look.bit c 281 rfl)
  obtain ⟨_, _, _, ceTM⟩ := HX.cell_ok (HX.Look.bit c 282 rfl)
  have suTM : PySem.W.mroIn K (He.ga K "TooMany") (.ref (He.ga K "TooMany")) = some true := HX.Look.eq c 283 rfl
  have svTM : PySem.W.subIn K (.ref (He.ga K "TooMany")) (.type "ValueError") = some true := HX.Look.eq c 284 rfl
  have atTM : PySem.W.findIn K (.ref (He.ga K "TooMany")) "most" = some none := HX.Look.eq c 285 rfl
  have aBN : PySem.W.nsIn K mainGlobals "BadNumber" = some (some (.ref (He.ga K "BadNumber"))) := HX.Look.eq c 286 rfl
  obtain ⟨_, _, _, _, _, _, _, _, _, _, _, _, _, _, lBN⟩ := HX.ex_ok (HX.Look.bit c 287 rfl)
  have saBN : PySem.W.findIn K (.ref (He.ga K "BadNumber")) "__setattr__" = some (some (.builtin "object.__setattr__")) := HX.Look.eq c 288 rfl
  have bBN : PySem.W.subIn K (.ref (He.ga K "BadNumber")) (.type "BaseException") = some true := HX.Look.eq c 289 rfl
  have tBN : PySem.W.typeIn K (.ref (He.ga K "BadNumber")) = some (.type "type") := HX.Look.eq c 290 rfl
  have kBN : PySem.W.keepIn K (.ref (He.ga K "BadNumber")) = true := HX.Look.bit c 291 rfl
  have inBN : PySem.W.findIn K (.ref (He.ga K "BadNumber")) "__init__" = some (some (.ref (He.ma K (He.ga K "BadNumber") "__init__"))) := HX.Look.eq c 292 rfl
  have tyBN : PySem.W.typeIn K (.ref (He.ma K (He.ga K "BadNumber") "__init__")) = some (.type "function") := HX.Look.eq c 293 rfl
  obtain ⟨_, _, _, _, _, _, _, _, lfBN, cdBN⟩ := HX.fd_super (d := fd54) rfl (HX.Look.def_ c 54 rfl) (HX.Look.bit c 294 rfl) (HX.Look.bit c 295 rfl)
  have alBN : PySem.W.alongIn K "__init__" [.ref (He.ga K "DrawerError"), .type "ValueError", .type "Exception", .type "BaseException", .type "object"] = some (some (.builtin "ValueError.__init__")) := HX.Look.eq c 249 rfl
  obtain ⟨_, _, _, _, _, _, coBN, vsBN, fiBN⟩ := HX.file_ok (HX.Look.bit c 296 rfl)
  obtain ⟨_, _, _, ceBN⟩ := HX.cell_ok (HX.Look.bit c 297 rfl)
  have suBN : PySem.W.mroIn K (He.ga K "BadNumber") (.ref (He.ga K "BadNumber")) = some true := HX.Look.eq c 298 rfl
  have svBN : PySem.W.subIn K (.ref (He.ga K "BadNumber")) (.type "ValueError") = some true := HX.Look.eq c 299 rfl
  have atBN : PySem.W.findIn K (.ref (He.ga K "BadNumber")) "n" = some none := HX.Look.eq c 300 rfl
  have aBT : PySem.W.nsIn K mainGlobals "BadTries" = some (some (.ref (He.ga K "BadTries"))) := HX.Look.eq c 301 rfl
  obtain ⟨_, _, _, _, _, _, _, _, _, _, _, _, _, _, lBT⟩ := HX.ex_ok (HX.Look.bit c 302 rfl)
  have saBT : PySem.W.findIn K (.ref (He.ga K "BadTries")) "__setattr__" = some (some (.builtin "object.__setattr__")) := HX.Look.eq c 303 rfl
  have bBT : PySem.W.subIn K (.ref (He.ga K "BadTries")) (.type "BaseException") = some true := HX.Look.eq c 304 rfl
  have tBT : PySem.W.typeIn K (.ref (He.ga K "BadTries")) = some (.type "type") := HX.Look.eq c 305 rfl
  have kBT : PySem.W.keepIn K (.ref (He.ga K "BadTries")) = true := HX.Look.bit c 306 rfl
  have inBT : PySem.W.findIn K (.ref (He.ga K "BadTries")) "__init__" = some (some (.ref (He.ma K (He.ga K "BadTries") "__init__"))) := HX.Look.eq c 307 rfl
  have tyBT : PySem.W.typeIn K (.ref (He.ma K (He.ga K "BadTries") "__init__")) = some (.type "function") := HX.Look.eq c 308 rfl
  obtain ⟨_, _, _, _, _, _, _, _, lfBT, cdBT⟩ := HX.fd_super (d := fd55) rfl (HX.Look.def_ c 55 rfl) (HX.Look.bit c 309 rfl) (HX.Look.bit c 310 rfl)
  have alBT : PySem.W.alongIn K "__init__" [.ref (He.ga K "DrawerError"), .type "ValueError", .type "Exception", .type "BaseException", .type "object"] = some (some (.builtin "ValueError.__init__")) := HX.Look.eq c 249 rfl
  obtain ⟨_, _, _, _, _, _, coBT, vsBT, fiBT⟩ := HX.file_ok (HX.Look.bit c 311 rfl)
  obtain ⟨_, _, _, ceBT⟩ := HX.cell_ok (HX.Look.bit c 312 rfl)
  have suBT : PySem.W.mroIn K (He.ga K "BadTries") (.ref (He.ga K "BadTries")) = some true := HX.Look.eq c 313 rfl
  have svBT : PySem.W.subIn K (.ref (He.ga K "BadTries")) (.type "ValueError") = some true := HX.Look.eq c 314 rfl
  have atBT : PySem.W.findIn K (.ref (He.ga K "BadTries")) "index" = some none := HX.Look.eq c 315 rfl
  have aIT : PySem.W.nsIn K mainGlobals "InvalidText" = some (some (.ref (He.ga K "InvalidText"))) := HX.Look.eq c 316 rfl
  obtain ⟨_, _, _, _, _, _, _, _, _, _, _, _, _, _, lIT⟩ := HX.ex_ok (HX.Look.bit c 317 rfl)
  have saIT : PySem.W.findIn K (.ref (He.ga K "InvalidText")) "__setattr__" = some (some (.builtin "object.__setattr__")) := HX.Look.eq c 318 rfl
  have bIT : PySem.W.subIn K (.ref (He.ga K "InvalidText")) (.type "BaseException") = some true := HX.Look.eq c 319 rfl
  have tIT : PySem.W.typeIn K (.ref (He.ga K "InvalidText")) = some (.type "type") := HX.Look.eq c 320 rfl
  have kIT : PySem.W.keepIn K (.ref (He.ga K "InvalidText")) = true := HX.Look.bit c 321 rfl
  have inIT : PySem.W.findIn K (.ref (He.ga K "InvalidText")) "__init__" = some (some (.ref (He.ma K (He.ga K "InvalidText") "__init__"))) := HX.Look.eq c 322 rfl
  have tyIT : PySem.W.typeIn K (.ref (He.ma K (He.ga K "InvalidText") "__init__")) = some (.type "function") := HX.Look.eq c 323 rfl
  obtain ⟨_, _, _, _, _, _, _, _, lfIT, cdIT⟩ := HX.fd_super (d := fd56) rfl (HX.Look.def_ c 56 rfl) (HX.Look.bit c 324 rfl) (HX.Look.bit c 325 rfl)
  have alIT : PySem.W.alongIn K "__init__" [.ref (He.ga K "DrawerError"), .type "ValueError", .type "Exception", .type "BaseException", .type "object"] = some (some (.builtin "ValueError.__init__")) := HX.Look.eq c 249 rfl
  obtain ⟨_, _, _, _, _, _, coIT, vsIT, fiIT⟩ := HX.file_ok (HX.Look.bit c 326 rfl)
  obtain ⟨_, _, _, ceIT⟩ := HX.cell_ok (HX.Look.bit c 327 rfl)
  have suIT : PySem.W.mroIn K (He.ga K "InvalidText") (.ref (He.ga K "InvalidText")) = some true := HX.Look.eq c 328 rfl
  have svIT : PySem.W.subIn K (.ref (He.ga K "InvalidText")) (.type "ValueError") = some true := HX.Look.eq c 329 rfl
  have atIT : PySem.W.findIn K (.ref (He.ga K "InvalidText")) "line" = some none := HX.Look.eq c 330 rfl
  obtain ⟨_, aMT⟩ := HX.int_ok (HX.Look.bit c 331 rfl)
  obtain ⟨_, aMP⟩ := HX.int_ok (HX.Look.bit c 332 rfl)
  obtain ⟨_, aMG⟩ := HX.int_ok (HX.Look.bit c 333 rfl)
  obtain ⟨_, aMA⟩ := HX.int_ok (HX.Look.bit c 334 rfl)
  have kcI : PySem.W.kitOne K (.type "int") (.ref (He.ga K "Cabinet")) = some false := HX.Look.eq c 335 rfl
  have atIT2 : PySem.W.findIn K (.ref (He.ga K "InvalidText")) "word" = some none := HX.Look.eq c 336 rfl
  have aDE : PySem.W.nsIn K mainGlobals "DrawerError" = some (some (.ref (He.ga K "DrawerError"))) := HX.Look.eq c 337 rfl
  have bDE : PySem.W.subIn K (.ref (He.ga K "DrawerError")) (.type "BaseException") = some true := HX.Look.eq c 338 rfl
  have tDE : PySem.W.typeIn K (.ref (He.ga K "DrawerError")) = some (.type "type") := HX.Look.eq c 339 rfl
  have iDE : PySem.W.isClsIn K (He.ga K "DrawerError") = true := HX.Look.bit c 340 rfl
  have uAp : ([(He.ga K "BadDrawers"), (He.ga K "BadBars"), (He.ga K "BadCabinet"), (He.ga K "BadStanding"), (He.ga K "BadPattern"), (He.ga K "BadDrawer"), (He.ga K "BadSet"), (He.ga K "BadPairs"), (He.ga K "BadNumber"), (He.ga K "BadTries"), (He.ga K "Barred"), (He.ga K "TooMany"), (He.ga K "Unlike"), (He.ga K "InvalidText")].map fun a => [(He.ga K "BadDrawers"), (He.ga K "BadBars"), (He.ga K "BadCabinet"), (He.ga K "BadStanding"), (He.ga K "BadPattern"), (He.ga K "BadDrawer"), (He.ga K "BadSet"), (He.ga K "BadPairs"), (He.ga K "BadNumber"), (He.ga K "BadTries"), (He.ga K "Barred"), (He.ga K "TooMany"), (He.ga K "Unlike"), (He.ga K "InvalidText")].map fun b => PySem.W.subIn K (.ref a) (.ref b)) = (List.range 14).map fun i => (List.range 14).map fun j => some (decide (i = j)) := HX.Look.eq c 341 rfl
  have uTp : ([(He.ga K "BadDrawers"), (He.ga K "BadBars"), (He.ga K "BadCabinet"), (He.ga K "BadStanding"), (He.ga K "BadPattern"), (He.ga K "BadDrawer"), (He.ga K "BadSet"), (He.ga K "BadPairs"), (He.ga K "BadNumber"), (He.ga K "BadTries"), (He.ga K "Barred"), (He.ga K "TooMany"), (He.ga K "Unlike"), (He.ga K "InvalidText")].map fun a => PySem.W.subIn K (.ref a) (.ref (He.ga K "DrawerError"))) = List.replicate 14 (some true) := HX.Look.eq c 342 rfl
  have uBs : ([(He.ga K "BadDrawers"), (He.ga K "BadBars"), (He.ga K "BadCabinet"), (He.ga K "BadStanding"), (He.ga K "BadPattern"), (He.ga K "BadDrawer"), (He.ga K "BadSet"), (He.ga K "BadPairs"), (He.ga K "BadNumber"), (He.ga K "BadTries"), (He.ga K "Barred"), (He.ga K "TooMany"), (He.ga K "Unlike"), (He.ga K "InvalidText")].map fun b => PySem.W.subIn K (.ref b) (.type "BaseException")) = List.replicate 14 (some true) := HX.Look.eq c 343 rfl
  have uCs : ([(He.ga K "BadDrawers"), (He.ga K "BadBars"), (He.ga K "BadCabinet"), (He.ga K "BadStanding"), (He.ga K "BadPattern"), (He.ga K "BadDrawer"), (He.ga K "BadSet"), (He.ga K "BadPairs"), (He.ga K "BadNumber"), (He.ga K "BadTries"), (He.ga K "Barred"), (He.ga K "TooMany"), (He.ga K "Unlike"), (He.ga K "InvalidText")].map fun b => PySem.W.isClsIn K b) = List.replicate 14 true := HX.Look.eq c 344 rfl
  have uTs : ([(He.ga K "BadDrawers"), (He.ga K "BadBars"), (He.ga K "BadCabinet"), (He.ga K "BadStanding"), (He.ga K "BadPattern"), (He.ga K "BadDrawer"), (He.ga K "BadSet"), (He.ga K "BadPairs"), (He.ga K "BadNumber"), (He.ga K "BadTries"), (He.ga K "Barred"), (He.ga K "TooMany"), (He.ga K "Unlike"), (He.ga K "InvalidText")].map fun b => PySem.W.typeIn K (.ref b)) = List.replicate 14 (some (.type "type")) := HX.Look.eq c 345 rfl
  have pgDk : PySem.W.plainGet K (He.ga K "Desk") Str.empty = true := HX.Look.bit c 346 rfl
  have hdDk : PySem.W.hasDictIn K (He.ga K "Desk") = true := HX.Look.bit c 347 rfl
  have poDk : PySem.W.plainOver K (He.ga K "Desk") = true := HX.Look.bit c 348 rfl
  have saDk : PySem.W.findIn K (.ref (He.ga K "Desk")) "__setattr__" = some (some (.builtin "object.__setattr__")) := HX.Look.eq c 349 rfl
  have mkDk : PySem.W.makesIn K (He.ga K "Desk") = true := HX.Look.bit c 350 rfl
  have kcDk : PySem.W.keepIn K (.ref (He.ga K "Desk")) = true := HX.Look.bit c 351 rfl
  have nCDk : PySem.W.findIn K (.ref (He.ga K "Desk")) "_cabinet" = some none := HX.Look.eq c 352 rfl
  have nSDk : PySem.W.findIn K (.ref (He.ga K "Desk")) "_standing" = some none := HX.Look.eq c 353 rfl
  have nPDk : PySem.W.findIn K (.ref (He.ga K "Desk")) "_pulls" = some none := HX.Look.eq c 354 rfl
  have i_Deskinit : PySem.W.isFn K (.ref (He.ma K (He.ga K "Desk") "__init__")) = true := HX.Look.bit c 355 rfl
  have i_Deskpull : PySem.W.isFn K (.ref (He.ma K (He.ga K "Desk") "pull")) = true := HX.Look.bit c 356 rfl
  exact DL.all_mk (l := PySem.Challenge.rw_drawerlocks_k29_errors_are_apart) KX G hmg aDk a_Desk___init__ a_Desk_pull a_is_integer l_is_integer c_is_integer k_is_integer a_is_drawer_count l_is_drawer_count c_is_drawer_count k_is_drawer_count a_is_drawer l_is_drawer c_is_drawer k_is_drawer a_is_bar l_is_bar c_is_bar k_is_bar a_check_drawers l_check_drawers c_check_drawers k_check_drawers a_check_bars l_check_bars c_check_bars k_check_bars a__law_taken l__law_taken c__law_taken k__law_taken a_hinders l_hinders c_hinders k_hinders a_moved l_moved c_moved k_moved a_bars_against l_bars_against c_bars_against k_bars_against a_goes l_goes c_goes k_goes a_has_signs l_has_signs c_has_signs k_has_signs a_is_standing l_is_standing c_is_standing k_is_standing a_is_pattern l_is_pattern c_is_pattern k_is_pattern a_check_cabinet l_check_cabinet c_check_cabinet k_check_cabinet a_check_standing l_check_standing c_check_standing k_check_standing a_check_pattern l_check_pattern c_check_pattern k_check_pattern a_check_drawer l_check_drawer c_check_drawer k_check_drawer a_can l_can c_can k_can a_behind l_behind c_behind k_behind a_first_standing l_first_standing c_first_standing k_first_standing a_row_to l_row_to c_row_to k_row_to a_reached l_reached c_reached k_reached a_is_set l_is_set c_is_set k_is_set a_check_set l_check_set c_check_set k_check_set a_first_apart l_first_apart c_first_apart k_first_apart a_alike l_alike c_alike k_alike a_check_pairs l_check_pairs c_check_pairs k_check_pairs a_check_number l_check_number c_check_number k_check_number a_check_tries l_check_tries c_check_tries k_check_tries a_is_pair l_is_pair c_is_pair k_is_pair a_is_try l_is_try c_is_try k_is_try a_check_few_drawers l_check_few_drawers c_check_few_drawers k_check_few_drawers a_paper l_paper c_paper k_paper a_guards l_guards c_guards k_guards a_count_rows l_count_rows c_count_rows k_count_rows a_sure l_sure c_sure k_sure a_check_words l_check_words c_check_words k_check_words a_words_of l_words_of c_words_of k_words_of a_read_drawers l_read_drawers c_read_drawers k_read_drawers a_read l_read c_read k_read a__law_early l__law_early c__law_early k__law_early a__law_call l__law_call c__law_call k__law_call a__law_first l__law_first c__law_first k__law_first a__law_second l__law_second c__law_second k__law_second a_law l_law c_law k_law aC pg hd po sa mk kc nD nB a_Cabinet___init__ l_Cabinet___init__ c_Cabinet___init__ k_Cabinet___init__ i_init pa_drawers pg_drawers pt_drawers pr_drawers l_Cabinet_drawers c_Cabinet_drawers k_Cabinet_drawers pa_bars pg_bars pt_bars pr_bars l_Cabinet_bars c_Cabinet_bars k_Cabinet_bars ci1 ci2 ci3 ci4 ci5 l_Desk___init__ c_Desk___init__ k_Desk___init__ l_Desk_pull c_Desk_pull k_Desk_pull z_isinstance z_int z_bool z_tuple z_len z_enumerate z_range z_sorted z_str z_all z_zip z_super z_list z_min aM aW lW aS lS kS oS sS aST aSS aBd xBd kBd bBd tBd iBd sBd aSt xSt kSt bSt tSt aDr xDr kDr bDr tDr aSd xSd kSd bSd tSd aPt xPt kPt bPt tPt aDw xDw kDw bDw tDw aCb xCb kCb bCb tCb aUn xUn kUn bUn tUn aBB lBB saBB bBB tBB kBB inBB tyBB lfBB cdBB alBB coBB vsBB fiBB ceBB suBB anBB svBB toBB atBB aBP lBP saBP bBP tBP kBP inBP tyBP lfBP cdBP alBP coBP vsBP fiBP ceBP suBP svBP atBP aTM lTM saTM bTM tTM kTM inTM tyTM lfTM cdTM alTM coTM vsTM fiTM ceTM suTM svTM atTM aBN lBN saBN bBN tBN kBN inBN tyBN lfBN cdBN alBN coBN vsBN fiBN ceBN suBN svBN atBN aBT lBT saBT bBT tBT kBT inBT tyBT lfBT cdBT alBT coBT vsBT fiBT ceBT suBT svBT atBT aIT lIT saIT bIT tIT kIT inIT tyIT lfIT cdIT alIT coIT vsIT fiIT ceIT suIT svIT atIT aMT aMP aMG aMA kcI atIT2 aDE bDE tDE iDE uAp uTp uBs uCs uTs pgDk hdDk poDk saDk mkDk kcDk nCDk nSDk nPDk i_Deskinit i_Deskpull
end HDG
open PySem PySem.W PySem.Calls PyProof.Rows
theorem PySem.Challenge.cw_drawerlocks_k29_errors_are_apart_holds : PySem.Challenge.rw_drawerlocks_k29_errors_are_apart.Holds := by
  w_on; o_law
  refine HandSHeadRun.head_imp (r := OpenLaw.row PySem.Challenge.rw_drawerlocks_k29_errors_are_apart) (q := view (OpenLaw.row PySem.Challenge.rw_drawerlocks_k29_errors_are_apart).prog [0, 102]) (H := HDG.hk) (ob := HDG.ob) (M := 60000) (loose := HDG.loose) (d := HandSHeadRun.topDef (OpenLaw.row PySem.Challenge.rw_drawerlocks_k29_errors_are_apart).prog 102) (kwd := []) HDG.ob_eq
    HDG.run (by kernel_rfl) (by kernel_rfl) (by kernel_rfl) (by rfl) (by first | assumption | decide +kernel) (by decide +kernel) ⟨rfl, rfl, rfl, rfl, rfl, by decide +kernel⟩ ?hw ?hc
  case hw => w_witness2
  case hc =>
    refine L2.walk_ofE (l := PySem.Challenge.rw_drawerlocks_k29_errors_are_apart) (n := 63) (k := 20) (x := "_law_script") (CX := L2.CX0) rfl (by decide) (by kernel_rfl) ⟨rfl, by decide, by decide⟩ ?F (fun _ _ _ _ z => z)
    intro w mg fa h Y G hmg0
    obtain ⟨K, KX, c⟩ := Y
    have hmg : mg ("law" : PySem.Str) = some (.ref fa) := by
      have e : (HandSHeadRun.topDef (OpenLaw.row PySem.Challenge.rw_drawerlocks_k29_errors_are_apart).prog 102).name = ("law" : PySem.Str) := by kernel_rfl
      rw [← e]
      exact hmg0
    obtain ⟨fd, hb, hF⟩ := HDG.facts (w := w) KX G hmg c
    exact ⟨K, fd, DL.spLaw29 K, KX, hb, fun H a ns hl _ hS => ⟨a, ns, rfl, hS, hl, fun _ => rfl⟩, hF⟩
