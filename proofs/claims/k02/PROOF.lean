import PyProof.Rows.All
import Wide.All
import OpenK.AllK
import Wide.FinOn
import HandS.ForMost
import HandS.ForExc
import HandS.TupLe
import HandS.TupAny
import HandS.SortOrd
import HandS.SortRule
import HandS.IsInst
import HandS.Conv
import HandS.Wide
import HandS.Property
import HandS.Deep
import HandS.Walk
import HandS.Zip
import HandS.Flow
import KE.GoesEnum
import PySem.Challenge.RW_drawerlocks_k02_no_cabinets
import KE.KSuper
import KE.KExcSuper
import HandS.ClsMeth
import HandS.ExcInit
import HandS.WordsExc
import HandS.FStr
import HandS.Replace
import HandS.More
import HandS.TryOnly
import HandS.SlotsOwn
import KE.GoesZip
import HandS.ExcOwn
import HandS.TryMany
import HandS.ExcField
import HandS.TupMul
set_option Elab.async false
set_option maxRecDepth 100000
namespace DL
open PySem PySem.Spec PyProof.Rows L2
/-! ### bars: four parts; the words as truth values (true: shut) -/
structure Bar where
  d : Int
  w : Bool
  o : Int
  t : Bool
deriving DecidableEq
def wd (b : Bool) : Str := if b = true then "shut" else "open"
theorem wd_lt : ∀ a b : Bool, decide ((wd a).cps.toList < (wd b).cps.toList) = (!a && b) := by decide +kernel
def Bar.vs (b : Bar) : List V := [.int b.d, .str (wd b.w), .int b.o, .str (wd b.t)]
def b2n (b : Bool) : Int := if b = true then 1 else 0
def Bar.code (b : Bar) : Int := ((b.d * 2 + b2n b.w) * 8 + b.o) * 2 + b2n b.t
/-- the parts lie where a bar of at most eight drawers has them -/
def Bar.low (b : Bar) : Prop := 0 ≤ b.d ∧ b.d < 8 ∧ 0 ≤ b.o ∧ b.o < 8
/-! ### sorted(d), d a dict whose keys are such tuples -/
end DL

set_option Elab.async false
set_option maxRecDepth 100000
namespace DL
open PySem PySem.Spec PyProof.Rows L2
/-! ### bar <= bar -/
def Bar.leb (a b : Bar) : Bool := decide (a.code ≤ b.code)
def Bar.leq (a b : Bar) : Bool := if a.d = b.d then (if a.w = b.w then (if a.o = b.o then (if a.t = b.t then true else !(!b.t && a.t)) else decide (a.o ≤ b.o)) else !(!b.w && a.w)) else decide (a.d ≤ b.d)
theorem Bar.leq_code {a b : Bar} (ha : a.low) (hb : b.low) : a.leq b = a.leb b := by
  obtain ⟨ad, aw, ao, at'⟩ := a
  obtain ⟨bd, bw, bo, bt⟩ := b
  unfold Bar.low at ha hb
  unfold Bar.leq Bar.leb Bar.code b2n
  simp only at ha hb ⊢
  by_cases h1 : ad = bd
  · rw [if_pos h1]
    by_cases h2 : aw = bw
    · rw [if_pos h2]
      by_cases h3 : ao = bo
      · rw [if_pos h3]
        subst h1 h2 h3
        cases at' <;> cases bt <;> simp <;> omega
      · rw [if_neg h3]
        subst h1 h2
        cases at' <;> cases bt <;> simp <;> omega
    · rw [if_neg h2]
      subst h1
      cases aw <;> cases bw <;> cases at' <;> cases bt <;> simp at h2 ⊢ <;> omega
  · rw [if_neg h1]
    cases aw <;> cases bw <;> cases at' <;> cases bt <;> simp <;> omega
def rLeB (K : PySem.W.Frag) : R2 := fun x y H Q => ∃ (a b : Addr) (p q : Bar), x = .ref a ∧ y = .ref b ∧ SqT K H a p.vs ∧ SqT K H b q.vs ∧ Q (.bl (p.leq q)) H
theorem four_of {p : Bar} {its : List Value} (r : Vals p.vs its) : ∃ t1 t2 t3 t4, its = [.int p.d t1, .str (wd p.w) t2, .int p.o t3, .str (wd p.t) t4] := by
  cases r with
  | cons r1 rv =>
    cases rv with
    | cons r2 rv =>
      cases rv with
      | cons r3 rv =>
        cases rv with
        | cons r4 rv =>
          cases rv
          obtain ⟨t1, rfl⟩ := r1
          obtain ⟨t2, rfl⟩ := r2
          obtain ⟨t3, rfl⟩ := r3
          obtain ⟨t4, rfl⟩ := r4
          exact ⟨t1, t2, t3, t4, rfl⟩
theorem beq_dec {α : Type} [BEq α] [LawfulBEq α] [DecidableEq α] (a b : α) : (a == b) = decide (a = b) := by
  by_cases q : a = b
  · rw [decide_eq_true q]; exact beq_iff_eq.mpr q
  · rw [decide_eq_false q]; exact beq_eq_false_iff_ne.mpr q
theorem wd_beq (a b : Bool) : ((wd a) == (wd b)) = decide (a = b) := by revert a b; decide +kernel
theorem op_leB {X : Cx} (hu : X.A.units < cLine) : OpR X (compareOp .LtE) (rLeB X.K) := by
  intro pins s σ H x y v u Q I rx ry h
  obtain ⟨a, b, p, q, rfl, rfl, ha, hb, hq⟩ := h
  cases rx
  cases ry
  obtain ⟨its, r1, p1, _⟩ := I.tuple ha
  obtain ⟨its2, r2, p2, _⟩ := I.tuple hb
  obtain ⟨t1, t2, t3, t4, rfl⟩ := four_of r1
  obtain ⟨u1, u2, u3, u4, rfl⟩ := four_of r2
  have R := Ob.RcOp.tuples_le (A := X.A) (s := s) (e := fun j => match j with | 0 => decide (p.d = q.d) | 1 => decide (p.w = q.w) | 2 => decide (p.o = q.o) | _ => decide (p.t = q.t))
    (r := fun j => match j with | 0 => decide (p.d ≤ q.d) | 1 => !(!q.w && p.w) | 2 => decide (p.o ≤ q.o) | _ => !(!q.t && p.t)) p1 p2 hu (fun j h1 h2 => by
      match j, h1, h2 with
      | 0, _, _ => show SeqAt.EqAt _ _ (.int p.d t1) (.int q.d u1) (decide (p.d = q.d)); rw [← beq_dec]; exact SeqAt.EqAt.int_int _ _ _ _
      | 1, _, _ => show SeqAt.EqAt _ _ (.str (wd p.w) t2) (.str (wd q.w) u2) (decide (p.w = q.w)); rw [← wd_beq]; exact SeqAt.EqAt.str_str _ _ _ _
      | 2, _, _ => show SeqAt.EqAt _ _ (.int p.o t3) (.int q.o u3) (decide (p.o = q.o)); rw [← beq_dec]; exact SeqAt.EqAt.int_int _ _ _ _
      | 3, _, _ => show SeqAt.EqAt _ _ (.str (wd p.t) t4) (.str (wd q.t) u4) (decide (p.t = q.t)); rw [← wd_beq]; exact SeqAt.EqAt.str_str _ _ _ _
      | n + 4, h1, _ => exact absurd (show n + 4 < 4 from h1) (by omega)) (fun j h1 h2 _ => by
      match j, h1, h2 with
      | 0, _, _ => exact Ob.RcOp.le_int _ _ _ _
      | 1, _, _ =>
        show Ob.RcOp .LtE _ _ (.str (wd p.w) t2) (.str (wd q.w) u2) (!(!q.w && p.w))
        rw [← wd_lt]
        exact fun _ _ _ _ h => PySem.P.le_str h
      | 2, _, _ => exact Ob.RcOp.le_int _ _ _ _
      | 3, _, _ =>
        show Ob.RcOp .LtE _ _ (.str (wd p.t) t4) (.str (wd q.t) u4) (!(!q.t && p.t))
        rw [← wd_lt]
        exact fun _ _ _ _ h => PySem.P.le_str h
      | n + 4, h1, _ => exact absurd (show n + 4 < 4 from h1) (by omega))
  have z : wpAny (model X.prog X.w) X.A (compareOp .LtE (.ref a) (.ref b)) (EP X pins σ Q) X.xe s := R X.prog X.w X.xe (EP X pins σ Q) (by
    refine ⟨.bl (p.leq q), H, I, ?_, hq⟩
    show Value.bool _ = Value.bool (p.leq q)
    have e : (Ob.lexAt (fun j => match j with | 0 => decide (p.d = q.d) | 1 => decide (p.w = q.w) | 2 => decide (p.o = q.o) | _ => decide (p.t = q.t))
      (fun j => match j with | 0 => decide (p.d ≤ q.d) | 1 => !(!q.w && p.w) | 2 => decide (p.o ≤ q.o) | _ => !(!q.t && p.t)) true 0 4) = p.leq q := by
      unfold Bar.leq
      simp only [Ob.lexAt, decide_eq_true_eq]
    exact congrArg Value.bool e)
  exact z
/-! ### for i, x in enumerate(t), t a tuple -/
def IteT (K : PySem.W.Frag) (a : Addr) : It :=
  ⟨fun i H => ∃ (xs : List V) (x : V), SqT K H a xs ∧ xs[i]? = some x, fun i H v H' => ∃ T x, v = .ref T ∧ H T = none ∧ H' = upd H T (.tup [.int (i : Nat), x]) ∧ ∀ xs, SqT K H a xs → xs[i]? = some x, fun i H => ∃ xs : List V, SqT K H a xs ∧ xs.length ≤ i⟩
theorem turn_enumT {P : Program} {w : World} {K : PySem.W.Frag} {elts : List Expr} {kk : Nat} {tpos : Pos} (a e it : Addr) (hai : a ≠ it) (hae : e ≠ a) :
    Turn P w K (.Tuple elts kk tpos) (IteT K a) [e, it] e (fun i h => (∃ old, IsEnum h e it ((i : Nat) : Int) old) ∧ h.IsTupleIter it a i ∧ e ≠ it) where
  mem := by simp
  obj := fun i h st b hb => by
    obtain ⟨⟨old, he⟩, ⟨o, ho, hc, hd⟩, _⟩ := st
    have e' : b = e ∨ b = it := by simpa using hb
    rcases e' with z | z
    · rw [z]; exact ⟨_, he, fun v q => nomatch q⟩
    · rw [z]; exact ⟨o, ho, fun v q => by rw [hd] at q; cases q⟩
  keep := fun i h h' st k => let ⟨⟨old, he⟩, hi, hne⟩ := st; ⟨⟨old, k e (by simp) _ he⟩, hi.at fun o q => k it (by simp) o q, hne⟩
  item := by
    intro X hP hw hK hc i pins s σ H E I hf st hg
    subst hP hw hK
    obtain ⟨⟨old, he⟩, hit, hne⟩ := st
    obtain ⟨xs, x, hq, hx⟩ := hg
    obtain ⟨its, rv, p, hz⟩ := I.tuple hq
    obtain ⟨u, hu, ru⟩ := rv.get hx
    have hel : e < s.heap.objs.size := Heap.lt_size he
    have hil : it < s.heap.objs.size := by obtain ⟨_, q, _⟩ := hit; exact Heap.lt_size q
    have hlt : i < its.toArray.size := by
      have := (List.getElem?_eq_some_iff.mp hu).1
      simpa using this
    refine wpAny_pyNext_enum_itemD (Draws.tuple (A := X.A.in1) (I.ok.hd hc) it a hai its.toArray) he ⟨hit, p⟩ hlt hne (by simp; exact ⟨hne, hae⟩) fun x1 h' tk hp ho hst' hT hsz hk => ?_
    have hx1 : x1 = u := by
      have q : its.toArray[i]? = some u := by simpa using hu
      rw [q] at hp
      exact (Option.some.inj hp).symm
    subst hx1
    refine ⟨_, rfl, wpAny_letOwnedTupleGo_enum (s := { s with heap := h', toks := tk + 1 }) ho fun h'' he' sb => ?_⟩
    have hT2 : h''.get? s.heap.objs.size = some { cls := .type "tuple", data := .seq #[.int i tk, x1] } := (sb.2 _ (Nat.ne_of_gt hel)).trans hT
    have new : ObjOk X.prog X.w (upd H s.heap.objs.size (.tup [.int (i : Nat), x])) h'' s.heap.objs.size (.tup [.int (i : Nat), x]) :=
      ⟨by show 2 ≤ sizeLine; decide, [.int i tk, x1], .cons ⟨_, rfl⟩ (.cons ru .nil), ⟨_, hT2, rfl, _, rfl⟩⟩
    have I1 : Inv X pins σ (upd H s.heap.objs.size (.tup [.int (i : Nat), x])) { s with heap := h'', toks := tk + 1 } :=
      I.turnedNew (ch := [e, it]) (fun b ob hb q => (sb.2 b (fun z => hb (by simp [z]))).trans (hk b ob (fun z => hb (by simp [z])) (fun z => hb (by simp [z])) q)) hf (Nat.le_refl _) new
    refine ⟨.ref s.heap.objs.size, _, I1, rfl, ⟨_, x, rfl, I.hok.fresh (Nat.le_refl _), rfl, fun ys hy => by rw [I.tuple_inj hy hq]; exact hx⟩, ⟨⟨x1, ?_⟩, hst'.1.at fun o q => (sb.2 it (Ne.symm hne)).trans q, hne⟩, fun b hb => ?_⟩
    · have e1 : ((i + 1 : Nat) : Int) = (i : Int) + 1 := by omega
      rw [e1]; exact he'
    · have hb' : b < s.heap.objs.size := by
        have e' : b = e ∨ b = it := by simpa using hb
        rcases e' with z | z
        · rw [z]; exact hel
        · rw [z]; exact hil
      rw [upd_ne (Nat.ne_of_lt hb')]
      exact (hf b hb).1
  done := by
    intro X hP hw hK hc i pins s σ H E I hf st hg
    subst hP hw hK
    obtain ⟨⟨old, he⟩, hit, hne⟩ := st
    obtain ⟨xs, hq, hx⟩ := hg
    obtain ⟨its, rv, p, hz⟩ := I.tuple hq
    obtain ⟨f0, f1, f2, f3, f4, f5⟩ := hf it (by simp)
    have hl := rv.length
    have D := Draws.tuple (prog := X.prog) (w := X.w) (A := X.A.in1) (I.ok.hd hc) it a hai its.toArray
    have go : ∀ {Q : Option Value → Shared → Prop}, (∀ h', Heap.ExtBut it s.heap h' → Q none { s with heap := h' }) → wpAny (model X.prog X.w) X.A (pyNext (.ref e)) Q E s := by
      intro Q hQ
      unfold pyNext
      have hT : s.TypeIs (.ref e) "enumerate" := ⟨_, he, rfl⟩
      refine wpAny_bind (wpAny_attempt (wpAny_callSpecial?_slot (name := Str.ofString "__next__") hT F.slot_enumerate_next
        (wpAny_call_entry F.slot_enumerate_next hT F.entry_enumerate_next ?_ (F.args_enumerate_next_1 _))))
      show wpAny _ _ (field (.ref e) 2 >>= _) _ _ _
      refine wpAny_bind (wpAny_field he rfl (x := .ref it) rfl ?_)
      refine wpAny_bind (wpAny_nextOf_tuple_end (I.ok.hd hc) hit p (by simp; omega) fun h' x he' hx' => ?_)
      obtain ⟨o, ho, hc⟩ := hx'
      refine wpAny_bind (wpAny_isInstance (T := "StopIteration") (b := true) ⟨o, ho, hc⟩ isSubtype_stop ?_)
      exact wpAny_pure (hQ _ he')
    exact go fun h' eb => ⟨rfl, I.turned (t' := s.toks) (fun b o hb q => eb b o hb q) f0 f1 f3 f4 f5⟩
  self := fun A i s Q E st h => let ⟨⟨_, he⟩, _⟩ := st; wpAny_pyIter_enum he h
def iEnumT (K : PySem.W.Frag) (ta : TA) : TI := fun σ H R => ta σ H fun vs H1 => ∃ a xs, vs = [.ref a] ∧ SqT K H1 a xs ∧ R (IteT K a) H1
end DL

set_option Elab.async false
set_option maxRecDepth 100000
namespace DL
open PySem PySem.Spec PyProof.Rows L2
open Sem (wp)
set_option maxHeartbeats 1000000 in
theorem meets_enumerate_newB1 {v : Value} {o : Obj} {H : Heap → Prop} (B : Begins v o H) :
    Meets (Builtin.«enumerate.__new__» ⟨[.type "enumerate", v], []⟩) (fun _ R s => H s.heap ∧
      R (.ok (.ret (.ref (s.heap.push o).objs.size))) { s with heap := (s.heap.push o).push { cls := .type "enumerate", data := .fields #[.none, .bool false, .ref s.heap.objs.size, rawInt 0, .none, .none] } }) :=
  .of_wp fun prog w A R s h => by
    obtain ⟨hp, g, d, tk, os⟩ := s; obtain ⟨h1, h⟩ := h
    have hsub := sub_enumerate
    have q1 : ∀ {A' : Around} {E : Value → Shared → Prop} {Q : Value → Shared → Prop}, Q (.ref hp.objs.size) ⟨hp.push o, g, d, tk, os⟩ → wpAny (model prog w) A' (pyIter v) Q E ⟨hp, g, d, tk, os⟩ :=
      fun q => B.iter prog w _ _ ⟨hp, g, d, tk, os⟩ _ h1 q
    wp_walk using q1
    refine wpAny_stack_any fun st => wpAny_pure ?_
    split
    · rename_i c _ _ _ _ _
      cases (c == Value.type "enumerate")
      · wp_walk using q1
        exact ⟨_, rfl, h⟩
      · wp_walk using q1
        exact ⟨_, rfl, h⟩
    · wp_walk using q1
      exact ⟨_, rfl, h⟩
section
variable {prog : Program} {w : World} {A : Around} {E : Value → Shared → Prop} {s : Shared}
theorem enum_begins1 {v : Value} {o : Obj} {H : Heap → Prop} {Q : Value → Shared → Prop} (B : Begins v o H) (h1 : H s.heap)
    (h : ∀ h', IsEnum h' (s.heap.objs.size + 1) s.heap.objs.size 0 .none → h'.get? s.heap.objs.size = some o → h'.objs.size = s.heap.objs.size + 2 →
      (∀ b o, s.heap.get? b = some o → h'.get? b = some o) → Q (.ref (s.heap.objs.size + 1)) { s with heap := h' }) :
    wpAny (model prog w) A (call (.type "enumerate") [v]) Q E s := by
  refine callType_new F.called_enumerate (by decide) (F.typeCall_enumerate_1 _) (F.newCall_enumerate_1 _) (fun obj => F.args_object_init_2 obj _) F.entry_enumerate_new
    (meets_enumerate_newB1 B) ⟨h1, ?_⟩
  have hz : (s.heap.push o).objs.size = s.heap.objs.size + 1 := Heap.size_push ..
  show _ ∧ _
  rw [hz]
  have he : IsEnum ((s.heap.push o).push { cls := .type "enumerate", data := .fields #[.none, .bool false, .ref s.heap.objs.size, rawInt 0, .none, .none] }) (s.heap.objs.size + 1) s.heap.objs.size 0 .none := by
    have := Heap.get?_push_size (s.heap.push o) (o := { cls := .type "enumerate", data := .fields #[.none, .bool false, .ref s.heap.objs.size, rawInt 0, .none, .none] }) rfl
    rw [hz] at this; exact this
  refine ⟨⟨_, he, rfl⟩, h _ he (Heap.get?_push_of_some _ (Heap.get?_push_size _ B.free)) (by rw [Heap.size_push, hz]) fun b o x => Heap.get?_push_of_some _ (Heap.get?_push_of_some _ x)⟩
end
theorem pi_enumT {X : Cx} {e : Expr} {ta : TA} {p pos tpos : Pos} {elts : List Expr} {kk : Nat} (hg : Gl X "enumerate") (hm : X.mg "enumerate" = none) (ha : PA X [e] ta) (hs : starEach [e] X.env = [(false, eval e X.env)] := by rfl) :
    PI X (.Tuple elts kk tpos) (.Call (.Name "enumerate" p) [e] [] pos) (iEnumT X.K ta) := by
  refine ⟨fun pins s σ H R I h => ?_⟩
  refine Call_ (ld_blt I hg hm boot_enumerate (PyProof.Rows.callWith_type1 (thn (ha.run pos pins s σ H _ I h) fun us s1 ⟨vs, H1, I1, r1, q1⟩ => ?_) hs rfl))
  obtain ⟨a, xs, ex, hq, q⟩ := q1
  subst ex
  cases r1 with
  | cons r rr =>
    cases rr
    cases r
    obtain ⟨its, rv, p', hz⟩ := I1.tuple hq
    have hal : a < s1.heap.objs.size := by obtain ⟨o, ho, _⟩ := id p'; exact Heap.lt_size ho
    refine enum_begins1 (begins_tuple a its.toArray) (show s1.heap.IsTuple a its.toArray from p') fun h' he hit hsz hk => wpAny_pyIter_enum he ?_
    have I2 : Inv X pins σ H1 { s1 with heap := h' } := I1.kept (t' := s1.toks) hk
    refine ⟨s1.heap.objs.size + 1, [s1.heap.objs.size + 1, s1.heap.objs.size], _, _, H1, rfl, I2, turn_enumT a (s1.heap.objs.size + 1) s1.heap.objs.size (Nat.ne_of_lt hal) (Nat.ne_of_gt (Nat.lt_succ_of_lt hal)),
      ⟨⟨.none, he⟩, ⟨_, hit, rfl, rfl⟩, Nat.succ_ne_self _⟩, fun b hb => ?_, q⟩
    have e' : b = s1.heap.objs.size + 1 ∨ b = s1.heap.objs.size := by simpa using hb
    have hle : s1.heap.objs.size ≤ b := by
      rcases e' with z | z
      · rw [z]; exact Nat.le_add_right _ _
      · rw [z]; exact Nat.le_refl _
    exact I1.fpOk hle (I1.hok.fresh hle)
theorem walk_enumT {K : PySem.W.Frag} {a : Addr} {xs : List V} : Walk (IteT K a) xs.length (fun H => SqT K H a xs) (YPair (fun i => some (.int (i : Nat))) (fun i => xs[i]?)) := by
  refine ⟨fun i _ hi q => ⟨xs, xs[i], q, by simp [hi]⟩, fun _ q => ⟨xs, q, Nat.le_refl _⟩, fun i H v H' _ q y => ?_⟩
  obtain ⟨T, x, h1, h2, h3, h4⟩ := y
  exact ⟨T, .int (i : Nat), x, h1, h2, h3, rfl, h4 xs q⟩
end DL

set_option Elab.async false
set_option maxRecDepth 100000
namespace DL
open PySem L2
def top (i : Nat) : Stmt := PySem.Challenge.pw_drawerlocks_k02_no_cabinets.main.body.getD i (.Pass ⟨0, 0, 0, 0⟩)
abbrev sIsInt : Stmt := top 22
abbrev sIsCount : Stmt := top 23
abbrev sIsDrawer : Stmt := top 24
abbrev sIsBar : Stmt := top 27
abbrev sInit : Stmt := inClass (top 37) 0
abbrev s_can : Stmt := top 38
abbrev s_barring : Stmt := top 39
abbrev s_behind : Stmt := top 40
abbrev sCheckDrawers : Stmt := top 44
abbrev sCheckBars : Stmt := top 45
abbrev s_check_cabinet : Stmt := top 46
abbrev s_reached : Stmt := top 53
abbrev s_row_to : Stmt := top 54
abbrev s_row_between : Stmt := top 55
abbrev s_right_row : Stmt := top 56
abbrev s_farthest : Stmt := top 57
abbrev s_count_rows : Stmt := top 65
abbrev s_count_to : Stmt := top 66
abbrev s_Desk__init_ : Stmt := inClass (top 70) 0
abbrev s_open_together : Stmt := top 72
abbrev s_never_together : Stmt := top 73
abbrev s_most_open : Stmt := top 74
abbrev s_paper : Stmt := top 75
abbrev s_right_paper : Stmt := top 76
abbrev s_guards : Stmt := top 85
abbrev s_alike : Stmt := top 90
abbrev s_first_apart : Stmt := top 91
abbrev s_needless : Stmt := top 92
abbrev s_fewest_bars : Stmt := top 93
abbrev s_dead_end : Stmt := top 99
abbrev s_no_return : Stmt := top 100
abbrev s_frozen : Stmt := top 101
abbrev s_never_opened : Stmt := top 102
abbrev s_write : Stmt := top 106
abbrev sTaken : Stmt := top 108
abbrev s__law_odd : Stmt := top 109
abbrev s__law_call : Stmt := top 110
abbrev s_law : Stmt := top 111
end DL

set_option Elab.async false
set_option maxRecDepth 100000
namespace DL
open PySem L2
/-! ### the facts of the top -/
structure Bt (mg : Str → Option Value) : Prop where
  isinstance : mg "isinstance" = none
  int : mg "int" = none
  bool : mg "bool" = none
  tuple : mg "tuple" = none
  len : mg "len" = none
  enumerate : mg "enumerate" = none
  range : mg "range" = none
  sorted : mg "sorted" = none
/-! ### is_integer -/
structure spIsInt (K : PySem.W.Frag) (vs : List V) (H : Hp) (Q : VK) (_ : XK) : Prop where
  h : ∃ (v : V) (t : Value) (b1 b2 : Bool), vs = [v] ∧ TyX K H v t ∧ PySem.W.kitOne K t (.type "int") = some b1 ∧ PySem.W.kitOne K t (.type "bool") = some b2 ∧ Q (.bl (b1 && !b2)) H
section
variable {P : Program} {w : World} {K : PySem.W.Frag} {mg : Str → Option Value} {base : Heap}
theorem scIsInt : FnScope ["value"] ["value"] (defScope sIsInt) := ⟨rfl, rfl, rfl, by decide +kernel, rfl, by decide +kernel, by decide +kernel⟩
theorem ok_isInt {f : Addr} {fd : FuncData} (F : Fun K "is_integer" "is_integer" sIsInt f fd) (T : Bt mg) : FnOk P w K mg base CX0 1 f fd ["value"] (spIsInt K) := by
  refine F.ok scIsInt (fun vs H Q E h => ?_) (fun cdv A outer s H vs Q E hr h => ?_)
  · obtain ⟨v, t, b1, b2, rfl, _⟩ := h.h
    rfl
  · obtain ⟨v, t, b1, b2, rfl, ty, k1, k2, k⟩ := h.h
    refine ⟨_, pss_one (ps_ret (pe_and (pe_callB call_isi (by rfl) T.isinstance (by decide +kernel) (pa_cons (pv 0) (pa_cons (pe_bltn (v := .ty "int") (by rfl) T.int (by decide +kernel) rfl) pa_nil)))
      (pe_one (pe_not (pe_callB call_isi (by rfl) T.isinstance (by decide +kernel) (pa_cons (pv 0) (pa_cons (pe_bltn (v := .ty "bool") (by rfl) T.bool (by decide +kernel) rfl) pa_nil))))))), ?_⟩
    refine ⟨_, rfl, _, _, t, _, b1, rfl, .ty "int", ty, k1, b1, rfl, ?_⟩
    cases b1 with
    | false => exact iteF k
    | true => exact iteT ⟨_, rfl, _, _, t, _, b2, rfl, .ty "bool", ty, k2, b2, rfl, k⟩
/-! ### is_drawer_count(value), is_drawer(drawers, value) -/
/-- an int as value: whether it is one; any other known thing: False -/
structure spIsCount (K : PySem.W.Frag) (vs : List V) (H : Hp) (Q : VK) (_ : XK) : Prop where
  h : (∃ n : Int, vs = [.int n] ∧ Q (.bl (decide (1 ≤ n) && decide (n ≤ 7))) H) ∨
  ∃ (v : V) (t : Value) (b1 b2 : Bool), vs = [v] ∧ TyX K H v t ∧ PySem.W.kitOne K t (.type "int") = some b1 ∧ PySem.W.kitOne K t (.type "bool") = some b2 ∧ (b1 && !b2) = false ∧ Q (.bl false) H
theorem scIsCount : FnScope ["value"] ["value"] (defScope sIsCount) := ⟨rfl, rfl, rfl, by decide +kernel, rfl, by decide +kernel, by decide +kernel⟩
theorem ok_isCount {f f1 : Addr} {fd fd1 : FuncData} (F : Fun K "is_drawer_count" "is_drawer_count" sIsCount f fd) (_T : Bt mg) (G : FnOk P w K mg base CX0 1 f1 fd1 ["value"] (spIsInt K)) (g1 : mg "is_integer" = some (.ref f1)) (k1 : PySem.W.keepIn K (.ref f1) = true) (b1 : Binds K fd1 ["value"] [])
    (gM : ∃ t, mg "MOST_DRAWERS" = some (.int 7 t)) : FnOk P w K mg base CX0 2 f fd ["value"] (spIsCount K) := by
  refine F.ok scIsCount (fun vs H Q E h => ?_) (fun cdv A outer s H vs Q E hr h => ?_)
  · rcases h.h with ⟨n, rfl, _⟩ | ⟨v, t, b1, b2, rfl, _⟩ <;> rfl
  · obtain ⟨tM, gM⟩ := gM
    refine ⟨_, pss_one (ps_ret (pe_and (pe_call G (hr.mono (by decide)) rfl g1 k1 b1 .nil pass0 (pa_cons (pv 0) pa_nil)) (pe_one (pe_chain op_le op_le pe_int (pv 0) (pe_glob (v := .int 7) rfl gM ⟨_, rfl⟩))))), ?_⟩
    rcases h.h with ⟨n, rfl, k⟩ | ⟨v, t, c1, c2, rfl, ty, e1, e2, e3, k⟩
    · refine ⟨_, rfl, ⟨.int n, .type "int", true, false, rfl, .base (.int n), kit_ty (by decide +kernel), kit_ty (by decide +kernel), true, rfl, iteT ?_⟩⟩
      refine ⟨_, rfl, _, _, rfl, rfl, _, rfl, ?_⟩
      by_cases h1 : 1 ≤ n
      · rw [decide_eq_true h1] at k ⊢
        exact iteT ⟨_, _, rfl, rfl, k⟩
      · rw [decide_eq_false h1] at k ⊢
        exact iteF k
    · refine ⟨_, rfl, ⟨v, t, c1, c2, rfl, ty, e1, e2, _, rfl, ?_⟩⟩
      rw [e3]
      exact iteF k
structure spIsDrawer (K : PySem.W.Frag) (vs : List V) (H : Hp) (Q : VK) (_ : XK) : Prop where
  h : ∃ n : Int, (∃ i : Int, vs = [.int n, .int i] ∧ Q (.bl (decide (0 ≤ i) && decide (i < n))) H) ∨
  ∃ (v : V) (t : Value) (b1 b2 : Bool), vs = [.int n, v] ∧ TyX K H v t ∧ PySem.W.kitOne K t (.type "int") = some b1 ∧ PySem.W.kitOne K t (.type "bool") = some b2 ∧ (b1 && !b2) = false ∧ Q (.bl false) H
theorem scIsDrawer : FnScope ["drawers", "value"] ["drawers", "value"] (defScope sIsDrawer) := ⟨rfl, rfl, rfl, by decide +kernel, rfl, by decide +kernel, by decide +kernel⟩
theorem ok_isDrawer {f f1 : Addr} {fd fd1 : FuncData} (F : Fun K "is_drawer" "is_drawer" sIsDrawer f fd) (_T : Bt mg) (G : FnOk P w K mg base CX0 1 f1 fd1 ["value"] (spIsInt K)) (g1 : mg "is_integer" = some (.ref f1)) (k1 : PySem.W.keepIn K (.ref f1) = true) (b1 : Binds K fd1 ["value"] []) :
    FnOk P w K mg base CX0 2 f fd ["drawers", "value"] (spIsDrawer K) := by
  refine F.ok scIsDrawer (fun vs H Q E h => ?_) (fun cdv A outer s H vs Q E hr h => ?_)
  · rcases h.h with ⟨n, ⟨i, rfl, _⟩ | ⟨v, t, b1, b2, rfl, _⟩⟩ <;> rfl
  · refine ⟨_, pss_one (ps_ret (pe_and (pe_call G (hr.mono (by decide)) rfl g1 k1 b1 .nil pass0 (pa_cons (pv 1) pa_nil)) (pe_one (pe_chain op_le op_lt pe_int (pv 1) (pv 0))))), ?_⟩
    rcases h.h with ⟨n, ⟨i, rfl, k⟩ | ⟨v, t, c1, c2, rfl, ty, e1, e2, e3, k⟩⟩
    · refine ⟨_, rfl, ⟨.int i, .type "int", true, false, rfl, .base (.int i), kit_ty (by decide +kernel), kit_ty (by decide +kernel), true, rfl, iteT ?_⟩⟩
      refine ⟨_, rfl, _, _, rfl, rfl, _, rfl, ?_⟩
      by_cases h1 : 0 ≤ i
      · rw [decide_eq_true h1] at k ⊢
        exact iteT ⟨_, rfl, _, _, rfl, rfl, k⟩
      · rw [decide_eq_false h1] at k ⊢
        exact iteF k
    · refine ⟨_, rfl, ⟨v, t, c1, c2, rfl, ty, e1, e2, _, rfl, ?_⟩⟩
      rw [e3]
      exact iteF k
end
end DL

set_option Elab.async false
set_option maxRecDepth 100000
namespace DL
open PySem L2
/-! ### is_bar -/
def scV : V → Bool
  | .non => true | .bl _ => true | .int _ => true | .str _ => true | _ => false
def isD (n : Int) : V → Bool
  | .int i => decide (0 ≤ i) && decide (i < n)
  | _ => false
def inW : V → Bool
  | .str z => decide (z = "open") || decide (z = "shut")
  | _ => false
def barB (n : Int) (x0 x1 x2 x3 : V) : Bool := isD n x0 && (isD n x2 && (!decide (x0 = x2) && (inW x1 && inW x3)))
theorem inW_in (x : V) (h : scV x = true) : inV x [.str "open", .str "shut"] = inW x ∧ flatV x = true := by
  have z1 : ∀ z : Str, ((("open" : Str) == z) || ((("shut" : Str) == z) || false)) = (decide (z = "open") || decide (z = "shut")) := fun z => by
    rw [beq_dec, beq_dec, Bool.or_false]
    congr 1
    · exact decide_eq_decide.mpr ⟨Eq.symm, Eq.symm⟩
    · exact decide_eq_decide.mpr ⟨Eq.symm, Eq.symm⟩
  cases x with
  | str z => exact ⟨z1 z, rfl⟩
  | non => exact ⟨rfl, rfl⟩
  | bl b => exact ⟨rfl, rfl⟩
  | int i => exact ⟨rfl, rfl⟩
  | _ => cases h
theorem spIsDrawer_sc {K : PySem.W.Frag} {n : Int} {x : V} {H : Hp} {Q : VK} {E : XK} (hx : scV x = true) (k : Q (.bl (isD n x)) H) : spIsDrawer K [.int n, x] H Q E := by
  cases x with
  | int i => exact ⟨⟨n, .inl ⟨i, rfl, k⟩⟩⟩
  | non => exact ⟨⟨n, .inr ⟨.non, .type "NoneType", false, false, rfl, .base .non, kit_ty (by decide +kernel), kit_ty (by decide +kernel), rfl, k⟩⟩⟩
  | bl b => exact ⟨⟨n, .inr ⟨.bl b, .type "bool", true, true, rfl, .base (.bl b), kit_ty (by decide +kernel), kit_ty (by decide +kernel), rfl, k⟩⟩⟩
  | str z => exact ⟨⟨n, .inr ⟨.str z, .type "str", false, false, rfl, .base (.str z), kit_ty (by decide +kernel), kit_ty (by decide +kernel), rfl, k⟩⟩⟩
  | _ => cases hx
theorem tyT {K : PySem.W.Frag} {H : Hp} {a : Addr} {xs : List V} (h : SqT K H a xs) : TyX K H (.ref a) (.type "tuple") := by
  rcases h with (h | ⟨o, h⟩) | ⟨o, its, n, h1, h2, _⟩
  · exact .base (.tup h)
  · exact .fTuple h
  · exact .kTuple h1 h2
structure spIsBar (K : PySem.W.Frag) (vs : List V) (H : Hp) (Q : VK) (_ : XK) : Prop where
  h : ∃ n : Int, (∃ (v : V) (t : Value), vs = [.int n, v] ∧ TyX K H v t ∧ PySem.W.kitOne K t (.type "tuple") = some false ∧ Q (.bl false) H) ∨
  (∃ (a : Addr) (xs : List V), vs = [.int n, .ref a] ∧ SqT K H a xs ∧ xs.length ≠ 4 ∧ Q (.bl false) H) ∨
  ∃ (a : Addr) (x0 x1 x2 x3 : V), vs = [.int n, .ref a] ∧ SqT K H a [x0, x1, x2, x3] ∧ scV x0 = true ∧ scV x1 = true ∧ scV x2 = true ∧ scV x3 = true ∧ Q (.bl (barB n x0 x1 x2 x3)) H
section
variable {P : Program} {w : World} {K : PySem.W.Frag} {mg : Str → Option Value} {base : Heap}
theorem scIsBar : FnScope ["drawers", "value", "drawer", "way", "other", "stand"] ["drawers", "value"] (defScope sIsBar) := ⟨rfl, rfl, rfl, by decide +kernel, rfl, by decide +kernel, by decide +kernel⟩
theorem ok_isBar {f f1 : Addr} {fd fd1 : FuncData} (F : Fun K "is_bar" "is_bar" sIsBar f fd) (T : Bt mg) (G : FnOk P w K mg base CX0 2 f1 fd1 ["drawers", "value"] (spIsDrawer K)) (g1 : mg "is_drawer" = some (.ref f1)) (k1 : PySem.W.keepIn K (.ref f1) = true) (b1 : Binds K fd1 ["drawers", "value"] [])
    (gW : ∃ aW, mg "WORDS" = some (.ref aW) ∧ ∀ H, SqT K H aW [.str "open", .str "shut"]) : FnOk P w K mg base CX0 3 f fd ["drawers", "value"] (spIsBar K) := by
  refine F.ok scIsBar (fun vs H Q E h => ?_) (fun cdv A outer s H vs Q E hr h => ?_)
  · rcases h.h with ⟨n, ⟨v, t, rfl, _⟩ | ⟨a, xs, rfl, _⟩ | ⟨a, x0, x1, x2, x3, rfl, _⟩⟩ <;> rfl
  · obtain ⟨aW, gW, hW⟩ := gW
    refine ⟨_, pss_cons (ps_if (PW.pt (pw_or (pt_not (pt_val (pe_callB call_isi (by rfl) T.isinstance (by decide +kernel) (pa_cons (pv 1) (pa_cons (pe_bltn (v := .ty "tuple") (by rfl) T.tuple (by decide +kernel) rfl) pa_nil)))))
        (pw_or1 (pt_cmpR op_ne (pe_callB call_len_seq (by rfl) T.len PySem.boot_len (pa_cons (pv 1) pa_nil)) pe_int (nomark _))))) (pss_one (ps_ret pe_bl)) pss_nil)
      (pss_cons (ps_asg (pv 1) (pg_tup (by rfl) (pgs_cons (pg_name (i := 2) scIsBar.nd rfl (.inl rfl)) (pgs_cons (pg_name (i := 3) scIsBar.nd rfl (.inl rfl)) (pgs_cons (pg_name (i := 4) scIsBar.nd rfl (.inl rfl)) (pgs_cons (pg_name (i := 5) scIsBar.nd rfl (.inl rfl)) pgs_nil))))))
      (pss_cons (ps_if (PW.pt (pw_or (pt_not (pt_val (pe_call G (hr.mono (by decide)) rfl g1 k1 b1 .nil pass0 (pa_cons (pv 0) (pa_cons (pv 2) pa_nil))))) (pw_or1 (pt_not (pt_val (pe_call G (hr.mono (by decide)) rfl g1 k1 b1 .nil pass0 (pa_cons (pv 0) (pa_cons (pv 4) pa_nil)))))))) (pss_one (ps_ret pe_bl)) pss_nil)
      (pss_one (ps_ret (pe_and (pe_cmpR op_ne (pv 2) (pv 4) (nomark _)) (pe_and (pe_cmpR op_in_seq (pv 3) (pe_glob (v := .ref aW) rfl gW rfl) (by rfl)) (pe_one (pe_cmpR op_in_seq (pv 5) (pe_glob (v := .ref aW) rfl gW rfl) (by rfl))))))))), ?_⟩
    rcases h.h with ⟨n, ⟨v, t, rfl, ty, e, k⟩ | ⟨a, xs, rfl, hq, hl, k⟩ | ⟨a, x0, x1, x2, x3, rfl, hq, c0, c1, c2, c3, k⟩⟩
    · exact ⟨_, rfl, _, _, t, _, false, rfl, .ty "tuple", ty, e, _, rfl, iteT (iteT k)⟩
    · refine ⟨_, rfl, _, _, _, _, true, rfl, .ty "tuple", tyT hq, kit_ty (by decide +kernel), _, rfl, iteF ?_⟩
      refine ⟨_, rfl, a, xs, rfl, .inr hq, rfl, _, rfl, ?_⟩
      refine ite2 (fun _ => k) (fun z => ?_)
      exact absurd (show (.int (xs.length : Int) : V) = .int 4 by simpa using z) (fun q => hl (by injection q with q; omega))
    · refine ⟨_, rfl, _, _, _, _, true, rfl, .ty "tuple", tyT hq, kit_ty (by decide +kernel), _, rfl, iteF ?_⟩
      refine ⟨_, rfl, a, _, rfl, .inr hq, rfl, _, rfl, iteF ?_⟩
      refine ⟨_, rfl, a, _, rfl, hq, rfl, x0, _, rfl, x1, _, rfl, x2, _, rfl, x3, _, rfl, rfl, ?_⟩
      refine ⟨_, rfl, _, rfl, ?_⟩
      refine spIsDrawer_sc c0 ⟨_, rfl, ?_⟩
      unfold barB at k
      cases d0 : isD n x0 with
      | false => rw [d0] at k; exact iteT (iteT k)
      | true =>
        rw [d0] at k
        refine iteF ⟨_, rfl, _, rfl, ?_⟩
        refine spIsDrawer_sc c2 ⟨_, rfl, ?_⟩
        cases d2 : isD n x2 with
        | false => rw [d2] at k; exact iteT k
        | true =>
          rw [d2] at k
          refine iteF ?_
          obtain ⟨i0, rfl⟩ : ∃ i, x0 = .int i := by cases x0 <;> first | exact ⟨_, rfl⟩ | cases d0
          obtain ⟨i2, rfl⟩ : ∃ i, x2 = .int i := by cases x2 <;> first | exact ⟨_, rfl⟩ | cases d2
          refine ⟨_, rfl, _, rfl, rfl, _, rfl, ?_⟩
          have k' : Q (.bl (!decide ((.int i0 : V) = .int i2) && (inW x1 && inW x3))) H := k
          cases e : decide ((.int i0 : V) = .int i2) with
          | true => rw [e] at k'; exact iteF k'
          | false =>
            rw [e] at k'
            refine iteT ⟨_, rfl, aW, _, rfl, .inr (hW H), (inW_in x1 c1).2, rfl, _, rfl, ?_⟩
            show if inV x1 _ = true then _ else _
            rw [(inW_in x1 c1).1]
            have k'' : Q (.bl (inW x1 && inW x3)) H := k'
            cases e1 : inW x1 with
            | false => rw [e1] at k''; exact iteF k''
            | true =>
              rw [e1] at k''
              refine iteT ⟨_, rfl, aW, _, rfl, .inr (hW H), (inW_in x3 c3).2, rfl, ?_⟩
              show Q (.bl (inV x3 _)) H
              rw [(inW_in x3 c3).1]
              exact k''
end
end DL

set_option Elab.async false
set_option maxRecDepth 100000
namespace DL
open PySem L2
/-! ### bars of the heap -/
structure BarsAt (H : Hp) (t : Addr) (ks : List (Addr × Bar)) : Prop where
  tu : H t = some (.tup (ks.map fun k => V.ref k.1))
  el : ∀ k ∈ ks, H k.1 = some (.tup k.2.vs)
theorem BarsAt.same {H H' : Hp} {t : Addr} {ks : List (Addr × Bar)} (B : BarsAt H t ks) (s : Same H H') : BarsAt H' t ks := ⟨s _ _ B.tu, fun k hk => s _ _ (B.el k hk)⟩
def Bar.ok (n : Int) (b : Bar) : Prop := 0 ≤ b.d ∧ b.d < n ∧ 0 ≤ b.o ∧ b.o < n ∧ b.d ≠ b.o
theorem Bar.ok.low {n : Int} {b : Bar} (h : b.ok n) (hn : n ≤ 7) : b.low := by
  obtain ⟨h1, h2, h3, h4, _⟩ := h
  exact ⟨h1, by omega, h3, by omega⟩
structure OkBars (n : Int) (bs : List Bar) : Prop where
  ok : ∀ b ∈ bs, b.ok n
  asc : bs.Pairwise fun x y => x.code < y.code
theorem inW_wd (b : Bool) : inW (.str (wd b)) = true := by revert b; decide +kernel
theorem barB_ok {n : Int} {b : Bar} (h : b.ok n) : barB n (.int b.d) (.str (wd b.w)) (.int b.o) (.str (wd b.t)) = true := by
  obtain ⟨h1, h2, h3, h4, h5⟩ := h
  unfold barB
  rw [inW_wd, inW_wd]
  show ((decide (0 ≤ b.d) && decide (b.d < n)) && ((decide (0 ≤ b.o) && decide (b.o < n)) && (!decide ((.int b.d : V) = .int b.o) && true))) = true
  have e : decide ((.int b.d : V) = .int b.o) = false := decide_eq_false fun q => h5 (by injection q)
  rw [decide_eq_true h1, decide_eq_true h2, decide_eq_true h3, decide_eq_true h4, e]
  rfl
theorem spIsBar_ok {K : PySem.W.Frag} {n : Int} {a : Addr} {b : Bar} {H : Hp} {Q : VK} {E : XK} (h : b.ok n) (ha : SqT K H a b.vs) (k : Q (.bl true) H) : spIsBar K [.int n, .ref a] H Q E :=
  ⟨⟨n, .inr (.inr ⟨a, _, _, _, _, rfl, ha, rfl, rfl, rfl, rfl, by rw [barB_ok h]; exact k⟩)⟩⟩
theorem SqT.of' {K : PySem.W.Frag} {H : Hp} {a : Addr} {xs : List V} (h : H a = some (.tup xs)) : SqT K H a xs := .inl (.inl h)
theorem same_upd {H : Hp} {p : Addr} {o : HO} (h : H p = none) : Same H (upd H p o) := fun b u e => by rw [upd_ne (ne_of_none e h)]; exact e
theorem at_prev {α : Type} {xs : List α} {i : Nat} {v : α} (h0 : 0 < i) (h : xs[i - 1]? = some v) : atI xs ((i : Int) - 1) = some v := by
  have e : (i : Int) - 1 = ((i - 1 : Nat) : Int) := by omega
  rw [e]
  exact atI_nat h
theorem pw_prev {bs : List Bar} (h : bs.Pairwise fun x y => x.code < y.code) {i : Nat} (h0 : 0 < i) {x y : Bar} (hx : bs[i - 1]? = some x) (hy : bs[i]? = some y) : x.code < y.code := by
  obtain ⟨l1, e1⟩ := List.getElem?_eq_some_iff.mp hx
  obtain ⟨l2, e2⟩ := List.getElem?_eq_some_iff.mp hy
  have := List.pairwise_iff_getElem.mp h (i - 1) i l1 l2 (by omega)
  rw [e1, e2] at this
  exact this
theorem not_leq {n : Int} {x y : Bar} (hn : n ≤ 7) (hx : x.ok n) (hy : y.ok n) (h : x.code < y.code) : y.leq x = false := by
  rw [Bar.leq_code (hy.low hn) (hx.low hn)]
  exact decide_eq_false (by omega)
/-! ### check_drawers, check_bars, __init__ of what is right -/
structure spCheckDrawers (vs : List V) (H : Hp) (Q : VK) (_ : XK) : Prop where
  h : ∃ n : Int, vs = [.int n] ∧ 1 ≤ n ∧ n ≤ 7 ∧ Q .non H
structure spCheckBars (vs : List V) (H : Hp) (Q : VK) (_ : XK) : Prop where
  h : ∃ (n : Int) (t : Addr) (ks : List (Addr × Bar)), vs = [.int n, .ref t] ∧ n ≤ 7 ∧ BarsAt H t ks ∧ OkBars n (ks.map (·.2)) ∧ ∀ H', Same H H' → Q .non H'
def cfl (n : Int) (t : Addr) : List (Str × V) := putF "_bars" (.ref t) (putF "_drawers" (.int n) [])
/-- a Cabinet stands at c -/
def CabAt (C : Addr) (H : Hp) (c : Addr) (n : Int) (t : Addr) : Prop := ∃ dx, H c = some (.ins C dx (cfl n t))
structure spInit (C : Addr) (vs : List V) (H : Hp) (Q : VK) (_ : XK) : Prop where
  h : ∃ (p dx : Addr) (n : Int) (t : Addr) (ks : List (Addr × Bar)), vs = [.ref p, .int n, .ref t] ∧ H p = some (.ins C dx []) ∧ 1 ≤ n ∧ n ≤ 7 ∧ BarsAt H t ks ∧ OkBars n (ks.map (·.2)) ∧
    ∀ H', H' p = some (.ins C dx (cfl n t)) → (∀ b o, b ≠ p → H b = some o → H' b = some o) → Q .non H'
/-- the class -/
structure CabT (K : PySem.W.Frag) (mg : Str → Option Value) (C : Addr) : Prop where
  cl : Cls K C
  nD : NoAttr K C "_drawers"
  nB : NoAttr K C "_bars"
  mgC : mg "Cabinet" = some (.ref C)
section
variable {P : Program} {w : World} {K : PySem.W.Frag} {mg : Str → Option Value} {base : Heap}
theorem scCheckDrawers : FnScope ["drawers"] ["drawers"] (defScope sCheckDrawers) := ⟨rfl, rfl, rfl, by decide +kernel, rfl, by decide +kernel, by decide +kernel⟩
theorem ok_checkDrawers {f f1 : Addr} {fd fd1 : FuncData} (F : Fun K "check_drawers" "check_drawers" sCheckDrawers f fd) (G : FnOk P w K mg base CX0 2 f1 fd1 ["value"] (spIsCount K)) (g1 : mg "is_drawer_count" = some (.ref f1)) (k1 : PySem.W.keepIn K (.ref f1) = true) (b1 : Binds K fd1 ["value"] []) :
    FnOk P w K mg base CX0 3 f fd ["drawers"] spCheckDrawers := by
  refine F.ok scCheckDrawers (fun vs H Q E h => ?_) (fun cdv A outer s H vs Q E hr h => ?_)
  · obtain ⟨n, rfl, _⟩ := h.h
    rfl
  · obtain ⟨n, rfl, h1, h2, k⟩ := h.h
    refine ⟨_, pss_one (ps_if (pt_not (pt_val (pe_call G (hr.mono (by decide)) rfl g1 k1 b1 .nil pass0 (pa_cons (pv 0) pa_nil)))) (pss_one ps_never) pss_nil), ?_⟩
    refine ⟨_, rfl, ⟨.inl ⟨n, rfl, _, rfl, ?_⟩⟩⟩
    rw [decide_eq_true h1, decide_eq_true h2]
    exact iteF k
theorem scCheckBars : FnScope ["drawers", "bars", "index", "bar"] ["drawers", "bars"] (defScope sCheckBars) := ⟨rfl, rfl, rfl, by decide +kernel, rfl, by decide +kernel, by decide +kernel⟩
theorem ok_checkBars {f f1 : Addr} {fd fd1 : FuncData} (F : Fun K "check_bars" "check_bars" sCheckBars f fd) (T : Bt mg) (G : FnOk P w K mg base CX0 3 f1 fd1 ["drawers", "value"] (spIsBar K)) (g1 : mg "is_bar" = some (.ref f1)) (k1 : PySem.W.keepIn K (.ref f1) = true) (b1 : Binds K fd1 ["drawers", "value"] []) :
    FnOk P w K mg base CX0 4 f fd ["drawers", "bars"] spCheckBars := by
  refine F.ok scCheckBars (fun vs H Q E h => ?_) (fun cdv A outer s H vs Q E hr h => ?_)
  · obtain ⟨n, t, ks, rfl, _⟩ := h.h
    rfl
  · obtain ⟨n, t, ks, rfl, hn, B, O, k⟩ := h.h
    have hu : _ < cLine := hr.units0
    refine ⟨_, pss_cons (ps_if (pt_not (pt_val (pe_callB call_isi (by rfl) T.isinstance (by decide +kernel) (pa_cons (pv 1) (pa_cons (pe_bltn (v := .ty "tuple") (by rfl) T.tuple (by decide +kernel) rfl) pa_nil))))) (pss_one ps_never) pss_nil)
      (pss_one (ps_for PassesOwn.never rfl (pi_enumT (by rfl) T.enumerate (pa_cons (pv 1) pa_nil)) (pg_tup (by rfl) (pgs_cons (pg_name (i := 2) scCheckBars.nd rfl (.inl rfl)) (pgs_cons (pg_name (i := 3) scCheckBars.nd rfl (.inl rfl)) pgs_nil)))
        (pss_cons (ps_if (pt_not (pt_val (pe_call G (hr.mono (by decide)) rfl g1 k1 b1 .nil pass0 (pa_cons (pv 0) (pa_cons (pv 3) pa_nil))))) (pss_one ps_never) pss_nil)
        (pss_one (ps_if (PW.pt (pw_and (pt_cmpR op_gt (pv 2) pe_int (nomark _)) (pw_and1 (pt_cmpR (op_leB hu) (pv 3) (pe_ix ix_tup (pv 1) (pe_op op_sub (pv 2) pe_int) (fun _ _ => rfl)) (nomark _))))) (pss_one ps_never) pss_nil))))), ?_⟩
    refine ⟨_, rfl, _, _, _, _, true, rfl, .ty "tuple", tyT (SqT.of' B.tu), kit_ty (by decide +kernel), _, rfl, iteF ?_⟩
    refine ⟨_, rfl, t, _, rfl, SqT.of' B.tu, ?_⟩
    refine for_it walk_enumT (fun i σ H' => ∃ v2 v3, σ = [some (.int n), some (.ref t), v2, v3] ∧ Same H H') ⟨_, _, rfl, Same.refl H⟩ (fun i σ H' _ ⟨_, _, _, s1⟩ => SqT.of' (s1 _ _ B.tu)) ?_ ?_
    · rintro i x σ H1 H2 hi ⟨v2, v3, rfl, s1⟩ ⟨T, x1, x2, rfl, hT, rfl, e1, e2⟩
      have e1' : V.int (i : Nat) = x1 := Option.some.inj e1
      subst e1'
      have e2 : (ks.map fun k => V.ref k.1)[i]? = some x2 := e2
      rw [List.getElem?_map] at e2
      cases ek : ks[i]? with
      | none => rw [ek] at e2; cases e2
      | some kk =>
        rw [ek] at e2
        have e2' : V.ref kk.1 = x2 := Option.some.inj e2
        subst e2'
        have s2 : Same H (upd H1 T (.tup [.int (i : Nat), .ref kk.1])) := s1.trans (same_upd hT)
        have hm : kk ∈ ks := List.mem_of_getElem? ek
        have hok : kk.2.ok n := O.ok _ (List.mem_map.mpr ⟨kk, hm, rfl⟩)
        refine ⟨T, _, rfl, SqT.of' upd_same, rfl, _, _, rfl, _, _, rfl, rfl, ?_⟩
        refine ⟨_, rfl, _, rfl, spIsBar_ok hok (SqT.of' (s2 _ _ (B.el kk hm))) ⟨_, rfl, iteF ?_⟩⟩
        refine ⟨_, rfl, _, _, rfl, rfl, _, rfl, ?_⟩
        refine ite2 (fun z => ?_) (fun z => iteF ⟨_, _, rfl, s2⟩)
        have h0 : 0 < i := by have := of_decide_eq_true z; omega
        obtain ⟨kp, ep⟩ : ∃ kp, ks[i - 1]? = some kp := by
          have := (List.getElem?_eq_some_iff.mp ek).1
          exact ⟨ks[i - 1]'(by omega), List.getElem?_eq_getElem (by omega)⟩
        have hmp : kp ∈ ks := List.mem_of_getElem? ep
        have hokp : kp.2.ok n := O.ok _ (List.mem_map.mpr ⟨kp, hmp, rfl⟩)
        refine ⟨_, rfl, _, rfl, _, rfl, _, _, rfl, rfl, t, _, _, .ref kp.1, rfl, rfl, SqT.of' (s2 _ _ B.tu), at_prev h0 (by rw [List.getElem?_map, ep]; rfl), ?_⟩
        refine ⟨kk.1, kp.1, kk.2, kp.2, rfl, rfl, SqT.of' (s2 _ _ (B.el kk hm)), SqT.of' (s2 _ _ (B.el kp hmp)), _, rfl, ?_⟩
        have hlt : kp.2.code < kk.2.code := pw_prev O.asc h0 (by rw [List.getElem?_map, ep]; rfl) (by rw [List.getElem?_map, ek]; rfl)
        rw [not_leq hn hokp hok hlt]
        exact iteF ⟨_, _, rfl, s2⟩
    · rintro σ H' ⟨v2, v3, rfl, s1⟩
      exact k H' s1
theorem scInit : FnScope ["self", "drawers", "bars"] ["self", "drawers", "bars"] (defScope sInit) := ⟨rfl, rfl, rfl, by decide +kernel, rfl, by decide +kernel, by decide +kernel⟩
theorem ok_init {f f1 f2 C : Addr} {fd fd1 fd2 : FuncData} (F : Fun K "__init__" "Cabinet.__init__" sInit f fd) (T : CabT K mg C) (G1 : FnOk P w K mg base CX0 3 f1 fd1 ["drawers"] spCheckDrawers) (g1 : mg "check_drawers" = some (.ref f1)) (k1 : PySem.W.keepIn K (.ref f1) = true) (b1 : Binds K fd1 ["drawers"] [])
    (G2 : FnOk P w K mg base CX0 4 f2 fd2 ["drawers", "bars"] spCheckBars) (g2 : mg "check_bars" = some (.ref f2)) (k2 : PySem.W.keepIn K (.ref f2) = true) (b2 : Binds K fd2 ["drawers", "bars"] []) : FnOk P w K mg base CX0 5 f fd ["self", "drawers", "bars"] (spInit C) := by
  refine F.ok scInit (fun vs H Q E h => ?_) (fun cdv A outer s H vs Q E hr h => ?_)
  · obtain ⟨p, dx, n, t, ks, rfl, _⟩ := h.h
    rfl
  · obtain ⟨p, dx, n, t, ks, rfl, hp, h1, h7, B, O, k⟩ := h.h
    refine ⟨_, pss_cons (ps_expr (pe_call G1 (hr.mono (by decide)) rfl g1 k1 b1 .nil pass0 (pa_cons (pv 1) pa_nil))) (pss_cons (ps_expr (pe_call G2 (hr.mono (by decide)) rfl g2 k2 b2 .nil pass0 (pa_cons (pv 1) (pa_cons (pv 2) pa_nil))))
      (pss_cons (ps_fld (pv 0) (pv 1) rfl) (pss_one (ps_fld (pv 0) (pv 2) rfl)))), ?_⟩
    refine ⟨_, rfl, ⟨n, rfl, h1, h7, ?_⟩⟩
    refine ⟨_, rfl, _, rfl, ⟨n, t, ks, rfl, h7, B, O, fun H1 s1 => ?_⟩⟩
    refine ⟨_, rfl, _, rfl, p, C, dx, _, rfl, s1 _ _ hp, T.cl, T.nD, (by show 0 < 1000; decide), _, rfl, _, rfl, p, C, dx, _, rfl, upd_same, T.cl, T.nB, (by show 1 < 1000; decide), ?_⟩
    refine k _ upd_same fun b o hb e => ?_
    rw [upd_ne hb, upd_ne hb]
    exact s1 _ _ e
end
end DL

set_option Elab.async false
set_option maxRecDepth 100000
set_option maxHeartbeats 1000000

set_option Elab.async false
set_option maxRecDepth 100000
set_option maxHeartbeats 1000000

set_option Elab.async false
set_option maxRecDepth 100000
set_option maxHeartbeats 1000000
namespace DL
open PySem L2
/-! ### the checks with what they raise -/
/-- an own error without its own making -/
structure ErrT (K : PySem.W.Frag) (mg : Str → Option Value) (x : Str) (CB : Addr) : Prop where
  g : mg x = some (.ref CB)
  x : PySem.W.excIn K CB [.type "ValueError", .type "Exception", .type "BaseException", .type "object"] "ValueError.__new__" = true
  k : PySem.W.keepIn K (.ref CB) = true
  b : PySem.W.subIn K (.ref CB) (.type "BaseException") = some true
  t : PySem.W.typeIn K (.ref CB) = some (.type "type")
/-- what is_bar says False of -/
def NoBar (K : PySem.W.Frag) (H : Hp) (n : Int) (v : V) : Prop := (∃ t : Value, TyX K H v t ∧ PySem.W.kitOne K t (.type "tuple") = some false) ∨
  (∃ (a : Addr) (xs : List V), v = .ref a ∧ SqT K H a xs ∧ xs.length ≠ 4) ∨
  ∃ (a : Addr) (x0 x1 x2 x3 : V), v = .ref a ∧ SqT K H a [x0, x1, x2, x3] ∧ scV x0 = true ∧ scV x1 = true ∧ scV x2 = true ∧ scV x3 = true ∧ barB n x0 x1 x2 x3 = false
theorem NoBar.sp {K : PySem.W.Frag} {H : Hp} {n : Int} {v : V} {Q : VK} {E : XK} (h : NoBar K H n v) (k : Q (.bl false) H) : spIsBar K [.int n, v] H Q E := by
  rcases h with ⟨t, h1, h2⟩ | ⟨a, xs, rfl, h1, h2⟩ | ⟨a, x0, x1, x2, x3, rfl, h1, c0, c1, c2, c3, h2⟩
  · exact ⟨⟨n, .inl ⟨v, t, rfl, h1, h2, k⟩⟩⟩
  · exact ⟨⟨n, .inr (.inl ⟨a, xs, rfl, h1, h2, k⟩)⟩⟩
  · exact ⟨⟨n, .inr (.inr ⟨a, x0, x1, x2, x3, rfl, h1, c0, c1, c2, c3, by rw [h2]; exact k⟩)⟩⟩
end DL

set_option Elab.async false
set_option maxRecDepth 100000
namespace DL
open PySem L2
/-! ### drawing: the row of draws stands at r, the script at sc -/
def But (r : Addr) (H H' : Hp) : Prop := ∀ b o, b ≠ r → H b = some o → H' b = some o
theorem But.refl (r : Addr) (H : Hp) : But r H H := fun _ _ _ h => h
theorem But.trans {r : Addr} {H H1 H2 : Hp} (a : But r H H1) (b : But r H1 H2) : But r H H2 := fun c o hc h => b c o hc (a c o hc h)
theorem sbut {r : Addr} {H H' : Hp} (s : Same H H') : But r H H' := fun c o _ h => s c o h
theorem but_upd {r : Addr} {H : Hp} {o : HO} : But r H (upd H r o) := fun c u hc h => by rw [upd_ne hc]; exact h
theorem But.seq {K : PySem.W.Frag} {r : Addr} {H H' : Hp} {a : Addr} {xs : List V} (s : But r H H') (ha : a ≠ r) (h : SqL K H a xs) : SqL K H' a xs := by
  rcases h with (h | ⟨o, h⟩) | h
  · exact .inl (.inl (s _ _ ha h))
  · exact .inl (.inr ⟨o, s _ _ ha h⟩)
  · exact .inr h
theorem But.tup {r : Addr} {H H' : Hp} {a : Addr} {xs : List V} {ys : List V} (s : But r H H') (hr : H r = some (.lst ys)) (h : H a = some (.tup xs)) : H' a = some (.tup xs) :=
  s _ _ (ne_of h hr (by intro z; cases z)) h
structure RowOk (H : Hp) (r sc : Addr) : Prop where
  h : ∃ i m e : Int, H r = some (.lst [.ref sc, .int i, .int m, .int e]) ∧ 0 ≤ i ∧ 0 ≤ m ∧ m < 2147483647 ∧ 0 ≤ e
theorem RowOk.same {H H' : Hp} {r sc : Addr} (R : RowOk H r sc) (s : Same H H') : RowOk H' r sc := by
  obtain ⟨i, m, e, h, q⟩ := R.h
  exact ⟨⟨i, m, e, s _ _ h, q⟩⟩
theorem But.seqR {K : PySem.W.Frag} {r sc : Addr} {H H' : Hp} {a : Addr} {ns : List Int} (s : But r H H') (R : RowOk H r sc) (h : SqL K H a (ns.map V.int)) : SqL K H' a (ns.map V.int) := by
  obtain ⟨i, m, e, hR, _⟩ := R.h
  have nd : ∀ u : HO, H a = some u → u ≠ .lst [.ref sc, .int i, .int m, .int e] → a ≠ r := fun u hu hn z => by
    rw [z, hR] at hu
    exact hn (Option.some.inj hu).symm
  rcases h with (h | ⟨o, h⟩) | h
  · refine .inl (.inl (s _ _ (nd _ h fun z => ?_) h))
    injection z with z
    cases ns with
    | nil => cases z
    | cons n ns => injection z with z _; cases z
  · exact .inl (.inr ⟨o, s _ _ (nd _ h fun z => by cases z) h⟩)
  · exact .inr h
structure spTaken (K : PySem.W.Frag) (vs : List V) (H : Hp) (Q : VK) (_ : XK) : Prop where
  h : ∃ (r sc : Addr) (ns : List Int) (many : Int), vs = [.ref r, .int many] ∧ RowOk H r sc ∧ SqL K H sc (ns.map V.int) ∧ 1 ≤ many ∧ many ≤ 1000 ∧
    ∀ (v : Int) (H' : Hp), 0 ≤ v → v < many → RowOk H' r sc → But r H H' → Q (.int v) H'
section
variable {P : Program} {w : World} {K : PySem.W.Frag} {mg : Str → Option Value} {base : Heap}
theorem scTaken : FnScope ["_law_row", "_law_many", "_law_found", "_law_cell"] ["_law_row", "_law_many"] (defScope sTaken) := ⟨rfl, rfl, rfl, by decide +kernel, rfl, by decide +kernel, by decide +kernel⟩
theorem ok_taken {f : Addr} {fd : FuncData} (F : Fun K "_law_taken" "_law_taken" sTaken f fd) (T : Bt mg) : FnOk P w K mg base CX0 1 f fd ["_law_row", "_law_many"] (spTaken K) := by
  refine F.ok scTaken (fun vs H Q E h => ?_) (fun cdv A outer s H vs Q E hr h => ?_)
  · obtain ⟨r, sc, ns, many, rfl, _⟩ := h.h
    rfl
  · obtain ⟨r, sc, ns, many, rfl, R, S, h1, h2, k⟩ := h.h
    obtain ⟨i, m, e, hR, hi, hm0, hm, he⟩ := R.h
    have dv : CDivW e many := wide_div (b := 10) (by omega) (by omega) (by decide) (by decide)
    refine ⟨_, pss_cons (ps_if (pt_cmpR op_gt (pe_ix ix_list (pv 0) pe_int (fun _ _ => rfl)) pe_int (nomark _))
        (pss_cons (ps_set (i := 2) scTaken.nd rfl (.inl rfl) (pe_op op_mod (pe_callTy call_int1 (by rfl) T.int (by decide +kernel) (pa_cons (pe_ix ix_list (pv 0) pe_int (fun _ _ => rfl)) pa_nil)) (pv 1)))
        (pss_cons (ps_asg (pe_op op_fdivW (pe_ix ix_list (pv 0) pe_int (fun _ _ => rfl)) (pv 1)) (pg_sub (pv 0) pe_int set_list))
        (pss_one (ps_ret (pv 2))))) pss_nil)
      (pss_cons (ps_asg (pe_op op_add (pe_ix ix_list (pv 0) pe_int (fun _ _ => rfl)) pe_int) (pg_sub (pv 0) pe_int set_list))
      (pss_cons (ps_if (pt_cmpR op_gt (pe_ix ix_list (pv 0) pe_int (fun _ _ => rfl)) (pe_callB call_len_seq (by rfl) T.len PySem.boot_len (pa_cons (pe_ix ix_list (pv 0) pe_int (fun _ _ => rfl)) pa_nil)) (nomark _))
        (pss_cons (ps_asg (pe_op op_mod (pe_callTy call_int1 (by rfl) T.int (by decide +kernel) (pa_cons (pe_op op_add (pe_op op_mul (pe_ix ix_list (pv 0) pe_int (fun _ _ => rfl)) pe_int) pe_int) pa_nil)) pe_int) (pg_sub (pv 0) pe_int set_list))
        (pss_one (ps_ret (pe_op op_mod (pe_callTy call_int1 (by rfl) T.int (by decide +kernel) (pa_cons (pe_op op_fdiv (pe_ix ix_list (pv 0) pe_int (fun _ _ => rfl)) pe_int) pa_nil)) (pv 1))))) pss_nil)
      (pss_cons (ps_set (i := 3) scTaken.nd rfl (.inl rfl) (pe_ix ix_list (pe_ix ix_list (pv 0) pe_int (fun _ _ => rfl)) (pe_op op_sub (pe_ix ix_list (pv 0) pe_int (fun _ _ => rfl)) pe_int) (fun _ _ => rfl)))
      (pss_cons (ps_asg (pe_op op_mod (pe_callTy call_int1 (by rfl) T.int (by decide +kernel) (pa_cons (pe_op op_add (pe_op op_add (pe_op op_mul (pe_ix ix_list (pv 0) pe_int (fun _ _ => rfl)) pe_int) (pv 3)) pe_int) pa_nil)) pe_int) (pg_sub (pv 0) pe_int set_list))
      (pss_cons (ps_if (pt_cmpR op_ge (pv 3) (pe_op op_pow pe_int pe_int) (nomark _)) (pss_one (ps_asg (pe_op op_fdivW (pv 3) (pv 1)) (pg_sub (pv 0) pe_int set_list))) pss_nil)
      (pss_one (ps_ret (pe_op op_mod (pe_callTy call_int1 (by rfl) T.int (by decide +kernel) (pa_cons (pv 3) pa_nil)) (pv 1))))))))), ?_⟩
    refine ⟨_, rfl, r, _, _, .int e, rfl, rfl, SqL.of hR, rfl, _, _, rfl, rfl, _, rfl, ?_⟩
    refine ite2 (fun z => ?_) (fun _ => ?_)
    · refine ⟨_, rfl, r, _, _, .int e, rfl, rfl, SqL.of hR, rfl, .inl ⟨_, rfl, _, rfl, _, _, rfl, rfl, (by omega), ?_⟩⟩
      refine ⟨_, rfl, r, _, _, .int e, rfl, rfl, SqL.of hR, rfl, _, rfl, _, _, rfl, rfl, dv, ?_⟩
      refine ⟨_, rfl, r, _, _, 3, rfl, rfl, hR, rfl, _, rfl, ?_⟩
      exact k _ _ (Int.emod_nonneg _ (by omega)) (Int.emod_lt_of_pos _ (by omega)) ⟨⟨i, m, e / many, upd_same, hi, hm0, hm, Int.ediv_nonneg he (by omega)⟩⟩ but_upd
    · refine ⟨_, rfl, r, _, _, .int i, rfl, rfl, SqL.of hR, rfl, _, _, rfl, rfl, ?_⟩
      refine ⟨_, rfl, r, _, _, 1, rfl, rfl, hR, rfl, ?_⟩
      have S1 : SqL K (upd H r (.lst [.ref sc, .int (i + 1), .int m, .int e])) sc (ns.map V.int) := but_upd.seqR R S
      refine ⟨_, rfl, r, _, _, .int (i + 1), rfl, rfl, SqL.of upd_same, rfl, ?_⟩
      refine ⟨_, rfl, r, _, _, .ref sc, rfl, rfl, SqL.of upd_same, rfl, sc, _, rfl, .inl S1, _, _, rfl, rfl, _, rfl, ?_⟩
      refine ite2 (fun z => ?_) (fun z => ?_)
      · refine ⟨_, rfl, r, _, _, .int m, rfl, rfl, SqL.of upd_same, rfl, _, _, rfl, rfl, .inl ⟨by omega, by omega⟩, _, _, rfl, rfl, .inl ⟨_, rfl, _, _, rfl, rfl, (by show (0 : Int) < 2147483647; decide), ?_⟩⟩
        refine ⟨_, rfl, r, _, _, 2, rfl, rfl, upd_same, rfl, ?_⟩
        refine ⟨_, rfl, r, _, _, .int ((m * 48271 + 11) % 2147483647), rfl, rfl, SqL.of upd_same, rfl, _, _, rfl, rfl, ⟨by decide, by decide⟩, .inl ⟨_, rfl, _, rfl, _, _, rfl, rfl, (by omega), ?_⟩⟩
        refine k _ _ (Int.emod_nonneg _ (by omega)) (Int.emod_lt_of_pos _ (by omega)) ⟨⟨i + 1, (m * 48271 + 11) % 2147483647, e, upd_same, by omega, Int.emod_nonneg _ (by decide), Int.emod_lt_of_pos _ (by decide), he⟩⟩ (but_upd.trans but_upd)
      · have hlt : i < ns.length := by
          have := of_decide_eq_false (by simpa using z : decide ((ns.map V.int).length < i + 1) = false)
          rw [List.length_map] at this
          omega
        have hc : ∃ c, ns[i.toNat]? = some c := ⟨ns[i.toNat]'(by omega), List.getElem?_eq_getElem (by omega)⟩
        obtain ⟨c, hc⟩ := hc
        have hat : atI (ns.map V.int) ((i + 1) - 1) = some (.int c) := by
          have e1 : (i + 1) - 1 = ((i.toNat : Nat) : Int) := by omega
          rw [e1]
          exact atI_nat (by rw [List.getElem?_map, hc]; rfl)
        refine ⟨_, rfl, r, _, _, .ref sc, rfl, rfl, SqL.of upd_same, rfl, _, rfl, r, _, _, .int (i + 1), rfl, rfl, SqL.of upd_same, rfl, _, _, rfl, rfl, sc, _, _, .int c, rfl, rfl, S1, hat, ?_⟩
        refine ⟨_, rfl, r, _, _, .int m, rfl, rfl, SqL.of upd_same, rfl, _, _, rfl, rfl, .inl ⟨by omega, by omega⟩, _, rfl, _, _, rfl, rfl, _, _, rfl, rfl, .inl ⟨_, rfl, _, _, rfl, rfl, (by show (0 : Int) < 2147483647; decide), ?_⟩⟩
        refine ⟨_, rfl, r, _, _, 2, rfl, rfl, upd_same, rfl, ?_⟩
        refine ⟨_, rfl, _, _, rfl, rfl, ⟨by decide, by decide, by decide⟩, _, _, rfl, rfl, _, rfl, ?_⟩
        have m1 := Int.emod_nonneg (m * 48271 + c + 11) (show (2147483647 : Int) ≠ 0 by decide)
        have m2 := Int.emod_lt_of_pos (m * 48271 + c + 11) (show (0 : Int) < 2147483647 by decide)
        have v1 := Int.emod_nonneg c (show many ≠ 0 by omega)
        have v2 := Int.emod_lt_of_pos c (show 0 < many by omega)
        refine ite2 (fun z => ?_) (fun _ => ?_)
        · have hc0 : (10 : Int) ^ (18 : Int).toNat ≤ c := of_decide_eq_true z
          have hc1 : 0 ≤ c := by
            have : (0 : Int) ≤ (10 : Int) ^ (18 : Int).toNat := by decide
            omega
          refine ⟨_, rfl, _, rfl, _, _, rfl, rfl, wide_div (b := 10) (by omega) (by omega) (by decide) (by decide), ?_⟩
          refine ⟨_, rfl, r, _, _, 3, rfl, rfl, upd_same, rfl, ?_⟩
          refine ⟨_, rfl, .inl ⟨_, rfl, _, rfl, _, _, rfl, rfl, (by omega), ?_⟩⟩
          exact k _ _ v1 v2 ⟨⟨i + 1, _, c / many, upd_same, by omega, m1, m2, Int.ediv_nonneg hc1 (by omega)⟩⟩ ((but_upd.trans but_upd).trans but_upd)
        · refine ⟨_, rfl, .inl ⟨_, rfl, _, rfl, _, _, rfl, rfl, (by omega), ?_⟩⟩
          exact k _ _ v1 v2 ⟨⟨i + 1, _, e, upd_same, by omega, m1, m2, he⟩⟩ (but_upd.trans but_upd)
end
end DL

set_option Elab.async false
set_option maxRecDepth 100000

set_option Elab.async false
set_option maxRecDepth 100000

set_option Elab.async false
set_option maxRecDepth 100000
namespace DL
open PySem L2 HT TL
/-! ### standings: a truth value a drawer (true: open) -/
def sgn (b : Bool) : Str := if b = true then "s" else "o"
/-- the table of signs -/
structure SgT (K : PySem.W.Frag) (w : World) (mg : Str → Option Value) (aS : Addr) : Prop where
  g : mg "SIGNS" = some (.ref aS)
  o : KDct K w aS "open" (.str "o")
  s : KDct K w aS "shut" (.str "s")
theorem SgT.at {K : PySem.W.Frag} {w : World} {mg : Str → Option Value} {aS : Addr} (T : SgT K w mg aS) (b : Bool) : KDct K w aS (wd b) (.str (sgn b)) := by
  cases b
  · exact T.o
  · exact T.s
end DL

set_option Elab.async false
set_option maxRecDepth 100000
namespace DL
open PySem L2 HT TL
theorem new_at {H : Hp} {a : Addr} {o : HO} (h : H a = none) : Same H (upd H a o) ∧ (upd H a o) a = some o := ⟨same_upd h, upd_same⟩
/-! ### comprehensions that pick, in one word -/
/-! ### walks over the bars of a tuple -/
end DL

set_option Elab.async false
set_option maxRecDepth 100000
namespace DL
open PySem L2 HT TL
structure CabOk (C : Addr) (H : Hp) (c : Addr) (n : Int) (bs : List Bar) : Prop where
  h : ∃ (t : Addr) (ks : List (Addr × Bar)), CabAt C H c n t ∧ BarsAt H t ks ∧ ks.map (·.2) = bs ∧ OkBars n bs ∧ 1 ≤ n ∧ n ≤ 7 ∧ bs.length ≤ 100
theorem CabOk.same {C : Addr} {H H' : Hp} {c : Addr} {n : Int} {bs : List Bar} (B : CabOk C H c n bs) (s : Same H H') : CabOk C H' c n bs := by
  obtain ⟨t, ks, ⟨dx, h1⟩, h2, h3⟩ := B.h
  exact ⟨⟨t, ks, ⟨dx, s _ _ h1⟩, h2.same s, h3⟩⟩
end DL

set_option Elab.async false
set_option maxRecDepth 100000
namespace DL
open PySem L2 HT TL
/-- a drawn cabinet's parts: the list at p -/
structure DrOk (H : Hp) (p : Addr) (n : Int) (bs : List Bar) : Prop where
  h : ∃ (t : Addr) (ks : List (Addr × Bar)) (zs : List V), H p = some (.lst (.int n :: .ref t :: zs)) ∧ BarsAt H t ks ∧ ks.map (·.2) = bs ∧ OkBars n bs ∧ 1 ≤ n ∧ n ≤ 7 ∧ bs.length ≤ 100
theorem DrOk.same {H H' : Hp} {p : Addr} {n : Int} {bs : List Bar} (B : DrOk H p n bs) (s : Same H H') : DrOk H' p n bs := by
  obtain ⟨t, ks, zs, h1, h2, h3⟩ := B.h
  exact ⟨⟨t, ks, zs, s _ _ h1, h2.same s, h3⟩⟩
end DL

set_option Elab.async false
set_option maxRecDepth 100000

set_option Elab.async false
set_option maxRecDepth 100000

set_option Elab.async false
set_option maxRecDepth 100000
namespace DL
open PySem L2 HT TL
/-! ### the checks -/
/-- isinstance of a cabinet -/
structure CabI (K : PySem.W.Frag) (mg : Str → Option Value) (C : Addr) : Prop where
  cl : Cls K C
  mgC : mg "Cabinet" = some (.ref C)
  ha : PySem.W.findIn K (.ref C) "__class__" = some (some (.builtin "object.__class__"))
  hn : PySem.W.specialIn K (.builtin "object.__class__") "__get__" = some (some (.builtin "getset_descriptor.__get__"))
  htk : PySem.W.takesIn K (.builtin "object.__class__") = some true
  hm : PySem.W.mroIn K C (.type "object") = some true
  kk : PySem.W.kitOne K (.ref C) (.ref C) = some true
end DL

set_option Elab.async false
set_option maxRecDepth 100000
set_option maxHeartbeats 1000000

set_option Elab.async false
set_option maxRecDepth 100000
namespace DL
open PySem L2
/-! ### what the top tells of own errors -/
/-- which clause takes an error of the class at S: the clause names the class at T -/
theorem exm_of {K : PySem.W.Frag} {S T : Addr} {r : Bool} (h1 : PySem.W.subIn K (.ref T) (.type "BaseException") = some true) (h2 : PySem.W.isClsIn K T = true) (h3 : PySem.W.typeIn K (.ref T) = some (.type "type")) (h4 : PySem.W.subIn K (.ref S) (.ref T) = some r) :
    PySem.W.exmOne K (.ref S) (.ref T) = some r := by
  have e1 : (PySem.W.subIn K (.ref T) (.type "BaseException") == some true) = true := by rw [h1] <;> rfl
  have e2 : ((PySem.W.clsIn K T).isSome && PySem.W.typeIn K (.ref T) == some (.type "type")) = true := by
    have h2' : (PySem.W.clsIn K T).isSome = true := h2
    rw [h2', h3] <;> rfl
  show (if (PySem.W.subIn K (.ref T) (.type "BaseException") == some true) = true then (if ((PySem.W.clsIn K T).isSome && PySem.W.typeIn K (.ref T) == some (.type "type")) = true then PySem.W.subIn K (.ref S) (.ref T) else none) else none) = some r
  rw [if_pos e1, if_pos e2]
  exact h4
end DL

set_option Elab.async false
set_option maxRecDepth 100000
set_option maxHeartbeats 1000000

set_option Elab.async false
set_option maxRecDepth 100000

set_option Elab.async false
set_option maxRecDepth 100000
namespace DL
open PySem L2 HT TL
/-! ### patterns and rows -/
theorem SqT.same {K : PySem.W.Frag} {H H' : Hp} {a : Addr} {xs : List V} (s : Same H H') (h : SqT K H a xs) : SqT K H' a xs := by
  rcases h with (h | ⟨o, h⟩) | h
  · exact .inl (.inl (s _ _ h))
  · exact .inl (.inr ⟨o, s _ _ h⟩)
  · exact .inr h
end DL

set_option Elab.async false
set_option maxRecDepth 100000

set_option Elab.async false
set_option maxRecDepth 100000
namespace DL
open PySem L2 HT TL
/-! ### a drawn cabinet: its parts at p, itself at c; the row of draws at r -/
structure Lay (C r p c : Addr) (H : Hp) (n : Int) (bs : List Bar) : Prop where
  h : ∃ (t : Addr) (ks : List (Addr × Bar)) (zs : List V), H p = some (.lst (.int n :: .ref t :: zs)) ∧ CabAt C H c n t ∧ BarsAt H t ks ∧ ks.map (·.2) = bs ∧ OkBars n bs ∧ 1 ≤ n ∧ n ≤ 7 ∧ bs.length ≤ 100 ∧ p ≠ r
theorem Lay.same {C r p c : Addr} {H H' : Hp} {n : Int} {bs : List Bar} (L : Lay C r p c H n bs) (s : Same H H') : Lay C r p c H' n bs := by
  obtain ⟨t, ks, zs, h1, ⟨dx, h2⟩, h3, h4⟩ := L.h
  exact ⟨⟨t, ks, zs, s _ _ h1, ⟨dx, s _ _ h2⟩, h3.same s, h4⟩⟩
end DL

set_option Elab.async false
set_option maxRecDepth 100000
set_option maxHeartbeats 1000000
namespace DL
open PySem L2 HT TL
/-! ### forms of single values: standings, tries, whatever they are -/
def sgnB (n : Int) (z : Str) : V → Bool
  | .str y => decide ((y.length : Int) = n) && y.cps.toList.all fun c => decide (c ∈ z.cps.toList)
  | _ => false
end DL

set_option Elab.async false
set_option maxRecDepth 100000
namespace DL
open PySem L2 HT TL RZ
/-! ### sets of drawers -/
/-- a set: its drawers stand at a -/
structure SetAt (K : PySem.W.Frag) (H : Hp) (n : Int) (a : Addr) (ns : List Int) : Prop where
  at' : SqT K H a (ns.map V.int)
  low : ∀ d ∈ ns, 0 ≤ d ∧ d < n
  asc : ns.Pairwise (· < ·)
theorem SetAt.same {K : PySem.W.Frag} {H H' : Hp} {n : Int} {a : Addr} {ns : List Int} (S : SetAt K H n a ns) (s : Same H H') : SetAt K H' n a ns := ⟨SqT.same s S.at', S.low, S.asc⟩
end DL

set_option Elab.async false
set_option maxRecDepth 100000
namespace DL
open PySem PySem.Spec PyProof.Rows L2
/-! ### f(e, ..), f an expression that gives one of some defs -/
structure FnE (X : Cx) (CX : CXT) (k : Nat) (f : Addr) (sp : Sp) : Prop where
  ex : ∃ (fd : FuncData) (ps : List Str), FnOk X.prog X.w X.K X.mg X.base CX k f fd ps sp ∧ PySem.W.keepIn X.K (.ref f) = true ∧ Binds X.K fd ps []
def tCallE (S : List (Addr × Sp)) (E : L2.St → XK) (tf : TE) (t : TA) : TE := fun σ H Q => tf σ H fun y H1 => ∃ (f : Addr) (sp : Sp), (f, sp) ∈ S ∧ y = .ref f ∧ t σ H1 fun vs H2 => sp vs H2 Q (E σ)
section
variable {X : Cx} {CX : CXT} {k : Nat} {S : List (Addr × Sp)} {E : L2.St → XK} {pos : Pos} {fe e : Expr} {es : List Expr} {tf : TE} {t : TA}
theorem pe_callE (hf : PE X fe tf) (HS : ∀ q ∈ S, FnE X CX k q.1 q.2) (room : Room k X.A) (pas : ∀ σ, PassesAt CX X σ (E σ)) (ar : PA X (e :: es) t)
    (tr : eval (.Call fe (e :: es) [] pos) X.env = (do callWith pos (← eval fe X.env) [] (backTo pos (starEach (e :: es) X.env)) (backToKw pos (keywordEach [] X.env))) := by rfl)
    (sta : starEach (e :: es) X.env = (false, eval e X.env) :: starEach es X.env := by rfl) (pla : (backTo pos (starEach es X.env)).any (·.1) = false := by rfl) : PE X (.Call fe (e :: es) [] pos) (tCallE S E tf t) := by
  refine ⟨fun pins s0 σ H Q I0 rd => ?_⟩
  refine Call_ (thn (hf.run pins s0 σ H _ I0 rd) fun u s1 ⟨y, H1, I1, ry, f, sp, hm, ey, q⟩ => ?_) tr
  subst ey
  obtain rfl : u = Value.ref f := ry
  obtain ⟨fd, ps, F, hk, hb⟩ := (HS _ hm).ex
  refine PySem.W.callWith_K (h₀ := X.base) I1.ok.mod.kin hk (thn (ar.run pos pins s1 σ H1 _ I1 q) fun us s2 ⟨vs, H2, I2, r, q2⟩ => ⟨I2.kIn, ?_⟩) sta pla
  exact run_fnS F room hb (pas σ) I2 r q2
end
end DL

set_option Elab.async false
set_option maxRecDepth 100000
set_option maxHeartbeats 1000000
namespace DL
open PySem PySem.Spec PyProof.Rows L2
/-! ### several clauses, with or without a name for the error -/
abbrev ClA := Value × Option Nat × (Addr → Value → Option Addr → TS)
def offI (i : Nat) (D : Ends) : Ends := { nx := fun σ H => D.nx (σ.set i none) H, rt := D.rt, bk := fun σ H => D.bk (σ.set i none) H, ct := fun σ H => D.ct (σ.set i none) H }
def runA (ts : Addr → Value → Option Addr → TS) (o : Option Nat) (a : Addr) (cls : Value) (d : Option Addr) (D : Ends) (σ : L2.St) (H : Hp) : Prop :=
  match o with
  | none => ts a cls d D σ H
  | some i => ts a cls d (offI i D) (σ.set i (some (.ref a))) H
def wAny (K : PySem.W.Frag) (Wout : WX) (D : Ends) : List ClA → WX
  | [] => Wout
  | (c, o, ts) :: r => fun cls d σ H => ∃ b, PySem.W.exmOne K cls c = some b ∧ (b = true → ∀ a, H a = none → runA ts o a cls d D σ H) ∧ (b = false → wAny K Wout D r cls d σ H)
inductive ClsA (X : Cx) : List ExceptHandler → List ClA → Prop
  | nil : ClsA X [] []
  | plain {x : Str} {c : Value} {ts : Addr → Value → Option Addr → TS} {b₀ : Stmt} {suite : List Stmt} {np pos' : Pos} {hds : List ExceptHandler} {l : List ClA} (hc : Names X x c)
      (su : ∀ (a : Addr) (oe : Obj) (cls : Value) (d : Option Addr) (pn : List (Addr × Obj)), Zc cls d oe → (∃ vs, oe.data = .fields vs) → PSs (X.suite a ((a, oe) :: pn)) (b₀ :: suite) (ts a cls d)) (r : ClsA X hds l) :
      ClsA X (.ExceptHandler (some (.Name x np)) none (b₀ :: suite) pos' :: hds) ((c, none, ts) :: l)
  | named {x n : Str} {i : Nat} {c : Value} {ts : Addr → Value → Option Addr → TS} {b₀ : Stmt} {suite : List Stmt} {np pos' : Pos} {hds : List ExceptHandler} {l : List ClA} (hN : X.N.Nodup) (hi : X.N[i]? = some n) (hln : X.env.kindOf n = some .local) (hc : Names X x c)
      (su : ∀ (a : Addr) (oe : Obj) (cls : Value) (d : Option Addr) (pn : List (Addr × Obj)), Zc cls d oe → (∃ vs, oe.data = .fields vs) → PSs (X.suite a ((a, oe) :: pn)) (b₀ :: suite) (ts a cls d)) (r : ClsA X hds l) :
      ClsA X (.ExceptHandler (some (.Name x np)) (some n) (b₀ :: suite) pos' :: hds) ((c, some i, ts) :: l)
section
variable {X : Cx} {body : List Stmt} {k₀ : ExceptHandler} {ks : List ExceptHandler} {l : List ClA} {pos : Pos} {tb : WX → TS} {Wout : WX}
theorem ps_try_any (hst : X.stack = X.env :: X.outer) (hfr : X.env.frame = some X.env.locals) (tk : Takes X Wout)
    (hbd : ∀ (W : WX) (pn : List (Addr × Obj)) (xe : Value → Shared → Prop), Takes (X.tr pn xe) W → PassesOwn (model X.prog X.w) X.A X.env xe → PSs (X.tr pn xe) body (tb W))
    (hcl : ClsA X (k₀ :: ks) l) : PS X (.Try body (k₀ :: ks) [] [] pos) (fun D σ H => tb (wAny X.K Wout D l) D σ H) := by
  refine ⟨fun pins s σ H D I rd => ?_⟩
  have okX := I.ok
  have afr : X.A.frames = some (X.env :: X.outer) := by rw [okX.frames, hst]
  have nom : ∀ {x : Str} {c : Value} {a : Addr} {oe : Obj} {σ' : L2.St} {H' : Hp} {s' : Shared} {Q : Value → Shared → Prop} {E : Value → Shared → Prop} {np : Pos}, Names X x c → Inv (X.suite a ((a, oe) :: (X.pn ++ pins))) [] σ' H' s' → Q c s' → wpAny (model X.prog X.w) (X.A.mark (some (.ref a))) (eval (.Name x np) X.env) Q E s' :=
    fun {x c a oe σ' H' s' Q E np} nm Sv q => by
      obtain ⟨gl, ndb, mm | ⟨mm, bo, nn⟩⟩ := nm
      · exact ld_glob (X := X.suite a ((a, oe) :: (X.pn ++ pins))) Sv gl mm q ndb
      · exact ld_blt (X := X.suite a ((a, oe) :: (X.pn ++ pins))) Sv gl mm bo q nn ndb
  refine wpAny_Try_except ?_
  refine wpAny_mono ((hbd (wAny X.K Wout D l) (X.pn ++ pins) (fun ev sA => wpAny (model X.prog X.w) X.A (noteFrame ev X.env) (fun _ sB => wpAny (model X.prog X.w) X.A (setFlight ev none) (fun _ sC => wpAny (model X.prog X.w) X.A (handleBy ev X.env (k₀ :: ks)) (SP X pins D) X.xe sC) X.xe sB) X.xe sA)
    (fun u s' cx => ?_) PassesOwn.looking).run [] s σ H D (I.toTry _) rd) (fun fl sE ends => ?_) (fun ev sE z => z)
  · obtain ⟨a, B, sI, pinsT, σT, HT, cls, d, rfl, Jt, nb, grow, inAir, free, osE, bareE, wish⟩ := cx
    have Jx : Inv X pins σT HT sI := Jt.ofTry okX
    have air : Sky B (X.env :: X.outer) a (Zc cls d) X.env.locals s'.heap := by rw [← hst]; exact inAir
    show wpAny (model X.prog X.w) X.A (noteFrame (.ref a) X.env) _ _ _
    refine Sky.land Zc.steady afr hfr air fun hA flA upA => ?_
    have JA : Inv X pins σT HT { s' with heap := hA } := Jx.landed nb flA.1 (grow.trans upA) osE bareE
    obtain ⟨oA, vA, getA, zcA, dataA⟩ := flA.there
    have apart : a ∉ frs (X.env :: X.outer) := fun mm => by
      obtain ⟨_, oB, getB, isF⟩ := flA.2.2.1.mem mm
      rw [getA] at getB
      cases getB
      exact isF _ dataA
    have ne1 : a ≠ X.env.locals := fun z => apart (List.mem_filterMap.mpr ⟨X.env, List.mem_cons_self, by rw [hfr, z]⟩)
    have ne2 : a ∉ X.fs := fun mm => by
      obtain ⟨en, hen, q⟩ := List.mem_filterMap.mp mm
      exact apart (List.mem_filterMap.mpr ⟨en, List.mem_cons_of_mem _ hen, q⟩)
    have SA := JA.suite getA dataA free ne1 ne2
    have tyA : PySem.W.Looks (model X.prog X.w) hA (typeOf (.ref a)) cls := fun A Q E s k q => wpAny_typeOf_ref (k _ _ getA) (by rw [zcA.1]; exact q)
    have walk : ∀ {hds : List ExceptHandler} {cl : List ClA}, ClsA X hds cl → wAny X.K Wout D cl cls d σT HT → wpAny (model X.prog X.w) X.A (handleBy (.ref a) X.env hds) (SP X pins D) X.xe { s' with heap := hA } := by
      intro hds cl hk
      induction hk with
      | nil =>
        intro wsh
        refine wpAny_handleBy_nil ?_
        obtain ⟨f1, f2, f3, oe, vs, T, oT, ts', fe, fz, fd, f4, fr⟩ := id flA
        unfold PySem.passOn
        refine wpAny_bind (wpAny_field fe fd f4 ?_)
        rw [if_neg (show ¬ ((Value.ref T == Value.none) = true) from by simp)]
        have out : wpAny (model X.prog X.w) X.A (setFlight (.ref a) X.env.frame) (fun _ sD => wpAny (model X.prog X.w) X.A (throw (.ref a) : Sem Flow) (SP X pins D) X.xe sD) X.xe { s' with heap := hA } := by
          rw [hfr]
          refine HandSPX.setFlight_upZ flA fun hB inB upB => wpAny_throw (tk _ _ ?_)
          exact ⟨a, B, sI, pins, σT, HT, cls, d, rfl, Jx, nb, (grow.trans upA).trans upB, .inr (.inr (by rw [hst]; exact inB)), free, osE, bareE, wsh⟩
        first
          | exact wpAny_bind (wpAny_pure (wpAny_bind out))
          | exact wpAny_bind out
      | @plain x c ts b₀ suite np pos' hds2 l2 hc su r ih =>
        intro wsh
        obtain ⟨b, mt, yes, no⟩ := wsh
        refine wpAny_handleBy_cons (codeAny_handlers_test ?_) (by intro z; cases z)
        have lm := PySem.W.exm_one (M := model X.prog X.w) (JA.kIn) tyA mt
        refine nom hc SA (lm.here ?_)
        cases b with
        | false =>
          show wpAny _ X.A (handleBy (.ref a) X.env hds2) _ _ _
          exact ih (no rfl)
        | true =>
          refine codeAny_handlers_suite ?_
          refine HandSPX.lands_againZ flA fun hB flB upB => ?_
          have JB : Inv X pins σT HT { s' with heap := hB } := Jx.landed nb flB.1 ((grow.trans upA).trans upB) osE bareE
          obtain ⟨oB, vB, getB, zcB, dataB⟩ := flB.there
          have SB := JB.suite getB dataB free ne1 ne2
          refine wpAny_mono ((su a oB cls d (X.pn ++ pins) zcB ⟨_, dataB⟩).run [] _ _ HT _ SB (yes rfl a free)) (fun fl sE ends => ?_) (fun _ _ z => False.elim z)
          cases fl with
          | next => exact let ⟨_, _, Sx, qx⟩ := ends; ⟨_, _, Sx.unsuite okX, qx⟩
          | brk => exact let ⟨_, _, Sx, qx⟩ := ends; ⟨_, _, Sx.unsuite okX, qx⟩
          | cont => exact let ⟨_, _, Sx, qx⟩ := ends; ⟨_, _, Sx.unsuite okX, qx⟩
          | ret u => exact let ⟨_, _, _, Sx, rx, qx⟩ := ends; ⟨_, _, _, Sx.unsuite okX, rx, qx⟩
      | @named x n i c ts b₀ suite np pos' hds2 l2 hN hi hln hc su r ih =>
        intro wsh
        obtain ⟨b, mt, yes, no⟩ := wsh
        refine wpAny_handleBy_cons (codeAny_handlers_test ?_) (by intro z; cases z)
        have lm := PySem.W.exm_one (M := model X.prog X.w) (JA.kIn) tyA mt
        refine nom hc SA (lm.here ?_)
        cases b with
        | false =>
          show wpAny _ X.A (handleBy (.ref a) X.env hds2) _ _ _
          exact ih (no rfl)
        | true =>
          refine codeAny_handlers_suite_as ?_
          refine HandSPX.lands_againZ flA fun hB flB upB => ?_
          have JB : Inv X pins σT HT { s' with heap := hB } := Jx.landed nb flB.1 ((grow.trans upA).trans upB) osE bareE
          obtain ⟨oB, vB, getB, zcB, dataB⟩ := flB.there
          have SB := JB.suite getB dataB free ne1 ne2
          refine store_ok (X := X.suite a ((a, oB) :: (X.pn ++ pins))) (v := .ref a) SB hN hi (.inl hln) rfl (fun sF SF => ?_) (.inr hln)
          refine wpAny_mono ((su a oB cls d (X.pn ++ pins) zcB ⟨_, dataB⟩).run [] sF _ HT _ SF (yes rfl a free)) (fun fl sE ends => ?_) (fun _ _ z => False.elim z)
          cases fl with
          | next => exact let ⟨_, _, Sx, qx⟩ := ends; gone_ok (Sx.unsuite okX) hN hi hln fun _ Jz => ⟨_, _, Jz, qx⟩
          | brk => exact let ⟨_, _, Sx, qx⟩ := ends; gone_ok (Sx.unsuite okX) hN hi hln fun _ Jz => ⟨_, _, Jz, qx⟩
          | cont => exact let ⟨_, _, Sx, qx⟩ := ends; gone_ok (Sx.unsuite okX) hN hi hln fun _ Jz => ⟨_, _, Jz, qx⟩
          | ret u => exact let ⟨_, _, _, Sx, rx, qx⟩ := ends; gone_ok (Sx.unsuite okX) hN hi hln fun _ Jz => ⟨_, _, _, Jz, rx, qx⟩
    exact walk hcl wish
  · cases fl with
    | next => exact let ⟨_, _, Jz, qx⟩ := ends; wpAny_execs_nil ⟨_, _, Jz.ofTry okX, qx⟩
    | brk => exact let ⟨_, _, Jz, qx⟩ := ends; ⟨_, _, Jz.ofTry okX, qx⟩
    | cont => exact let ⟨_, _, Jz, qx⟩ := ends; ⟨_, _, Jz.ofTry okX, qx⟩
    | ret u => exact let ⟨_, _, _, Jz, rx, qx⟩ := ends; ⟨_, _, _, Jz.ofTry okX, rx, qx⟩
end
end DL

set_option Elab.async false
set_option maxRecDepth 100000
set_option maxHeartbeats 1000000
namespace DL
open PySem PySem.Spec PyProof.Rows L2
/-! ### C(..) in a try -/
def tMkS (C : Addr) (sp : Sp) (E : L2.St → XK) (t : TA) : TE := fun σ H Q => t σ H fun vs H1 => ∀ x dx, H1 x = none → H1 dx = none → dx ≠ x → sp (.ref x :: vs) (upd (upd H1 dx (.own x)) x (.ins C dx [])) (fun v H2 => v = .non ∧ Q (.ref x) H2) (E σ)
section
variable {X : Cx} {CX : CXT} {k : Nat} {f C : Addr} {fd : FuncData} {ps : List Str} {sp : Sp} {E : L2.St → XK} {x : Str} {p pos : Pos} {e : Expr} {es : List Expr} {t : TA}
theorem pe_mkS (M : Mk X.K C f) (F : FnOk X.prog X.w X.K X.mg X.base CX k f fd ps sp) (room : Room (k + 1) X.A) (gl : Gl X x) (gC : X.mg x = some (.ref C)) (bi : Binds X.K fd ps []) (pas : ∀ σ, PassesAt CX X σ (E σ)) (ar : PA X (e :: es) t)
    (ndb : (x == ("__debug__" : Str)) = false := by decide) (sta : starEach (e :: es) X.env = (false, eval e X.env) :: starEach es X.env := by rfl) (pla : (backTo pos (starEach es X.env)).any (·.1) = false := by rfl) : PE X (.Call (.Name x p) (e :: es) [] pos) (tMkS C sp E t) := by
  refine ⟨fun pins s0 σ H Q I0 rd => ?_⟩
  refine wpAny_Call_Name_kw (ld_glob I0 gl gC ?_ ndb)
  refine PySem.W.callWith_K (h₀ := X.base) I0.ok.mod.kin M.kp (thn (ar.run pos pins s0 σ H _ I0 rd) fun us s ⟨vs, H1, I, rv, mk⟩ => ⟨I.kIn, ?_⟩) sta pla
  have wish := mk (s.heap.objs.size + 1) s.heap.objs.size (I.hok.fresh (Nat.le_succ _)) (I.hok.fresh (Nat.le_refl _)) (Nat.ne_of_lt (Nat.lt_succ_self _))
  have Im := Inv.made (C := C) I
  have rm : Vals (V.ref (s.heap.objs.size + 1) :: vs) (Value.ref (s.heap.objs.size + 1) :: us) := .cons rfl rv
  have le : (Value.ref (s.heap.objs.size + 1) :: us).length = ps.length := by
    rw [← rm.length]
    exact F.len _ _ _ _ wish
  have bn := bi _ (Value.ref (s.heap.objs.size + 1) :: us) Im.kIn (by rw [List.append_nil]; exact le)
  rw [List.append_nil] at bn
  refine wpAny_call (make_map (f := f) I.kIn M.makes M.init (beq_iff_eq.mp M.fn) (codeAny_mono (F.run _ X.stack _ _ ⟨Value.ref (s.heap.objs.size + 1) :: us, []⟩ (Value.ref (s.heap.objs.size + 1) :: us) _ _ (E σ) (room.make C us []) (Im.env0.make C us []) bn rm wish) fun res s' fin => ?_))
  cases res with
  | error ev => exact pas σ pins _ _ ev s' Im fin
  | ok fl =>
    cases fl with
    | ret u =>
      obtain ⟨v, H', Ia, ru, ev, qq⟩ := Im.after fin
      subst ev
      exact ⟨ru, ⟨V.ref (s.heap.objs.size + 1), H', Ia, rfl, qq⟩⟩
    | next => exact fin.elim
    | brk => exact fin.elim
    | cont => exact fin.elim
end
end DL

set_option Elab.async false
set_option maxRecDepth 100000
set_option maxHeartbeats 1000000
namespace DL
open PySem L2 HT TL
/-! ### standings, patterns, drawers, lengths that are refused, whatever they are -/
def NoStr (K : PySem.W.Frag) (H : Hp) (v : V) : Prop := ∃ t, (∀ H', Same H H' → TyX K H' v t) ∧ PySem.W.kitOne K t (.type "str") = some false
def BadSgn (K : PySem.W.Frag) (z : Str) (H : Hp) (n : Int) (v : V) : Prop := NoStr K H v ∨ ∃ y, v = .str y ∧ y.length ≤ 1000 ∧ sgnB n z (.str y) = false
theorem BadSgn.same {K : PySem.W.Frag} {z : Str} {H H' : Hp} {n : Int} {v : V} (h : BadSgn K z H n v) (s : Same H H') : BadSgn K z H' n v := by
  rcases h with ⟨t, h1, h2⟩ | h
  · exact .inl ⟨t, fun H2 s2 => h1 H2 (s.trans s2), h2⟩
  · exact .inr h
end DL

set_option Elab.async false
set_option maxRecDepth 100000
set_option maxHeartbeats 1000000
namespace DL
open PySem PySem.Spec PyProof.Rows L2 HT TL
/-! ### a tuple taken once -/
/-! ### odd standings and patterns -/
theorem sqT_but {K : PySem.W.Frag} {r : Addr} {H H' : Hp} {a : Addr} {xs ys : List V} (hr : H r = some (.lst ys)) (B : But r H H') (h : SqT K H a xs) : SqT K H' a xs := by
  rcases h with (h | ⟨o, h⟩) | h
  · exact .inl (.inl (B.tup hr h))
  · exact .inl (.inr ⟨o, B _ _ (ne_of h hr (by intro z; cases z)) h⟩)
  · exact .inr h
section
variable {P : Program} {w : World} {K : PySem.W.Frag} {mg : Str → Option Value} {base : Heap}
theorem scDI : FnScope ["self", "cabinet"] ["self", "cabinet"] (defScope s_Desk__init_) := ⟨rfl, rfl, rfl, by decide +kernel, rfl, by decide +kernel, by decide +kernel⟩
end
end DL

set_option Elab.async false
set_option maxRecDepth 100000
set_option maxHeartbeats 1000000
namespace DL
open PySem L2 HT TL
/-! ### what is no cabinet -/
def NoCab (K : PySem.W.Frag) (C : Addr) (H : Hp) (v : V) : Prop := ∃ t, (∀ H', Same H H' → TyX K H' v t) ∧ PySem.W.kitOne K t (.ref C) = some false
theorem NoCab.same {K : PySem.W.Frag} {C : Addr} {H H' : Hp} {v : V} (h : NoCab K C H v) (s : Same H H') : NoCab K C H' v := by
  obtain ⟨t, h1, h2⟩ := h
  exact ⟨t, fun H2 s2 => h1 H2 (s.trans s2), h2⟩
structure spCkC (K : PySem.W.Frag) (C CB : Addr) (vs : List V) (H : Hp) (Q : VK) (E : XK) : Prop where
  h : ∃ v : V, vs = [v] ∧ ((∃ (c : Addr) (n : Int) (t : Addr), v = .ref c ∧ CabAt C H c n t ∧ Q .non H) ∨ (NoCab K C H v ∧ E (.ref CB) none H))
structure spN1 (K : PySem.W.Frag) (C CB : Addr) (vs : List V) (H : Hp) (_ : VK) (E : XK) : Prop where
  h : ∃ v : V, vs = [v] ∧ NoCab K C H v ∧ E (.ref CB) none H
structure spN2 (K : PySem.W.Frag) (C CB : Addr) (vs : List V) (H : Hp) (_ : VK) (E : XK) : Prop where
  h : ∃ v u : V, vs = [v, u] ∧ NoCab K C H v ∧ E (.ref CB) none H
structure spN3 (K : PySem.W.Frag) (C CB : Addr) (vs : List V) (H : Hp) (_ : VK) (E : XK) : Prop where
  h : ∃ v u x : V, vs = [v, u, x] ∧ NoCab K C H v ∧ E (.ref CB) none H
structure spNA (K : PySem.W.Frag) (C CB : Addr) (vs : List V) (H : Hp) (_ : VK) (E : XK) : Prop where
  h : ∃ v u : V, vs = [v, u] ∧ (NoCab K C H v ∨ ((∃ (c : Addr) (n : Int) (t : Addr), v = .ref c ∧ CabAt C H c n t) ∧ NoCab K C H u)) ∧ E (.ref CB) none H
section
variable {P : Program} {w : World} {K : PySem.W.Frag} {mg : Str → Option Value} {base : Heap}
theorem scCkC : FnScope ["cabinet"] ["cabinet"] (defScope s_check_cabinet) := ⟨rfl, rfl, rfl, by decide +kernel, rfl, by decide +kernel, by decide +kernel⟩
theorem ok_ckC {f C CB : Addr} {fd : FuncData} (F : Fun K "check_cabinet" "check_cabinet" s_check_cabinet f fd) (T : Bt mg) (I : CabI K mg C) (BT : ErrT K mg "BadCabinet" CB) : FnOk P w K mg base (L2.CX P w) 2 f fd ["cabinet"] (spCkC K C CB) := by
  refine F.okX scCkC (fun vs H Q E h => ?_) (fun cdv A outer s H vs Q E hr h => ?_)
  · obtain ⟨v, rfl, _⟩ := h.h
    rfl
  · obtain ⟨v, rfl, hv⟩ := h.h
    refine ⟨_, pss_one (ps_if (pt_not (pt_val (pe_callB call_isi (by rfl) T.isinstance (by decide +kernel) (pa_cons (pv 0) (pa_cons (pe_glob (v := .ref C) rfl I.mgC rfl) pa_nil)))))
      (pss_one (ps_raise rfl (takes_of rfl rfl rfl rfl) (pmk_own PySem.F.excBase_ValueError BT.x BT.g BT.k (raises_own BT.b BT.t) (by exact rfl)))) pss_nil), ?_⟩
    rcases hv with ⟨c, n, t, rfl, ⟨dx, hc⟩, k⟩ | ⟨⟨t, ty, kt⟩, k⟩
    · exact ⟨_, rfl, _, _, _, _, true, rfl, .own C, .base (.ins hc I.cl I.ha I.hn I.htk I.hm), I.kk, _, rfl, iteF k⟩
    · exact ⟨_, rfl, _, _, t, _, false, rfl, .own C, ty H (Same.refl H), kt, _, rfl, iteT k⟩
theorem scN_fewest_bars : FnScope ["cabinet"] ["cabinet"] (defScope s_fewest_bars) := ⟨rfl, rfl, rfl, by decide +kernel, rfl, by decide +kernel, by decide +kernel⟩
theorem ok_fewest_bars_N {f f0 C CB : Addr} {fd fd0 : FuncData} (F : Fun K "fewest_bars" "fewest_bars" s_fewest_bars f fd)
    (G0 : FnOk P w K mg base (L2.CX P w) 2 f0 fd0 ["cabinet"] (spCkC K C CB)) (g0 : mg "check_cabinet" = some (.ref f0)) (k0 : PySem.W.keepIn K (.ref f0) = true) (b0 : Binds K fd0 ["cabinet"] []) :
    FnOk P w K mg base (L2.CX P w) 4 f fd ["cabinet"] (spN1 K C CB) := by
  refine F.okX scN_fewest_bars (fun vs H Q E h => ?_) (fun cdv A outer s H vs Q E hr h => ?_)
  · obtain ⟨v, rfl, _⟩ := h.h
    rfl
  · obtain ⟨v, rfl, hv, k⟩ := h.h
    refine ⟨_, pss_cons (ps_expr (pe_call G0 (hr.mono (by decide)) rfl g0 k0 b0 .nil (passes_call (E := E) (takes_of rfl rfl rfl rfl) (fun _ _ _ _ z => z)) (pa_cons (pv 0) pa_nil))) pss_never, ?_⟩
    exact ⟨_, rfl, ⟨⟨v, rfl, .inr ⟨hv, k⟩⟩⟩⟩
theorem scN_needless : FnScope ["cabinet", "needs"] ["cabinet"] (defScope s_needless) := ⟨rfl, rfl, rfl, by decide +kernel, rfl, by decide +kernel, by decide +kernel⟩
theorem ok_needless_N {f f0 C CB : Addr} {fd fd0 : FuncData} (F : Fun K "needless" "needless" s_needless f fd)
    (G0 : FnOk P w K mg base (L2.CX P w) 2 f0 fd0 ["cabinet"] (spCkC K C CB)) (g0 : mg "check_cabinet" = some (.ref f0)) (k0 : PySem.W.keepIn K (.ref f0) = true) (b0 : Binds K fd0 ["cabinet"] []) :
    FnOk P w K mg base (L2.CX P w) 4 f fd ["cabinet"] (spN1 K C CB) := by
  refine F.okX scN_needless (fun vs H Q E h => ?_) (fun cdv A outer s H vs Q E hr h => ?_)
  · obtain ⟨v, rfl, _⟩ := h.h
    rfl
  · obtain ⟨v, rfl, hv, k⟩ := h.h
    refine ⟨_, pss_cons (ps_expr (pe_call G0 (hr.mono (by decide)) rfl g0 k0 b0 .nil (passes_call (E := E) (takes_of rfl rfl rfl rfl) (fun _ _ _ _ z => z)) (pa_cons (pv 0) pa_nil))) pss_never, ?_⟩
    exact ⟨_, rfl, ⟨⟨v, rfl, .inr ⟨hv, k⟩⟩⟩⟩
theorem scN_farthest : FnScope ["cabinet", "rows", "most"] ["cabinet"] (defScope s_farthest) := ⟨rfl, rfl, rfl, by decide +kernel, rfl, by decide +kernel, by decide +kernel⟩
theorem ok_farthest_N {f f0 C CB : Addr} {fd fd0 : FuncData} (F : Fun K "farthest" "farthest" s_farthest f fd)
    (G0 : FnOk P w K mg base (L2.CX P w) 2 f0 fd0 ["cabinet"] (spCkC K C CB)) (g0 : mg "check_cabinet" = some (.ref f0)) (k0 : PySem.W.keepIn K (.ref f0) = true) (b0 : Binds K fd0 ["cabinet"] []) :
    FnOk P w K mg base (L2.CX P w) 4 f fd ["cabinet"] (spN1 K C CB) := by
  refine F.okX scN_farthest (fun vs H Q E h => ?_) (fun cdv A outer s H vs Q E hr h => ?_)
  · obtain ⟨v, rfl, _⟩ := h.h
    rfl
  · obtain ⟨v, rfl, hv, k⟩ := h.h
    refine ⟨_, pss_cons (ps_expr (pe_call G0 (hr.mono (by decide)) rfl g0 k0 b0 .nil (passes_call (E := E) (takes_of rfl rfl rfl rfl) (fun _ _ _ _ z => z)) (pa_cons (pv 0) pa_nil))) pss_never, ?_⟩
    exact ⟨_, rfl, ⟨⟨v, rfl, .inr ⟨hv, k⟩⟩⟩⟩
theorem scN_reached : FnScope ["cabinet"] ["cabinet"] (defScope s_reached) := ⟨rfl, rfl, rfl, by decide +kernel, rfl, by decide +kernel, by decide +kernel⟩
theorem ok_reached_N {f f0 C CB : Addr} {fd fd0 : FuncData} (F : Fun K "reached" "reached" s_reached f fd)
    (G0 : FnOk P w K mg base (L2.CX P w) 2 f0 fd0 ["cabinet"] (spCkC K C CB)) (g0 : mg "check_cabinet" = some (.ref f0)) (k0 : PySem.W.keepIn K (.ref f0) = true) (b0 : Binds K fd0 ["cabinet"] []) :
    FnOk P w K mg base (L2.CX P w) 4 f fd ["cabinet"] (spN1 K C CB) := by
  refine F.okX scN_reached (fun vs H Q E h => ?_) (fun cdv A outer s H vs Q E hr h => ?_)
  · obtain ⟨v, rfl, _⟩ := h.h
    rfl
  · obtain ⟨v, rfl, hv, k⟩ := h.h
    refine ⟨_, pss_cons (ps_expr (pe_call G0 (hr.mono (by decide)) rfl g0 k0 b0 .nil (passes_call (E := E) (takes_of rfl rfl rfl rfl) (fun _ _ _ _ z => z)) (pa_cons (pv 0) pa_nil))) pss_never, ?_⟩
    exact ⟨_, rfl, ⟨⟨v, rfl, .inr ⟨hv, k⟩⟩⟩⟩
theorem scN_dead_end : FnScope ["cabinet", "pulls"] ["cabinet"] (defScope s_dead_end) := ⟨rfl, rfl, rfl, by decide +kernel, rfl, by decide +kernel, by decide +kernel⟩
theorem ok_dead_end_N {f f0 C CB : Addr} {fd fd0 : FuncData} (F : Fun K "dead_end" "dead_end" s_dead_end f fd)
    (G0 : FnOk P w K mg base (L2.CX P w) 2 f0 fd0 ["cabinet"] (spCkC K C CB)) (g0 : mg "check_cabinet" = some (.ref f0)) (k0 : PySem.W.keepIn K (.ref f0) = true) (b0 : Binds K fd0 ["cabinet"] []) :
    FnOk P w K mg base (L2.CX P w) 4 f fd ["cabinet"] (spN1 K C CB) := by
  refine F.okX scN_dead_end (fun vs H Q E h => ?_) (fun cdv A outer s H vs Q E hr h => ?_)
  · obtain ⟨v, rfl, _⟩ := h.h
    rfl
  · obtain ⟨v, rfl, hv, k⟩ := h.h
    refine ⟨_, pss_cons (ps_expr (pe_call G0 (hr.mono (by decide)) rfl g0 k0 b0 .nil (passes_call (E := E) (takes_of rfl rfl rfl rfl) (fun _ _ _ _ z => z)) (pa_cons (pv 0) pa_nil))) pss_never, ?_⟩
    exact ⟨_, rfl, ⟨⟨v, rfl, .inr ⟨hv, k⟩⟩⟩⟩
theorem scN_never_opened : FnScope ["cabinet", "standings"] ["cabinet"] (defScope s_never_opened) := ⟨rfl, rfl, rfl, by decide +kernel, rfl, by decide +kernel, by decide +kernel⟩
theorem ok_never_opened_N {f f0 C CB : Addr} {fd fd0 : FuncData} (F : Fun K "never_opened" "never_opened" s_never_opened f fd)
    (G0 : FnOk P w K mg base (L2.CX P w) 2 f0 fd0 ["cabinet"] (spCkC K C CB)) (g0 : mg "check_cabinet" = some (.ref f0)) (k0 : PySem.W.keepIn K (.ref f0) = true) (b0 : Binds K fd0 ["cabinet"] []) :
    FnOk P w K mg base (L2.CX P w) 4 f fd ["cabinet"] (spN1 K C CB) := by
  refine F.okX scN_never_opened (fun vs H Q E h => ?_) (fun cdv A outer s H vs Q E hr h => ?_)
  · obtain ⟨v, rfl, _⟩ := h.h
    rfl
  · obtain ⟨v, rfl, hv, k⟩ := h.h
    refine ⟨_, pss_cons (ps_expr (pe_call G0 (hr.mono (by decide)) rfl g0 k0 b0 .nil (passes_call (E := E) (takes_of rfl rfl rfl rfl) (fun _ _ _ _ z => z)) (pa_cons (pv 0) pa_nil))) pss_never, ?_⟩
    exact ⟨_, rfl, ⟨⟨v, rfl, .inr ⟨hv, k⟩⟩⟩⟩
theorem scN_no_return : FnScope ["cabinet", "pulls"] ["cabinet"] (defScope s_no_return) := ⟨rfl, rfl, rfl, by decide +kernel, rfl, by decide +kernel, by decide +kernel⟩
theorem ok_no_return_N {f f0 C CB : Addr} {fd fd0 : FuncData} (F : Fun K "no_return" "no_return" s_no_return f fd)
    (G0 : FnOk P w K mg base (L2.CX P w) 2 f0 fd0 ["cabinet"] (spCkC K C CB)) (g0 : mg "check_cabinet" = some (.ref f0)) (k0 : PySem.W.keepIn K (.ref f0) = true) (b0 : Binds K fd0 ["cabinet"] []) :
    FnOk P w K mg base (L2.CX P w) 4 f fd ["cabinet"] (spN1 K C CB) := by
  refine F.okX scN_no_return (fun vs H Q E h => ?_) (fun cdv A outer s H vs Q E hr h => ?_)
  · obtain ⟨v, rfl, _⟩ := h.h
    rfl
  · obtain ⟨v, rfl, hv, k⟩ := h.h
    refine ⟨_, pss_cons (ps_expr (pe_call G0 (hr.mono (by decide)) rfl g0 k0 b0 .nil (passes_call (E := E) (takes_of rfl rfl rfl rfl) (fun _ _ _ _ z => z)) (pa_cons (pv 0) pa_nil))) pss_never, ?_⟩
    exact ⟨_, rfl, ⟨⟨v, rfl, .inr ⟨hv, k⟩⟩⟩⟩
theorem scN_write : FnScope ["cabinet", "lines"] ["cabinet"] (defScope s_write) := ⟨rfl, rfl, rfl, by decide +kernel, rfl, by decide +kernel, by decide +kernel⟩
theorem ok_write_N {f f0 C CB : Addr} {fd fd0 : FuncData} (F : Fun K "write" "write" s_write f fd)
    (G0 : FnOk P w K mg base (L2.CX P w) 2 f0 fd0 ["cabinet"] (spCkC K C CB)) (g0 : mg "check_cabinet" = some (.ref f0)) (k0 : PySem.W.keepIn K (.ref f0) = true) (b0 : Binds K fd0 ["cabinet"] []) :
    FnOk P w K mg base (L2.CX P w) 4 f fd ["cabinet"] (spN1 K C CB) := by
  refine F.okX scN_write (fun vs H Q E h => ?_) (fun cdv A outer s H vs Q E hr h => ?_)
  · obtain ⟨v, rfl, _⟩ := h.h
    rfl
  · obtain ⟨v, rfl, hv, k⟩ := h.h
    refine ⟨_, pss_cons (ps_expr (pe_call G0 (hr.mono (by decide)) rfl g0 k0 b0 .nil (passes_call (E := E) (takes_of rfl rfl rfl rfl) (fun _ _ _ _ z => z)) (pa_cons (pv 0) pa_nil))) pss_never, ?_⟩
    exact ⟨_, rfl, ⟨⟨v, rfl, .inr ⟨hv, k⟩⟩⟩⟩
theorem scN_most_open : FnScope ["cabinet", "rows", "most"] ["cabinet"] (defScope s_most_open) := ⟨rfl, rfl, rfl, by decide +kernel, rfl, by decide +kernel, by decide +kernel⟩
theorem ok_most_open_N {f f0 C CB : Addr} {fd fd0 : FuncData} (F : Fun K "most_open" "most_open" s_most_open f fd)
    (G0 : FnOk P w K mg base (L2.CX P w) 2 f0 fd0 ["cabinet"] (spCkC K C CB)) (g0 : mg "check_cabinet" = some (.ref f0)) (k0 : PySem.W.keepIn K (.ref f0) = true) (b0 : Binds K fd0 ["cabinet"] []) :
    FnOk P w K mg base (L2.CX P w) 4 f fd ["cabinet"] (spN1 K C CB) := by
  refine F.okX scN_most_open (fun vs H Q E h => ?_) (fun cdv A outer s H vs Q E hr h => ?_)
  · obtain ⟨v, rfl, _⟩ := h.h
    rfl
  · obtain ⟨v, rfl, hv, k⟩ := h.h
    refine ⟨_, pss_cons (ps_expr (pe_call G0 (hr.mono (by decide)) rfl g0 k0 b0 .nil (passes_call (E := E) (takes_of rfl rfl rfl rfl) (fun _ _ _ _ z => z)) (pa_cons (pv 0) pa_nil))) pss_never, ?_⟩
    exact ⟨_, rfl, ⟨⟨v, rfl, .inr ⟨hv, k⟩⟩⟩⟩
theorem scN_never_together : FnScope ["cabinet", "standings"] ["cabinet"] (defScope s_never_together) := ⟨rfl, rfl, rfl, by decide +kernel, rfl, by decide +kernel, by decide +kernel⟩
theorem ok_never_together_N {f f0 C CB : Addr} {fd fd0 : FuncData} (F : Fun K "never_together" "never_together" s_never_together f fd)
    (G0 : FnOk P w K mg base (L2.CX P w) 2 f0 fd0 ["cabinet"] (spCkC K C CB)) (g0 : mg "check_cabinet" = some (.ref f0)) (k0 : PySem.W.keepIn K (.ref f0) = true) (b0 : Binds K fd0 ["cabinet"] []) :
    FnOk P w K mg base (L2.CX P w) 4 f fd ["cabinet"] (spN1 K C CB) := by
  refine F.okX scN_never_together (fun vs H Q E h => ?_) (fun cdv A outer s H vs Q E hr h => ?_)
  · obtain ⟨v, rfl, _⟩ := h.h
    rfl
  · obtain ⟨v, rfl, hv, k⟩ := h.h
    refine ⟨_, pss_cons (ps_expr (pe_call G0 (hr.mono (by decide)) rfl g0 k0 b0 .nil (passes_call (E := E) (takes_of rfl rfl rfl rfl) (fun _ _ _ _ z => z)) (pa_cons (pv 0) pa_nil))) pss_never, ?_⟩
    exact ⟨_, rfl, ⟨⟨v, rfl, .inr ⟨hv, k⟩⟩⟩⟩
theorem scN_can : FnScope ["cabinet", "standing"] ["cabinet", "standing"] (defScope s_can) := ⟨rfl, rfl, rfl, by decide +kernel, rfl, by decide +kernel, by decide +kernel⟩
theorem ok_can_N {f f0 C CB : Addr} {fd fd0 : FuncData} (F : Fun K "can" "can" s_can f fd)
    (G0 : FnOk P w K mg base (L2.CX P w) 2 f0 fd0 ["cabinet"] (spCkC K C CB)) (g0 : mg "check_cabinet" = some (.ref f0)) (k0 : PySem.W.keepIn K (.ref f0) = true) (b0 : Binds K fd0 ["cabinet"] []) :
    FnOk P w K mg base (L2.CX P w) 4 f fd ["cabinet", "standing"] (spN2 K C CB) := by
  refine F.okX scN_can (fun vs H Q E h => ?_) (fun cdv A outer s H vs Q E hr h => ?_)
  · obtain ⟨v, u, rfl, _⟩ := h.h
    rfl
  · obtain ⟨v, u, rfl, hv, k⟩ := h.h
    refine ⟨_, pss_cons (ps_expr (pe_call G0 (hr.mono (by decide)) rfl g0 k0 b0 .nil (passes_call (E := E) (takes_of rfl rfl rfl rfl) (fun _ _ _ _ z => z)) (pa_cons (pv 0) pa_nil))) pss_never, ?_⟩
    exact ⟨_, rfl, ⟨⟨v, rfl, .inr ⟨hv, k⟩⟩⟩⟩
theorem scN_count_rows : FnScope ["cabinet", "length"] ["cabinet", "length"] (defScope s_count_rows) := ⟨rfl, rfl, rfl, by decide +kernel, rfl, by decide +kernel, by decide +kernel⟩
theorem ok_count_rows_N {f f0 C CB : Addr} {fd fd0 : FuncData} (F : Fun K "count_rows" "count_rows" s_count_rows f fd)
    (G0 : FnOk P w K mg base (L2.CX P w) 2 f0 fd0 ["cabinet"] (spCkC K C CB)) (g0 : mg "check_cabinet" = some (.ref f0)) (k0 : PySem.W.keepIn K (.ref f0) = true) (b0 : Binds K fd0 ["cabinet"] []) :
    FnOk P w K mg base (L2.CX P w) 4 f fd ["cabinet", "length"] (spN2 K C CB) := by
  refine F.okX scN_count_rows (fun vs H Q E h => ?_) (fun cdv A outer s H vs Q E hr h => ?_)
  · obtain ⟨v, u, rfl, _⟩ := h.h
    rfl
  · obtain ⟨v, u, rfl, hv, k⟩ := h.h
    refine ⟨_, pss_cons (ps_expr (pe_call G0 (hr.mono (by decide)) rfl g0 k0 b0 .nil (passes_call (E := E) (takes_of rfl rfl rfl rfl) (fun _ _ _ _ z => z)) (pa_cons (pv 0) pa_nil))) pss_never, ?_⟩
    exact ⟨_, rfl, ⟨⟨v, rfl, .inr ⟨hv, k⟩⟩⟩⟩
theorem scN_row_to : FnScope ["cabinet", "pattern"] ["cabinet", "pattern"] (defScope s_row_to) := ⟨rfl, rfl, rfl, by decide +kernel, rfl, by decide +kernel, by decide +kernel⟩
theorem ok_row_to_N {f f0 C CB : Addr} {fd fd0 : FuncData} (F : Fun K "row_to" "row_to" s_row_to f fd)
    (G0 : FnOk P w K mg base (L2.CX P w) 2 f0 fd0 ["cabinet"] (spCkC K C CB)) (g0 : mg "check_cabinet" = some (.ref f0)) (k0 : PySem.W.keepIn K (.ref f0) = true) (b0 : Binds K fd0 ["cabinet"] []) :
    FnOk P w K mg base (L2.CX P w) 4 f fd ["cabinet", "pattern"] (spN2 K C CB) := by
  refine F.okX scN_row_to (fun vs H Q E h => ?_) (fun cdv A outer s H vs Q E hr h => ?_)
  · obtain ⟨v, u, rfl, _⟩ := h.h
    rfl
  · obtain ⟨v, u, rfl, hv, k⟩ := h.h
    refine ⟨_, pss_cons (ps_expr (pe_call G0 (hr.mono (by decide)) rfl g0 k0 b0 .nil (passes_call (E := E) (takes_of rfl rfl rfl rfl) (fun _ _ _ _ z => z)) (pa_cons (pv 0) pa_nil))) pss_never, ?_⟩
    exact ⟨_, rfl, ⟨⟨v, rfl, .inr ⟨hv, k⟩⟩⟩⟩
theorem scN_frozen : FnScope ["cabinet", "drawer", "pulls", "moving"] ["cabinet", "drawer"] (defScope s_frozen) := ⟨rfl, rfl, rfl, by decide +kernel, rfl, by decide +kernel, by decide +kernel⟩
theorem ok_frozen_N {f f0 C CB : Addr} {fd fd0 : FuncData} (F : Fun K "frozen" "frozen" s_frozen f fd)
    (G0 : FnOk P w K mg base (L2.CX P w) 2 f0 fd0 ["cabinet"] (spCkC K C CB)) (g0 : mg "check_cabinet" = some (.ref f0)) (k0 : PySem.W.keepIn K (.ref f0) = true) (b0 : Binds K fd0 ["cabinet"] []) :
    FnOk P w K mg base (L2.CX P w) 4 f fd ["cabinet", "drawer"] (spN2 K C CB) := by
  refine F.okX scN_frozen (fun vs H Q E h => ?_) (fun cdv A outer s H vs Q E hr h => ?_)
  · obtain ⟨v, u, rfl, _⟩ := h.h
    rfl
  · obtain ⟨v, u, rfl, hv, k⟩ := h.h
    refine ⟨_, pss_cons (ps_expr (pe_call G0 (hr.mono (by decide)) rfl g0 k0 b0 .nil (passes_call (E := E) (takes_of rfl rfl rfl rfl) (fun _ _ _ _ z => z)) (pa_cons (pv 0) pa_nil))) pss_never, ?_⟩
    exact ⟨_, rfl, ⟨⟨v, rfl, .inr ⟨hv, k⟩⟩⟩⟩
theorem scN_open_together : FnScope ["cabinet", "some"] ["cabinet", "some"] (defScope s_open_together) := ⟨rfl, rfl, rfl, by decide +kernel, rfl, by decide +kernel, by decide +kernel⟩
theorem ok_open_together_N {f f0 C CB : Addr} {fd fd0 : FuncData} (F : Fun K "open_together" "open_together" s_open_together f fd)
    (G0 : FnOk P w K mg base (L2.CX P w) 2 f0 fd0 ["cabinet"] (spCkC K C CB)) (g0 : mg "check_cabinet" = some (.ref f0)) (k0 : PySem.W.keepIn K (.ref f0) = true) (b0 : Binds K fd0 ["cabinet"] []) :
    FnOk P w K mg base (L2.CX P w) 4 f fd ["cabinet", "some"] (spN2 K C CB) := by
  refine F.okX scN_open_together (fun vs H Q E h => ?_) (fun cdv A outer s H vs Q E hr h => ?_)
  · obtain ⟨v, u, rfl, _⟩ := h.h
    rfl
  · obtain ⟨v, u, rfl, hv, k⟩ := h.h
    refine ⟨_, pss_cons (ps_expr (pe_call G0 (hr.mono (by decide)) rfl g0 k0 b0 .nil (passes_call (E := E) (takes_of rfl rfl rfl rfl) (fun _ _ _ _ z => z)) (pa_cons (pv 0) pa_nil))) pss_never, ?_⟩
    exact ⟨_, rfl, ⟨⟨v, rfl, .inr ⟨hv, k⟩⟩⟩⟩
theorem scN_paper : FnScope ["cabinet", "some", "standings"] ["cabinet", "some"] (defScope s_paper) := ⟨rfl, rfl, rfl, by decide +kernel, rfl, by decide +kernel, by decide +kernel⟩
theorem ok_paper_N {f f0 C CB : Addr} {fd fd0 : FuncData} (F : Fun K "paper" "paper" s_paper f fd)
    (G0 : FnOk P w K mg base (L2.CX P w) 2 f0 fd0 ["cabinet"] (spCkC K C CB)) (g0 : mg "check_cabinet" = some (.ref f0)) (k0 : PySem.W.keepIn K (.ref f0) = true) (b0 : Binds K fd0 ["cabinet"] []) :
    FnOk P w K mg base (L2.CX P w) 4 f fd ["cabinet", "some"] (spN2 K C CB) := by
  refine F.okX scN_paper (fun vs H Q E h => ?_) (fun cdv A outer s H vs Q E hr h => ?_)
  · obtain ⟨v, u, rfl, _⟩ := h.h
    rfl
  · obtain ⟨v, u, rfl, hv, k⟩ := h.h
    refine ⟨_, pss_cons (ps_expr (pe_call G0 (hr.mono (by decide)) rfl g0 k0 b0 .nil (passes_call (E := E) (takes_of rfl rfl rfl rfl) (fun _ _ _ _ z => z)) (pa_cons (pv 0) pa_nil))) pss_never, ?_⟩
    exact ⟨_, rfl, ⟨⟨v, rfl, .inr ⟨hv, k⟩⟩⟩⟩
theorem scN_barring : FnScope ["cabinet", "standing", "drawer"] ["cabinet", "standing", "drawer"] (defScope s_barring) := ⟨rfl, rfl, rfl, by decide +kernel, rfl, by decide +kernel, by decide +kernel⟩
theorem ok_barring_N {f f0 C CB : Addr} {fd fd0 : FuncData} (F : Fun K "barring" "barring" s_barring f fd)
    (G0 : FnOk P w K mg base (L2.CX P w) 2 f0 fd0 ["cabinet"] (spCkC K C CB)) (g0 : mg "check_cabinet" = some (.ref f0)) (k0 : PySem.W.keepIn K (.ref f0) = true) (b0 : Binds K fd0 ["cabinet"] []) :
    FnOk P w K mg base (L2.CX P w) 4 f fd ["cabinet", "standing", "drawer"] (spN3 K C CB) := by
  refine F.okX scN_barring (fun vs H Q E h => ?_) (fun cdv A outer s H vs Q E hr h => ?_)
  · obtain ⟨v, u, x, rfl, _⟩ := h.h
    rfl
  · obtain ⟨v, u, x, rfl, hv, k⟩ := h.h
    refine ⟨_, pss_cons (ps_expr (pe_call G0 (hr.mono (by decide)) rfl g0 k0 b0 .nil (passes_call (E := E) (takes_of rfl rfl rfl rfl) (fun _ _ _ _ z => z)) (pa_cons (pv 0) pa_nil))) pss_never, ?_⟩
    exact ⟨_, rfl, ⟨⟨v, rfl, .inr ⟨hv, k⟩⟩⟩⟩
theorem scN_behind : FnScope ["cabinet", "standing", "drawer"] ["cabinet", "standing", "drawer"] (defScope s_behind) := ⟨rfl, rfl, rfl, by decide +kernel, rfl, by decide +kernel, by decide +kernel⟩
theorem ok_behind_N {f f0 C CB : Addr} {fd fd0 : FuncData} (F : Fun K "behind" "behind" s_behind f fd)
    (G0 : FnOk P w K mg base (L2.CX P w) 2 f0 fd0 ["cabinet"] (spCkC K C CB)) (g0 : mg "check_cabinet" = some (.ref f0)) (k0 : PySem.W.keepIn K (.ref f0) = true) (b0 : Binds K fd0 ["cabinet"] []) :
    FnOk P w K mg base (L2.CX P w) 4 f fd ["cabinet", "standing", "drawer"] (spN3 K C CB) := by
  refine F.okX scN_behind (fun vs H Q E h => ?_) (fun cdv A outer s H vs Q E hr h => ?_)
  · obtain ⟨v, u, x, rfl, _⟩ := h.h
    rfl
  · obtain ⟨v, u, x, rfl, hv, k⟩ := h.h
    refine ⟨_, pss_cons (ps_expr (pe_call G0 (hr.mono (by decide)) rfl g0 k0 b0 .nil (passes_call (E := E) (takes_of rfl rfl rfl rfl) (fun _ _ _ _ z => z)) (pa_cons (pv 0) pa_nil))) pss_never, ?_⟩
    exact ⟨_, rfl, ⟨⟨v, rfl, .inr ⟨hv, k⟩⟩⟩⟩
theorem scN_count_to : FnScope ["cabinet", "length", "pattern", "counts"] ["cabinet", "length", "pattern"] (defScope s_count_to) := ⟨rfl, rfl, rfl, by decide +kernel, rfl, by decide +kernel, by decide +kernel⟩
theorem ok_count_to_N {f f0 C CB : Addr} {fd fd0 : FuncData} (F : Fun K "count_to" "count_to" s_count_to f fd)
    (G0 : FnOk P w K mg base (L2.CX P w) 2 f0 fd0 ["cabinet"] (spCkC K C CB)) (g0 : mg "check_cabinet" = some (.ref f0)) (k0 : PySem.W.keepIn K (.ref f0) = true) (b0 : Binds K fd0 ["cabinet"] []) :
    FnOk P w K mg base (L2.CX P w) 4 f fd ["cabinet", "length", "pattern"] (spN3 K C CB) := by
  refine F.okX scN_count_to (fun vs H Q E h => ?_) (fun cdv A outer s H vs Q E hr h => ?_)
  · obtain ⟨v, u, x, rfl, _⟩ := h.h
    rfl
  · obtain ⟨v, u, x, rfl, hv, k⟩ := h.h
    refine ⟨_, pss_cons (ps_expr (pe_call G0 (hr.mono (by decide)) rfl g0 k0 b0 .nil (passes_call (E := E) (takes_of rfl rfl rfl rfl) (fun _ _ _ _ z => z)) (pa_cons (pv 0) pa_nil))) pss_never, ?_⟩
    exact ⟨_, rfl, ⟨⟨v, rfl, .inr ⟨hv, k⟩⟩⟩⟩
theorem scN_guards : FnScope ["cabinet", "pairs", "most", "spare", "pulls", "apart", "many", "found"] ["cabinet", "pairs", "most"] (defScope s_guards) := ⟨rfl, rfl, rfl, by decide +kernel, rfl, by decide +kernel, by decide +kernel⟩
theorem ok_guards_N {f f0 C CB : Addr} {fd fd0 : FuncData} (F : Fun K "guards" "guards" s_guards f fd)
    (G0 : FnOk P w K mg base (L2.CX P w) 2 f0 fd0 ["cabinet"] (spCkC K C CB)) (g0 : mg "check_cabinet" = some (.ref f0)) (k0 : PySem.W.keepIn K (.ref f0) = true) (b0 : Binds K fd0 ["cabinet"] []) :
    FnOk P w K mg base (L2.CX P w) 4 f fd ["cabinet", "pairs", "most"] (spN3 K C CB) := by
  refine F.okX scN_guards (fun vs H Q E h => ?_) (fun cdv A outer s H vs Q E hr h => ?_)
  · obtain ⟨v, u, x, rfl, _⟩ := h.h
    rfl
  · obtain ⟨v, u, x, rfl, hv, k⟩ := h.h
    refine ⟨_, pss_cons (ps_expr (pe_call G0 (hr.mono (by decide)) rfl g0 k0 b0 .nil (passes_call (E := E) (takes_of rfl rfl rfl rfl) (fun _ _ _ _ z => z)) (pa_cons (pv 0) pa_nil))) pss_never, ?_⟩
    exact ⟨_, rfl, ⟨⟨v, rfl, .inr ⟨hv, k⟩⟩⟩⟩
theorem scN_right_row : FnScope ["cabinet", "pattern", "value", "end"] ["cabinet", "pattern", "value"] (defScope s_right_row) := ⟨rfl, rfl, rfl, by decide +kernel, rfl, by decide +kernel, by decide +kernel⟩
theorem ok_right_row_N {f f0 C CB : Addr} {fd fd0 : FuncData} (F : Fun K "right_row" "right_row" s_right_row f fd)
    (G0 : FnOk P w K mg base (L2.CX P w) 2 f0 fd0 ["cabinet"] (spCkC K C CB)) (g0 : mg "check_cabinet" = some (.ref f0)) (k0 : PySem.W.keepIn K (.ref f0) = true) (b0 : Binds K fd0 ["cabinet"] []) :
    FnOk P w K mg base (L2.CX P w) 4 f fd ["cabinet", "pattern", "value"] (spN3 K C CB) := by
  refine F.okX scN_right_row (fun vs H Q E h => ?_) (fun cdv A outer s H vs Q E hr h => ?_)
  · obtain ⟨v, u, x, rfl, _⟩ := h.h
    rfl
  · obtain ⟨v, u, x, rfl, hv, k⟩ := h.h
    refine ⟨_, pss_cons (ps_expr (pe_call G0 (hr.mono (by decide)) rfl g0 k0 b0 .nil (passes_call (E := E) (takes_of rfl rfl rfl rfl) (fun _ _ _ _ z => z)) (pa_cons (pv 0) pa_nil))) pss_never, ?_⟩
    exact ⟨_, rfl, ⟨⟨v, rfl, .inr ⟨hv, k⟩⟩⟩⟩
theorem scN_row_between : FnScope ["cabinet", "standing", "pattern"] ["cabinet", "standing", "pattern"] (defScope s_row_between) := ⟨rfl, rfl, rfl, by decide +kernel, rfl, by decide +kernel, by decide +kernel⟩
theorem ok_row_between_N {f f0 C CB : Addr} {fd fd0 : FuncData} (F : Fun K "row_between" "row_between" s_row_between f fd)
    (G0 : FnOk P w K mg base (L2.CX P w) 2 f0 fd0 ["cabinet"] (spCkC K C CB)) (g0 : mg "check_cabinet" = some (.ref f0)) (k0 : PySem.W.keepIn K (.ref f0) = true) (b0 : Binds K fd0 ["cabinet"] []) :
    FnOk P w K mg base (L2.CX P w) 4 f fd ["cabinet", "standing", "pattern"] (spN3 K C CB) := by
  refine F.okX scN_row_between (fun vs H Q E h => ?_) (fun cdv A outer s H vs Q E hr h => ?_)
  · obtain ⟨v, u, x, rfl, _⟩ := h.h
    rfl
  · obtain ⟨v, u, x, rfl, hv, k⟩ := h.h
    refine ⟨_, pss_cons (ps_expr (pe_call G0 (hr.mono (by decide)) rfl g0 k0 b0 .nil (passes_call (E := E) (takes_of rfl rfl rfl rfl) (fun _ _ _ _ z => z)) (pa_cons (pv 0) pa_nil))) pss_never, ?_⟩
    exact ⟨_, rfl, ⟨⟨v, rfl, .inr ⟨hv, k⟩⟩⟩⟩
theorem scN_right_paper : FnScope ["cabinet", "some", "value"] ["cabinet", "some", "value"] (defScope s_right_paper) := ⟨rfl, rfl, rfl, by decide +kernel, rfl, by decide +kernel, by decide +kernel⟩
theorem ok_right_paper_N {f f0 C CB : Addr} {fd fd0 : FuncData} (F : Fun K "right_paper" "right_paper" s_right_paper f fd)
    (G0 : FnOk P w K mg base (L2.CX P w) 2 f0 fd0 ["cabinet"] (spCkC K C CB)) (g0 : mg "check_cabinet" = some (.ref f0)) (k0 : PySem.W.keepIn K (.ref f0) = true) (b0 : Binds K fd0 ["cabinet"] []) :
    FnOk P w K mg base (L2.CX P w) 4 f fd ["cabinet", "some", "value"] (spN3 K C CB) := by
  refine F.okX scN_right_paper (fun vs H Q E h => ?_) (fun cdv A outer s H vs Q E hr h => ?_)
  · obtain ⟨v, u, x, rfl, _⟩ := h.h
    rfl
  · obtain ⟨v, u, x, rfl, hv, k⟩ := h.h
    refine ⟨_, pss_cons (ps_expr (pe_call G0 (hr.mono (by decide)) rfl g0 k0 b0 .nil (passes_call (E := E) (takes_of rfl rfl rfl rfl) (fun _ _ _ _ z => z)) (pa_cons (pv 0) pa_nil))) pss_never, ?_⟩
    exact ⟨_, rfl, ⟨⟨v, rfl, .inr ⟨hv, k⟩⟩⟩⟩
theorem scN_fa : FnScope ["one", "other", "standing", "row", "drawer"] ["one", "other"] (defScope s_first_apart) := ⟨rfl, rfl, rfl, by decide +kernel, rfl, by decide +kernel, by decide +kernel⟩
theorem ok_first_apart_N {f f0 C CB : Addr} {fd fd0 : FuncData} (F : Fun K "first_apart" "first_apart" s_first_apart f fd)
    (G0 : FnOk P w K mg base (L2.CX P w) 2 f0 fd0 ["cabinet"] (spCkC K C CB)) (g0 : mg "check_cabinet" = some (.ref f0)) (k0 : PySem.W.keepIn K (.ref f0) = true) (b0 : Binds K fd0 ["cabinet"] []) :
    FnOk P w K mg base (L2.CX P w) 4 f fd ["one", "other"] (spNA K C CB) := by
  refine F.okX scN_fa (fun vs H Q E h => ?_) (fun cdv A outer s H vs Q E hr h => ?_)
  · obtain ⟨v, u, rfl, _⟩ := h.h
    rfl
  · obtain ⟨v, u, rfl, hv, k⟩ := h.h
    refine ⟨_, pss_cons (ps_expr (pe_call G0 (hr.mono (by decide)) rfl g0 k0 b0 .nil (passes_call (E := E) (takes_of rfl rfl rfl rfl) (fun _ _ _ _ z => z)) (pa_cons (pv 0) pa_nil)))
      (pss_cons (ps_expr (pe_call G0 (hr.mono (by decide)) rfl g0 k0 b0 .nil (passes_call (E := E) (takes_of rfl rfl rfl rfl) (fun _ _ _ _ z => z)) (pa_cons (pv 1) pa_nil))) pss_never), ?_⟩
    rcases hv with hv | ⟨⟨c, n, t, rfl, hc⟩, hu⟩
    · exact ⟨_, rfl, ⟨⟨v, rfl, .inr ⟨hv, k⟩⟩⟩⟩
    · exact ⟨_, rfl, ⟨⟨_, rfl, .inl ⟨c, n, t, rfl, hc, _, rfl, ⟨⟨u, rfl, .inr ⟨hu, k⟩⟩⟩⟩⟩⟩⟩
theorem scN_al : FnScope ["one", "other"] ["one", "other"] (defScope s_alike) := ⟨rfl, rfl, rfl, by decide +kernel, rfl, by decide +kernel, by decide +kernel⟩
theorem ok_alike_N {f f0 C CB : Addr} {fd fd0 : FuncData} (F : Fun K "alike" "alike" s_alike f fd)
    (G0 : FnOk P w K mg base (L2.CX P w) 4 f0 fd0 ["one", "other"] (spNA K C CB)) (g0 : mg "first_apart" = some (.ref f0)) (k0 : PySem.W.keepIn K (.ref f0) = true) (b0 : Binds K fd0 ["one", "other"] []) :
    FnOk P w K mg base (L2.CX P w) 5 f fd ["one", "other"] (spNA K C CB) := by
  refine F.okX scN_al (fun vs H Q E h => ?_) (fun cdv A outer s H vs Q E hr h => ?_)
  · obtain ⟨v, u, rfl, _⟩ := h.h
    rfl
  · obtain ⟨v, u, rfl, hv⟩ := h.h
    refine ⟨_, pss_one (ps_ret (pe_cmp (pc_isN (pe_call G0 (hr.mono (by decide)) rfl g0 k0 b0 .nil (passes_call (E := E) (takes_of rfl rfl rfl rfl) (fun _ _ _ _ z => z)) (pa_cons (pv 0) (pa_cons (pv 1) pa_nil)))))), ?_⟩
    exact ⟨_, rfl, _, rfl, ⟨⟨v, u, rfl, hv⟩⟩⟩
structure spDeskN (K : PySem.W.Frag) (C CB : Addr) (vs : List V) (H : Hp) (_ : VK) (E : XK) : Prop where
  h : ∃ p v : V, vs = [p, v] ∧ NoCab K C H v ∧ E (.ref CB) none H
theorem ok_deskN {f f0 C CB : Addr} {fd fd0 : FuncData} (F : Fun K "__init__" "Desk.__init__" s_Desk__init_ f fd)
    (G0 : FnOk P w K mg base (L2.CX P w) 2 f0 fd0 ["cabinet"] (spCkC K C CB)) (g0 : mg "check_cabinet" = some (.ref f0)) (k0 : PySem.W.keepIn K (.ref f0) = true) (b0 : Binds K fd0 ["cabinet"] []) :
    FnOk P w K mg base (L2.CX P w) 4 f fd ["self", "cabinet"] (spDeskN K C CB) := by
  refine F.okX scDI (fun vs H Q E h => ?_) (fun cdv A outer s H vs Q E hr h => ?_)
  · obtain ⟨p, v, rfl, _⟩ := h.h
    rfl
  · obtain ⟨p, v, rfl, hv, k⟩ := h.h
    refine ⟨_, pss_cons (ps_expr (pe_call G0 (hr.mono (by decide)) rfl g0 k0 b0 .nil (passes_call (E := E) (takes_of rfl rfl rfl rfl) (fun _ _ _ _ z => z)) (pa_cons (pv 1) pa_nil))) pss_never, ?_⟩
    exact ⟨_, rfl, ⟨⟨v, rfl, .inr ⟨hv, k⟩⟩⟩⟩
end
end DL

set_option Elab.async false
set_option maxRecDepth 100000
set_option maxHeartbeats 4000000
namespace DL
open PySem L2 HT TL
def spLaw02 (K : PySem.W.Frag) : Sp := fun vs H Q _ => ∃ (a : Addr) (ns : List Int), vs = [.ref a] ∧ SqL K H a (ns.map V.int) ∧ ns.length ≤ 63 ∧ ∀ H', Q (.bl true) H'
/-- the law's call: which function, and what is no cabinet -/
structure spCall02 (K : PySem.W.Frag) (C CB : Addr) (vs : List V) (H : Hp) (_ : VK) (E : XK) : Prop where
  h : ∃ (kd : Int) (v : V), vs = [.int kd, v] ∧ 0 ≤ kd ∧ kd < 28 ∧ NoCab K C H v ∧ ∀ H', Same H H' → E (.ref CB) none H'
structure KitC (K : PySem.W.Frag) (C : Addr) : Prop where
  n : PySem.W.kitOne K (.type "NoneType") (.ref C) = some false
  i : PySem.W.kitOne K (.type "int") (.ref C) = some false
  b : PySem.W.kitOne K (.type "bool") (.ref C) = some false
  t : PySem.W.kitOne K (.type "tuple") (.ref C) = some false
  s : PySem.W.kitOne K (.type "str") (.ref C) = some false
  d : PySem.W.kitOne K (.type "dict") (.ref C) = some false
structure spOddC (K : PySem.W.Frag) (C : Addr) (vs : List V) (H : Hp) (Q : VK) (_ : XK) : Prop where
  h : ∃ (r sc : Addr) (ns : List Int), vs = [.ref r] ∧ RowOk H r sc ∧ (∀ H', But r H H' → SqL K H' sc (ns.map V.int)) ∧ ∀ (x : V) (H' : Hp), RowOk H' r sc → But r H H' → (∀ H'', Same H' H'' → NoCab K C H'' x) → Q x H'
theorem okNil2 (n : Int) : OkBars n (([] : List (Addr × Bar)).map (·.2)) := ⟨fun _ h => (by cases h), List.Pairwise.nil⟩
section
variable {P : Program} {w : World} {K : PySem.W.Frag} {mg : Str → Option Value} {base : Heap}
theorem scOC : FnScope ["_law_row"] ["_law_row"] (defScope s__law_odd) := ⟨rfl, rfl, rfl, by decide +kernel, rfl, by decide +kernel, by decide +kernel⟩
theorem ok_oddC {f fT C : Addr} {fd dT : FuncData} (F : Fun K "_law_odd" "_law_odd" s__law_odd f fd) (T : Bt mg) (KC : KitC K C)
    (GT : FnOk P w K mg base CX0 1 fT dT ["_law_row", "_law_many"] (spTaken K)) (gT : mg "_law_taken" = some (.ref fT)) (kT : PySem.W.keepIn K (.ref fT) = true) (bT : Binds K dT ["_law_row", "_law_many"] []) :
    FnOk P w K mg base CX0 2 f fd ["_law_row"] (spOddC K C) := by
  refine F.ok scOC (fun vs H Q E h => ?_) (fun cdv A outer s H vs Q E hr h => ?_)
  · obtain ⟨r, sc, ns, rfl, _⟩ := h.h
    rfl
  · obtain ⟨r, sc, ns, rfl, R, SB, k⟩ := h.h
    refine ⟨_, pss_one (ps_ret (pe_ix ix_list (pe_lst (pa_cons pe_non (pa_cons pe_int (pa_cons pe_bl (pa_cons (pe_tup (pa_cons pe_int (pa_cons (pe_tup pa_nil) pa_nil))) (pa_cons pe_str (pa_cons pe_dnewT pa_nil)))))))
      (pe_call GT (hr.mono (by decide)) rfl gT kT bT .nil pass0 (pa_cons (pv 0) (pa_cons pe_int pa_nil))) (fun _ _ => rfl))), ?_⟩
    refine ⟨(by show 0 ≤ sizeLine; decide), fun e he => ?_⟩
    obtain ⟨s1, f1⟩ := new_at (o := .tup []) he
    generalize upd H e (.tup []) = H1 at s1 f1 ⊢
    refine ⟨(by show 2 ≤ sizeLine; decide), fun p hp => ?_⟩
    obtain ⟨s2, f2⟩ := new_at (o := .tup [.int 2, .ref e]) hp
    generalize upd H1 p (.tup [.int 2, .ref e]) = H2 at s2 f2 ⊢
    refine fun d hd => ?_
    obtain ⟨s3, f3⟩ := new_at (o := .dT []) hd
    generalize upd H2 d (.dT []) = H3 at s3 f3 ⊢
    refine ⟨(by show 6 ≤ sizeLine; decide), fun l hl => ?_⟩
    obtain ⟨s4, f4⟩ := new_at (o := .lst [.non, .int 2, .bl true, .ref p, .str "drawers 2", .ref d]) hl
    simp only [] at s4 f4 ⊢
    generalize upd H3 l (.lst [.non, .int 2, .bl true, .ref p, .str "drawers 2", .ref d]) = H4 at s4 f4 ⊢
    have s04 := (((s1.trans s2).trans s3).trans s4)
    obtain ⟨_, _, _, hR, _⟩ := id R.h
    have nd : d ≠ r := (ne_of_none ((s1.trans s2) _ _ hR) hd).symm
    have nl : l ≠ r := (ne_of_none (((s1.trans s2).trans s3) _ _ hR) hl).symm
    have R4 := R.same s04
    obtain ⟨_, _, _, hR4, _⟩ := id R4.h
    refine ⟨_, rfl, ⟨⟨r, sc, ns, 6, rfl, R4, SB H4 (sbut s04), by decide, by decide, fun v H5 v0 v1 R5 B5 => ?_⟩⟩⟩
    have hp5 : SqT K H5 p [.int 2, .ref e] := sqT_but hR4 B5 (SqT.of' ((s3.trans s4) _ _ f2))
    have hd5 := B5 _ _ nd (s4 _ _ f3)
    have fin : ∃ x, atI [V.non, .int 2, .bl true, .ref p, .str "drawers 2", .ref d] v = some x ∧ ∀ H'', Same H5 H'' → NoCab K C H'' x := by
      have : v = 0 ∨ v = 1 ∨ v = 2 ∨ v = 3 ∨ v = 4 ∨ v = 5 := by omega
      rcases this with rfl | rfl | rfl | rfl | rfl | rfl
      · exact ⟨.non, rfl, fun _ _ => ⟨_, fun _ _ => .base .non, KC.n⟩⟩
      · exact ⟨.int 2, rfl, fun _ _ => ⟨_, fun _ _ => .base (.int _), KC.i⟩⟩
      · exact ⟨.bl true, rfl, fun _ _ => ⟨_, fun _ _ => .base (.bl _), KC.b⟩⟩
      · exact ⟨.ref p, rfl, fun _ s => ⟨_, fun _ s' => tyT (SqT.same (s.trans s') hp5), KC.t⟩⟩
      · exact ⟨.str "drawers 2", rfl, fun _ _ => ⟨_, fun _ _ => .base (.str _), KC.s⟩⟩
      · exact ⟨.ref d, rfl, fun _ s => ⟨_, fun _ s' => .base (.dT (s' _ _ (s _ _ hd5))), KC.d⟩⟩
    obtain ⟨x, ax, nx⟩ := fin
    exact ⟨l, _, v, x, rfl, rfl, SqL.of (B5 _ _ nl f4), ax, k x H5 R5 ((sbut s04).trans B5) nx⟩
abbrev nC02 : List Str := ["_law_kind", "_law_value", "_law_good", "_law_some"]
theorem scLC : FnScope nC02 ["_law_kind", "_law_value"] (defScope s__law_call) := ⟨rfl, rfl, rfl, by decide +kernel, rfl, by decide +kernel, by decide +kernel⟩
theorem ok_call02 {f fI fD C D CB : Addr} {fd dI dD : FuncData} {f0 f1 f2 f3 f4 f5 f6 f7 f8 f9 f10 f11 f12 f13 f14 f15 f16 f17 f18 f19 f20 f21 f22 f23 f24 : Addr} {d0 d1 d2 d3 d4 d5 d6 d7 d8 d9 d10 d11 d12 d13 d14 d15 d16 d17 d18 d19 d20 d21 d22 d23 d24 : FuncData} (F : Fun K "_law_call" "_law_call" s__law_call f fd)
    (T2 : CabT K mg C) (M : Mk K C fI) (GI : FnOk P w K mg base CX0 5 fI dI ["self", "drawers", "bars"] (spInit C)) (bI : Binds K dI ["self", "drawers", "bars"] [])
    (gDk : mg "Desk" = some (.ref D)) (MD : Mk K D fD) (GD : FnOk P w K mg base (L2.CX P w) 4 fD dD ["self", "cabinet"] (spDeskN K C CB)) (bD : Binds K dD ["self", "cabinet"] [])
    (G0 : FnOk P w K mg base (L2.CX P w) 4 f0 d0 ["cabinet"] (spN1 K C CB)) (g0 : mg "fewest_bars" = some (.ref f0)) (k0 : PySem.W.keepIn K (.ref f0) = true) (b0 : Binds K d0 ["cabinet"] [])
    (G1 : FnOk P w K mg base (L2.CX P w) 4 f1 d1 ["cabinet"] (spN1 K C CB)) (g1 : mg "needless" = some (.ref f1)) (k1 : PySem.W.keepIn K (.ref f1) = true) (b1 : Binds K d1 ["cabinet"] [])
    (G2 : FnOk P w K mg base (L2.CX P w) 4 f2 d2 ["cabinet"] (spN1 K C CB)) (g2 : mg "farthest" = some (.ref f2)) (k2 : PySem.W.keepIn K (.ref f2) = true) (b2 : Binds K d2 ["cabinet"] [])
    (G3 : FnOk P w K mg base (L2.CX P w) 4 f3 d3 ["cabinet"] (spN1 K C CB)) (g3 : mg "reached" = some (.ref f3)) (k3 : PySem.W.keepIn K (.ref f3) = true) (b3 : Binds K d3 ["cabinet"] [])
    (G4 : FnOk P w K mg base (L2.CX P w) 4 f4 d4 ["cabinet"] (spN1 K C CB)) (g4 : mg "dead_end" = some (.ref f4)) (k4 : PySem.W.keepIn K (.ref f4) = true) (b4 : Binds K d4 ["cabinet"] [])
    (G5 : FnOk P w K mg base (L2.CX P w) 4 f5 d5 ["cabinet"] (spN1 K C CB)) (g5 : mg "never_opened" = some (.ref f5)) (k5 : PySem.W.keepIn K (.ref f5) = true) (b5 : Binds K d5 ["cabinet"] [])
    (G6 : FnOk P w K mg base (L2.CX P w) 4 f6 d6 ["cabinet"] (spN1 K C CB)) (g6 : mg "no_return" = some (.ref f6)) (k6 : PySem.W.keepIn K (.ref f6) = true) (b6 : Binds K d6 ["cabinet"] [])
    (G7 : FnOk P w K mg base (L2.CX P w) 4 f7 d7 ["cabinet"] (spN1 K C CB)) (g7 : mg "write" = some (.ref f7)) (k7 : PySem.W.keepIn K (.ref f7) = true) (b7 : Binds K d7 ["cabinet"] [])
    (G8 : FnOk P w K mg base (L2.CX P w) 4 f8 d8 ["cabinet"] (spN1 K C CB)) (g8 : mg "most_open" = some (.ref f8)) (k8 : PySem.W.keepIn K (.ref f8) = true) (b8 : Binds K d8 ["cabinet"] [])
    (G9 : FnOk P w K mg base (L2.CX P w) 4 f9 d9 ["cabinet"] (spN1 K C CB)) (g9 : mg "never_together" = some (.ref f9)) (k9 : PySem.W.keepIn K (.ref f9) = true) (b9 : Binds K d9 ["cabinet"] [])
    (G10 : FnOk P w K mg base (L2.CX P w) 4 f10 d10 ["cabinet", "standing"] (spN2 K C CB)) (g10 : mg "can" = some (.ref f10)) (k10 : PySem.W.keepIn K (.ref f10) = true) (b10 : Binds K d10 ["cabinet", "standing"] [])
    (G11 : FnOk P w K mg base (L2.CX P w) 4 f11 d11 ["cabinet", "length"] (spN2 K C CB)) (g11 : mg "count_rows" = some (.ref f11)) (k11 : PySem.W.keepIn K (.ref f11) = true) (b11 : Binds K d11 ["cabinet", "length"] [])
    (G12 : FnOk P w K mg base (L2.CX P w) 5 f12 d12 ["one", "other"] (spNA K C CB)) (g12 : mg "alike" = some (.ref f12)) (k12 : PySem.W.keepIn K (.ref f12) = true) (b12 : Binds K d12 ["one", "other"] [])
    (G13 : FnOk P w K mg base (L2.CX P w) 4 f13 d13 ["one", "other"] (spNA K C CB)) (g13 : mg "first_apart" = some (.ref f13)) (k13 : PySem.W.keepIn K (.ref f13) = true) (b13 : Binds K d13 ["one", "other"] [])
    (G14 : FnOk P w K mg base (L2.CX P w) 4 f14 d14 ["cabinet", "pattern"] (spN2 K C CB)) (g14 : mg "row_to" = some (.ref f14)) (k14 : PySem.W.keepIn K (.ref f14) = true) (b14 : Binds K d14 ["cabinet", "pattern"] [])
    (G15 : FnOk P w K mg base (L2.CX P w) 4 f15 d15 ["cabinet", "drawer"] (spN2 K C CB)) (g15 : mg "frozen" = some (.ref f15)) (k15 : PySem.W.keepIn K (.ref f15) = true) (b15 : Binds K d15 ["cabinet", "drawer"] [])
    (G16 : FnOk P w K mg base (L2.CX P w) 4 f16 d16 ["cabinet", "some"] (spN2 K C CB)) (g16 : mg "open_together" = some (.ref f16)) (k16 : PySem.W.keepIn K (.ref f16) = true) (b16 : Binds K d16 ["cabinet", "some"] [])
    (G17 : FnOk P w K mg base (L2.CX P w) 4 f17 d17 ["cabinet", "some"] (spN2 K C CB)) (g17 : mg "paper" = some (.ref f17)) (k17 : PySem.W.keepIn K (.ref f17) = true) (b17 : Binds K d17 ["cabinet", "some"] [])
    (G18 : FnOk P w K mg base (L2.CX P w) 4 f18 d18 ["cabinet", "standing", "drawer"] (spN3 K C CB)) (g18 : mg "barring" = some (.ref f18)) (k18 : PySem.W.keepIn K (.ref f18) = true) (b18 : Binds K d18 ["cabinet", "standing", "drawer"] [])
    (G19 : FnOk P w K mg base (L2.CX P w) 4 f19 d19 ["cabinet", "standing", "drawer"] (spN3 K C CB)) (g19 : mg "behind" = some (.ref f19)) (k19 : PySem.W.keepIn K (.ref f19) = true) (b19 : Binds K d19 ["cabinet", "standing", "drawer"] [])
    (G20 : FnOk P w K mg base (L2.CX P w) 4 f20 d20 ["cabinet", "length", "pattern"] (spN3 K C CB)) (g20 : mg "count_to" = some (.ref f20)) (k20 : PySem.W.keepIn K (.ref f20) = true) (b20 : Binds K d20 ["cabinet", "length", "pattern"] [])
    (G21 : FnOk P w K mg base (L2.CX P w) 4 f21 d21 ["cabinet", "pairs", "most"] (spN3 K C CB)) (g21 : mg "guards" = some (.ref f21)) (k21 : PySem.W.keepIn K (.ref f21) = true) (b21 : Binds K d21 ["cabinet", "pairs", "most"] [])
    (G22 : FnOk P w K mg base (L2.CX P w) 4 f22 d22 ["cabinet", "pattern", "value"] (spN3 K C CB)) (g22 : mg "right_row" = some (.ref f22)) (k22 : PySem.W.keepIn K (.ref f22) = true) (b22 : Binds K d22 ["cabinet", "pattern", "value"] [])
    (G23 : FnOk P w K mg base (L2.CX P w) 4 f23 d23 ["cabinet", "standing", "pattern"] (spN3 K C CB)) (g23 : mg "row_between" = some (.ref f23)) (k23 : PySem.W.keepIn K (.ref f23) = true) (b23 : Binds K d23 ["cabinet", "standing", "pattern"] [])
    (G24 : FnOk P w K mg base (L2.CX P w) 4 f24 d24 ["cabinet", "some", "value"] (spN3 K C CB)) (g24 : mg "right_paper" = some (.ref f24)) (k24 : PySem.W.keepIn K (.ref f24) = true) (b24 : Binds K d24 ["cabinet", "some", "value"] []) :
    FnOk P w K mg base (L2.CX P w) 9 f fd ["_law_kind", "_law_value"] (spCall02 K C CB) := by
  refine F.okX scLC (fun vs H Q E h => ?_) (fun cdv A outer s H vs Q E hr h => ?_)
  · obtain ⟨kd, v, rfl, _⟩ := h.h
    rfl
  · obtain ⟨kd, v, rfl, k0', k28, hv, k⟩ := h.h
    have pas := passes_call (X := cxOf (L2.CX P w) P w K mg base nC02 "_law_call" (defScope s__law_call) f cdv A outer s H E) (E := E) (takes_of rfl rfl rfl rfl) (fun _ _ _ _ z => z)
    refine ⟨_, pss_cons (ps_set (i := 2) scLC.nd rfl (Or.inl rfl) (pe_make M GI (hr.mono (by decide)) rfl T2.mgC bI .nil pass0 (pa_cons pe_int (pa_cons (pe_tup pa_nil) pa_nil))))
      (pss_one (ps_if (pt_cmpR op_lt (pv 0) pe_int (nomark _)) (pss_cons (ps_set (i := 3) scLC.nd rfl (Or.inl rfl) (pe_lst (pa_cons (pe_glob (v := .ref f0) rfl g0 rfl) (pa_cons (pe_glob (v := .ref f1) rfl g1 rfl) (pa_cons (pe_glob (v := .ref f2) rfl g2 rfl) (pa_cons (pe_glob (v := .ref f3) rfl g3 rfl) (pa_cons (pe_glob (v := .ref f4) rfl g4 rfl) (pa_cons (pe_glob (v := .ref f5) rfl g5 rfl) (pa_cons (pe_glob (v := .ref f6) rfl g6 rfl) (pa_cons (pe_glob (v := .ref f7) rfl g7 rfl) (pa_cons (pe_glob (v := .ref f8) rfl g8 rfl) pa_nil))))))))))) (pss_one (ps_expr (pe_callE (S := [(f0, spN1 K C CB), (f1, spN1 K C CB), (f2, spN1 K C CB), (f3, spN1 K C CB), (f4, spN1 K C CB), (f5, spN1 K C CB), (f6, spN1 K C CB), (f7, spN1 K C CB), (f8, spN1 K C CB), (f9, spN1 K C CB)]) (E := fun _ => E) (k := 5) (CX := L2.CX P w) (pe_ix ix_list (pe_op op_cat (pv 3) (pe_lst (pa_cons (pe_glob (v := .ref f9) rfl g9 rfl) pa_nil))) (pv 0) (fun _ _ => rfl))
          (fun q hq => by
            simp only [List.mem_cons, List.not_mem_nil, or_false] at hq
            rcases hq with rfl | rfl | rfl | rfl | rfl | rfl | rfl | rfl | rfl | rfl
            · exact ⟨_, _, G0.mono (by decide), k0, b0⟩
            · exact ⟨_, _, G1.mono (by decide), k1, b1⟩
            · exact ⟨_, _, G2.mono (by decide), k2, b2⟩
            · exact ⟨_, _, G3.mono (by decide), k3, b3⟩
            · exact ⟨_, _, G4.mono (by decide), k4, b4⟩
            · exact ⟨_, _, G5.mono (by decide), k5, b5⟩
            · exact ⟨_, _, G6.mono (by decide), k6, b6⟩
            · exact ⟨_, _, G7.mono (by decide), k7, b7⟩
            · exact ⟨_, _, G8.mono (by decide), k8, b8⟩
            · exact ⟨_, _, G9.mono (by decide), k9, b9⟩) (hr.mono (by decide)) (fun σ pins H0 => pas pins σ H0) (pa_cons (pv 1) pa_nil)))))
      (pss_one (ps_if (pt_cmpR op_lt (pv 0) pe_int (nomark _)) (pss_cons (ps_set (i := 3) scLC.nd rfl (Or.inl rfl) (pe_lst (pa_cons (pe_glob (v := .ref f10) rfl g10 rfl) (pa_cons (pe_glob (v := .ref f11) rfl g11 rfl) (pa_cons (pe_glob (v := .ref f12) rfl g12 rfl) (pa_cons (pe_glob (v := .ref f13) rfl g13 rfl) (pa_cons (pe_glob (v := .ref f14) rfl g14 rfl) (pa_cons (pe_glob (v := .ref f15) rfl g15 rfl) (pa_cons (pe_glob (v := .ref f16) rfl g16 rfl) (pa_cons (pe_glob (v := .ref f17) rfl g17 rfl) pa_nil)))))))))) (pss_one (ps_expr (pe_callE (S := [(f10, spN2 K C CB), (f11, spN2 K C CB), (f12, spNA K C CB), (f13, spNA K C CB), (f14, spN2 K C CB), (f15, spN2 K C CB), (f16, spN2 K C CB), (f17, spN2 K C CB)]) (E := fun _ => E) (k := 5) (CX := L2.CX P w) (pe_ix ix_list (pv 3) (pe_op op_sub (pv 0) pe_int) (fun _ _ => rfl))
          (fun q hq => by
            simp only [List.mem_cons, List.not_mem_nil, or_false] at hq
            rcases hq with rfl | rfl | rfl | rfl | rfl | rfl | rfl | rfl
            · exact ⟨_, _, G10.mono (by decide), k10, b10⟩
            · exact ⟨_, _, G11.mono (by decide), k11, b11⟩
            · exact ⟨_, _, G12.mono (by decide), k12, b12⟩
            · exact ⟨_, _, G13.mono (by decide), k13, b13⟩
            · exact ⟨_, _, G14.mono (by decide), k14, b14⟩
            · exact ⟨_, _, G15.mono (by decide), k15, b15⟩
            · exact ⟨_, _, G16.mono (by decide), k16, b16⟩
            · exact ⟨_, _, G17.mono (by decide), k17, b17⟩) (hr.mono (by decide)) (fun σ pins H0 => pas pins σ H0) (pa_cons (pv 1) (pa_cons pe_non pa_nil))))))
      (pss_one (ps_if (pt_cmpR op_lt (pv 0) pe_int (nomark _)) (pss_one (ps_expr (pe_callE (S := [(f12, spNA K C CB), (f13, spNA K C CB)]) (E := fun _ => E) (k := 5) (CX := L2.CX P w) (pe_ix ix_list (pe_lst (pa_cons (pe_glob (v := .ref f12) rfl g12 rfl) (pa_cons (pe_glob (v := .ref f13) rfl g13 rfl) pa_nil))) (pe_op op_sub (pv 0) pe_int) (fun _ _ => rfl))
          (fun q hq => by
            simp only [List.mem_cons, List.not_mem_nil, or_false] at hq
            rcases hq with rfl | rfl
            · exact ⟨_, _, G12.mono (by decide), k12, b12⟩
            · exact ⟨_, _, G13.mono (by decide), k13, b13⟩) (hr.mono (by decide)) (fun σ pins H0 => pas pins σ H0) (pa_cons (pv 2) (pa_cons (pv 1) pa_nil)))))
      (pss_one (ps_if (pt_cmpR op_lt (pv 0) pe_int (nomark _)) (pss_cons (ps_set (i := 3) scLC.nd rfl (Or.inl rfl) (pe_lst (pa_cons (pe_glob (v := .ref f18) rfl g18 rfl) (pa_cons (pe_glob (v := .ref f19) rfl g19 rfl) (pa_cons (pe_glob (v := .ref f20) rfl g20 rfl) (pa_cons (pe_glob (v := .ref f21) rfl g21 rfl) (pa_cons (pe_glob (v := .ref f22) rfl g22 rfl) (pa_cons (pe_glob (v := .ref f23) rfl g23 rfl) (pa_cons (pe_glob (v := .ref f24) rfl g24 rfl) pa_nil))))))))) (pss_one (ps_expr (pe_callE (S := [(f18, spN3 K C CB), (f19, spN3 K C CB), (f20, spN3 K C CB), (f21, spN3 K C CB), (f22, spN3 K C CB), (f23, spN3 K C CB), (f24, spN3 K C CB)]) (E := fun _ => E) (k := 5) (CX := L2.CX P w) (pe_ix ix_list (pv 3) (pe_op op_sub (pv 0) pe_int) (fun _ _ => rfl))
          (fun q hq => by
            simp only [List.mem_cons, List.not_mem_nil, or_false] at hq
            rcases hq with rfl | rfl | rfl | rfl | rfl | rfl | rfl
            · exact ⟨_, _, G18.mono (by decide), k18, b18⟩
            · exact ⟨_, _, G19.mono (by decide), k19, b19⟩
            · exact ⟨_, _, G20.mono (by decide), k20, b20⟩
            · exact ⟨_, _, G21.mono (by decide), k21, b21⟩
            · exact ⟨_, _, G22.mono (by decide), k22, b22⟩
            · exact ⟨_, _, G23.mono (by decide), k23, b23⟩
            · exact ⟨_, _, G24.mono (by decide), k24, b24⟩) (hr.mono (by decide)) (fun σ pins H0 => pas pins σ H0) (pa_cons (pv 1) (pa_cons pe_non (pa_cons pe_non pa_nil)))))))
      (pss_one (ps_expr (pe_mkS MD GD (hr.mono (by decide)) rfl gDk bD (fun σ pins H0 => pas pins σ H0) (pa_cons (pv 1) pa_nil)))))))))))), ?_⟩
    refine ⟨by show 0 ≤ sizeLine; decide, fun q hq => ?_⟩
    obtain ⟨s1, e1⟩ := new_at (o := .tup []) hq
    generalize upd H q (.tup []) = H1 at s1 e1 ⊢
    intro c dx nc ndx nex
    have s2 : Same H1 (upd (upd H1 dx (.own c)) c (.ins C dx [])) := fun b o e => by
      rw [upd_ne (ne_of_none e nc), upd_ne (ne_of_none e ndx)]
      exact e
    refine ⟨⟨c, dx, 2, q, [], rfl, upd_same, by omega, by omega, ⟨s2 _ _ e1, fun _ h => (by cases h)⟩, okNil2 2, fun H4 hx kp => ⟨rfl, ?_⟩⟩⟩
    have s3 : Same H1 H4 := fun b o e => kp b o (ne_of_none e nc) (s2 b o e)
    have s4 := s1.trans s3
    have hv4 := hv.same s4
    have k4 : ∀ H', Same H4 H' → E (.ref CB) none H' := fun H' s => k H' (s4.trans s)
    have : kd = 0 ∨ kd = 1 ∨ kd = 2 ∨ kd = 3 ∨ kd = 4 ∨ kd = 5 ∨ kd = 6 ∨ kd = 7 ∨ kd = 8 ∨ kd = 9 ∨ kd = 10 ∨ kd = 11 ∨ kd = 12 ∨ kd = 13 ∨ kd = 14 ∨ kd = 15 ∨ kd = 16 ∨ kd = 17 ∨ kd = 18 ∨ kd = 19 ∨ kd = 20 ∨ kd = 21 ∨ kd = 22 ∨ kd = 23 ∨ kd = 24 ∨ kd = 25 ∨ kd = 26 ∨ kd = 27 := by omega
    rcases this with rfl | rfl | rfl | rfl | rfl | rfl | rfl | rfl | rfl | rfl | rfl | rfl | rfl | rfl | rfl | rfl | rfl | rfl | rfl | rfl | rfl | rfl | rfl | rfl | rfl | rfl | rfl | rfl
    · refine ⟨_, rfl, _, _, rfl, rfl, _, rfl, iteT ?_⟩
      refine ⟨(by show 9 ≤ sizeLine; decide), fun l1 h1 => ?_⟩
      obtain ⟨s5, g5⟩ := new_at (o := .lst [.ref f0, .ref f1, .ref f2, .ref f3, .ref f4, .ref f5, .ref f6, .ref f7, .ref f8]) h1
      simp only [] at s5 g5 ⊢
      generalize upd H4 l1 (.lst [.ref f0, .ref f1, .ref f2, .ref f3, .ref f4, .ref f5, .ref f6, .ref f7, .ref f8]) = H5 at s5 g5 ⊢
      refine ⟨_, rfl, ?_⟩
      refine ⟨(by show 1 ≤ sizeLine; decide), fun l2 h2 => ?_⟩
      obtain ⟨s6, g6⟩ := new_at (o := .lst [.ref f9]) h2
      simp only [] at s6 g6 ⊢
      generalize upd H5 l2 (.lst [.ref f9]) = H6 at s6 g6 ⊢
      refine ⟨l1, l2, _, _, rfl, rfl, s6 _ _ g5, g6, (by show 10 ≤ sizeLine; decide), fun l3 h3 => ?_⟩
      obtain ⟨s7, g7⟩ := new_at (o := .lst [.ref f0, .ref f1, .ref f2, .ref f3, .ref f4, .ref f5, .ref f6, .ref f7, .ref f8, .ref f9]) h3
      have s47 := (s5.trans s6).trans s7
      exact ⟨_, rfl, l3, _, 0, .ref f0, rfl, rfl, SqL.of g7, rfl, f0, _, List.mem_cons_self, rfl, _, rfl, ⟨⟨v, rfl, hv4.same s47, k4 _ s47⟩⟩⟩
    · refine ⟨_, rfl, _, _, rfl, rfl, _, rfl, iteT ?_⟩
      refine ⟨(by show 9 ≤ sizeLine; decide), fun l1 h1 => ?_⟩
      obtain ⟨s5, g5⟩ := new_at (o := .lst [.ref f0, .ref f1, .ref f2, .ref f3, .ref f4, .ref f5, .ref f6, .ref f7, .ref f8]) h1
      simp only [] at s5 g5 ⊢
      generalize upd H4 l1 (.lst [.ref f0, .ref f1, .ref f2, .ref f3, .ref f4, .ref f5, .ref f6, .ref f7, .ref f8]) = H5 at s5 g5 ⊢
      refine ⟨_, rfl, ?_⟩
      refine ⟨(by show 1 ≤ sizeLine; decide), fun l2 h2 => ?_⟩
      obtain ⟨s6, g6⟩ := new_at (o := .lst [.ref f9]) h2
      simp only [] at s6 g6 ⊢
      generalize upd H5 l2 (.lst [.ref f9]) = H6 at s6 g6 ⊢
      refine ⟨l1, l2, _, _, rfl, rfl, s6 _ _ g5, g6, (by show 10 ≤ sizeLine; decide), fun l3 h3 => ?_⟩
      obtain ⟨s7, g7⟩ := new_at (o := .lst [.ref f0, .ref f1, .ref f2, .ref f3, .ref f4, .ref f5, .ref f6, .ref f7, .ref f8, .ref f9]) h3
      have s47 := (s5.trans s6).trans s7
      exact ⟨_, rfl, l3, _, 1, .ref f1, rfl, rfl, SqL.of g7, rfl, f1, _, (List.mem_cons_of_mem _ List.mem_cons_self), rfl, _, rfl, ⟨⟨v, rfl, hv4.same s47, k4 _ s47⟩⟩⟩
    · refine ⟨_, rfl, _, _, rfl, rfl, _, rfl, iteT ?_⟩
      refine ⟨(by show 9 ≤ sizeLine; decide), fun l1 h1 => ?_⟩
      obtain ⟨s5, g5⟩ := new_at (o := .lst [.ref f0, .ref f1, .ref f2, .ref f3, .ref f4, .ref f5, .ref f6, .ref f7, .ref f8]) h1
      simp only [] at s5 g5 ⊢
      generalize upd H4 l1 (.lst [.ref f0, .ref f1, .ref f2, .ref f3, .ref f4, .ref f5, .ref f6, .ref f7, .ref f8]) = H5 at s5 g5 ⊢
      refine ⟨_, rfl, ?_⟩
      refine ⟨(by show 1 ≤ sizeLine; decide), fun l2 h2 => ?_⟩
      obtain ⟨s6, g6⟩ := new_at (o := .lst [.ref f9]) h2
      simp only [] at s6 g6 ⊢
      generalize upd H5 l2 (.lst [.ref f9]) = H6 at s6 g6 ⊢
      refine ⟨l1, l2, _, _, rfl, rfl, s6 _ _ g5, g6, (by show 10 ≤ sizeLine; decide), fun l3 h3 => ?_⟩
      obtain ⟨s7, g7⟩ := new_at (o := .lst [.ref f0, .ref f1, .ref f2, .ref f3, .ref f4, .ref f5, .ref f6, .ref f7, .ref f8, .ref f9]) h3
      have s47 := (s5.trans s6).trans s7
      exact ⟨_, rfl, l3, _, 2, .ref f2, rfl, rfl, SqL.of g7, rfl, f2, _, (List.mem_cons_of_mem _ (List.mem_cons_of_mem _ List.mem_cons_self)), rfl, _, rfl, ⟨⟨v, rfl, hv4.same s47, k4 _ s47⟩⟩⟩
    · refine ⟨_, rfl, _, _, rfl, rfl, _, rfl, iteT ?_⟩
      refine ⟨(by show 9 ≤ sizeLine; decide), fun l1 h1 => ?_⟩
      obtain ⟨s5, g5⟩ := new_at (o := .lst [.ref f0, .ref f1, .ref f2, .ref f3, .ref f4, .ref f5, .ref f6, .ref f7, .ref f8]) h1
      simp only [] at s5 g5 ⊢
      generalize upd H4 l1 (.lst [.ref f0, .ref f1, .ref f2, .ref f3, .ref f4, .ref f5, .ref f6, .ref f7, .ref f8]) = H5 at s5 g5 ⊢
      refine ⟨_, rfl, ?_⟩
      refine ⟨(by show 1 ≤ sizeLine; decide), fun l2 h2 => ?_⟩
      obtain ⟨s6, g6⟩ := new_at (o := .lst [.ref f9]) h2
      simp only [] at s6 g6 ⊢
      generalize upd H5 l2 (.lst [.ref f9]) = H6 at s6 g6 ⊢
      refine ⟨l1, l2, _, _, rfl, rfl, s6 _ _ g5, g6, (by show 10 ≤ sizeLine; decide), fun l3 h3 => ?_⟩
      obtain ⟨s7, g7⟩ := new_at (o := .lst [.ref f0, .ref f1, .ref f2, .ref f3, .ref f4, .ref f5, .ref f6, .ref f7, .ref f8, .ref f9]) h3
      have s47 := (s5.trans s6).trans s7
      exact ⟨_, rfl, l3, _, 3, .ref f3, rfl, rfl, SqL.of g7, rfl, f3, _, (List.mem_cons_of_mem _ (List.mem_cons_of_mem _ (List.mem_cons_of_mem _ List.mem_cons_self))), rfl, _, rfl, ⟨⟨v, rfl, hv4.same s47, k4 _ s47⟩⟩⟩
    · refine ⟨_, rfl, _, _, rfl, rfl, _, rfl, iteT ?_⟩
      refine ⟨(by show 9 ≤ sizeLine; decide), fun l1 h1 => ?_⟩
      obtain ⟨s5, g5⟩ := new_at (o := .lst [.ref f0, .ref f1, .ref f2, .ref f3, .ref f4, .ref f5, .ref f6, .ref f7, .ref f8]) h1
      simp only [] at s5 g5 ⊢
      generalize upd H4 l1 (.lst [.ref f0, .ref f1, .ref f2, .ref f3, .ref f4, .ref f5, .ref f6, .ref f7, .ref f8]) = H5 at s5 g5 ⊢
      refine ⟨_, rfl, ?_⟩
      refine ⟨(by show 1 ≤ sizeLine; decide), fun l2 h2 => ?_⟩
      obtain ⟨s6, g6⟩ := new_at (o := .lst [.ref f9]) h2
      simp only [] at s6 g6 ⊢
      generalize upd H5 l2 (.lst [.ref f9]) = H6 at s6 g6 ⊢
      refine ⟨l1, l2, _, _, rfl, rfl, s6 _ _ g5, g6, (by show 10 ≤ sizeLine; decide), fun l3 h3 => ?_⟩
      obtain ⟨s7, g7⟩ := new_at (o := .lst [.ref f0, .ref f1, .ref f2, .ref f3, .ref f4, .ref f5, .ref f6, .ref f7, .ref f8, .ref f9]) h3
      have s47 := (s5.trans s6).trans s7
      exact ⟨_, rfl, l3, _, 4, .ref f4, rfl, rfl, SqL.of g7, rfl, f4, _, (List.mem_cons_of_mem _ (List.mem_cons_of_mem _ (List.mem_cons_of_mem _ (List.mem_cons_of_mem _ List.mem_cons_self)))), rfl, _, rfl, ⟨⟨v, rfl, hv4.same s47, k4 _ s47⟩⟩⟩
    · refine ⟨_, rfl, _, _, rfl, rfl, _, rfl, iteT ?_⟩
      refine ⟨(by show 9 ≤ sizeLine; decide), fun l1 h1 => ?_⟩
      obtain ⟨s5, g5⟩ := new_at (o := .lst [.ref f0, .ref f1, .ref f2, .ref f3, .ref f4, .ref f5, .ref f6, .ref f7, .ref f8]) h1
      simp only [] at s5 g5 ⊢
      generalize upd H4 l1 (.lst [.ref f0, .ref f1, .ref f2, .ref f3, .ref f4, .ref f5, .ref f6, .ref f7, .ref f8]) = H5 at s5 g5 ⊢
      refine ⟨_, rfl, ?_⟩
      refine ⟨(by show 1 ≤ sizeLine; decide), fun l2 h2 => ?_⟩
      obtain ⟨s6, g6⟩ := new_at (o := .lst [.ref f9]) h2
      simp only [] at s6 g6 ⊢
      generalize upd H5 l2 (.lst [.ref f9]) = H6 at s6 g6 ⊢
      refine ⟨l1, l2, _, _, rfl, rfl, s6 _ _ g5, g6, (by show 10 ≤ sizeLine; decide), fun l3 h3 => ?_⟩
      obtain ⟨s7, g7⟩ := new_at (o := .lst [.ref f0, .ref f1, .ref f2, .ref f3, .ref f4, .ref f5, .ref f6, .ref f7, .ref f8, .ref f9]) h3
      have s47 := (s5.trans s6).trans s7
      exact ⟨_, rfl, l3, _, 5, .ref f5, rfl, rfl, SqL.of g7, rfl, f5, _, (List.mem_cons_of_mem _ (List.mem_cons_of_mem _ (List.mem_cons_of_mem _ (List.mem_cons_of_mem _ (List.mem_cons_of_mem _ List.mem_cons_self))))), rfl, _, rfl, ⟨⟨v, rfl, hv4.same s47, k4 _ s47⟩⟩⟩
    · refine ⟨_, rfl, _, _, rfl, rfl, _, rfl, iteT ?_⟩
      refine ⟨(by show 9 ≤ sizeLine; decide), fun l1 h1 => ?_⟩
      obtain ⟨s5, g5⟩ := new_at (o := .lst [.ref f0, .ref f1, .ref f2, .ref f3, .ref f4, .ref f5, .ref f6, .ref f7, .ref f8]) h1
      simp only [] at s5 g5 ⊢
      generalize upd H4 l1 (.lst [.ref f0, .ref f1, .ref f2, .ref f3, .ref f4, .ref f5, .ref f6, .ref f7, .ref f8]) = H5 at s5 g5 ⊢
      refine ⟨_, rfl, ?_⟩
      refine ⟨(by show 1 ≤ sizeLine; decide), fun l2 h2 => ?_⟩
      obtain ⟨s6, g6⟩ := new_at (o := .lst [.ref f9]) h2
      simp only [] at s6 g6 ⊢
      generalize upd H5 l2 (.lst [.ref f9]) = H6 at s6 g6 ⊢
      refine ⟨l1, l2, _, _, rfl, rfl, s6 _ _ g5, g6, (by show 10 ≤ sizeLine; decide), fun l3 h3 => ?_⟩
      obtain ⟨s7, g7⟩ := new_at (o := .lst [.ref f0, .ref f1, .ref f2, .ref f3, .ref f4, .ref f5, .ref f6, .ref f7, .ref f8, .ref f9]) h3
      have s47 := (s5.trans s6).trans s7
      exact ⟨_, rfl, l3, _, 6, .ref f6, rfl, rfl, SqL.of g7, rfl, f6, _, (List.mem_cons_of_mem _ (List.mem_cons_of_mem _ (List.mem_cons_of_mem _ (List.mem_cons_of_mem _ (List.mem_cons_of_mem _ (List.mem_cons_of_mem _ List.mem_cons_self)))))), rfl, _, rfl, ⟨⟨v, rfl, hv4.same s47, k4 _ s47⟩⟩⟩
    · refine ⟨_, rfl, _, _, rfl, rfl, _, rfl, iteT ?_⟩
      refine ⟨(by show 9 ≤ sizeLine; decide), fun l1 h1 => ?_⟩
      obtain ⟨s5, g5⟩ := new_at (o := .lst [.ref f0, .ref f1, .ref f2, .ref f3, .ref f4, .ref f5, .ref f6, .ref f7, .ref f8]) h1
      simp only [] at s5 g5 ⊢
      generalize upd H4 l1 (.lst [.ref f0, .ref f1, .ref f2, .ref f3, .ref f4, .ref f5, .ref f6, .ref f7, .ref f8]) = H5 at s5 g5 ⊢
      refine ⟨_, rfl, ?_⟩
      refine ⟨(by show 1 ≤ sizeLine; decide), fun l2 h2 => ?_⟩
      obtain ⟨s6, g6⟩ := new_at (o := .lst [.ref f9]) h2
      simp only [] at s6 g6 ⊢
      generalize upd H5 l2 (.lst [.ref f9]) = H6 at s6 g6 ⊢
      refine ⟨l1, l2, _, _, rfl, rfl, s6 _ _ g5, g6, (by show 10 ≤ sizeLine; decide), fun l3 h3 => ?_⟩
      obtain ⟨s7, g7⟩ := new_at (o := .lst [.ref f0, .ref f1, .ref f2, .ref f3, .ref f4, .ref f5, .ref f6, .ref f7, .ref f8, .ref f9]) h3
      have s47 := (s5.trans s6).trans s7
      exact ⟨_, rfl, l3, _, 7, .ref f7, rfl, rfl, SqL.of g7, rfl, f7, _, (List.mem_cons_of_mem _ (List.mem_cons_of_mem _ (List.mem_cons_of_mem _ (List.mem_cons_of_mem _ (List.mem_cons_of_mem _ (List.mem_cons_of_mem _ (List.mem_cons_of_mem _ List.mem_cons_self))))))), rfl, _, rfl, ⟨⟨v, rfl, hv4.same s47, k4 _ s47⟩⟩⟩
    · refine ⟨_, rfl, _, _, rfl, rfl, _, rfl, iteT ?_⟩
      refine ⟨(by show 9 ≤ sizeLine; decide), fun l1 h1 => ?_⟩
      obtain ⟨s5, g5⟩ := new_at (o := .lst [.ref f0, .ref f1, .ref f2, .ref f3, .ref f4, .ref f5, .ref f6, .ref f7, .ref f8]) h1
      simp only [] at s5 g5 ⊢
      generalize upd H4 l1 (.lst [.ref f0, .ref f1, .ref f2, .ref f3, .ref f4, .ref f5, .ref f6, .ref f7, .ref f8]) = H5 at s5 g5 ⊢
      refine ⟨_, rfl, ?_⟩
      refine ⟨(by show 1 ≤ sizeLine; decide), fun l2 h2 => ?_⟩
      obtain ⟨s6, g6⟩ := new_at (o := .lst [.ref f9]) h2
      simp only [] at s6 g6 ⊢
      generalize upd H5 l2 (.lst [.ref f9]) = H6 at s6 g6 ⊢
      refine ⟨l1, l2, _, _, rfl, rfl, s6 _ _ g5, g6, (by show 10 ≤ sizeLine; decide), fun l3 h3 => ?_⟩
      obtain ⟨s7, g7⟩ := new_at (o := .lst [.ref f0, .ref f1, .ref f2, .ref f3, .ref f4, .ref f5, .ref f6, .ref f7, .ref f8, .ref f9]) h3
      have s47 := (s5.trans s6).trans s7
      exact ⟨_, rfl, l3, _, 8, .ref f8, rfl, rfl, SqL.of g7, rfl, f8, _, (List.mem_cons_of_mem _ (List.mem_cons_of_mem _ (List.mem_cons_of_mem _ (List.mem_cons_of_mem _ (List.mem_cons_of_mem _ (List.mem_cons_of_mem _ (List.mem_cons_of_mem _ (List.mem_cons_of_mem _ List.mem_cons_self)))))))), rfl, _, rfl, ⟨⟨v, rfl, hv4.same s47, k4 _ s47⟩⟩⟩
    · refine ⟨_, rfl, _, _, rfl, rfl, _, rfl, iteT ?_⟩
      refine ⟨(by show 9 ≤ sizeLine; decide), fun l1 h1 => ?_⟩
      obtain ⟨s5, g5⟩ := new_at (o := .lst [.ref f0, .ref f1, .ref f2, .ref f3, .ref f4, .ref f5, .ref f6, .ref f7, .ref f8]) h1
      simp only [] at s5 g5 ⊢
      generalize upd H4 l1 (.lst [.ref f0, .ref f1, .ref f2, .ref f3, .ref f4, .ref f5, .ref f6, .ref f7, .ref f8]) = H5 at s5 g5 ⊢
      refine ⟨_, rfl, ?_⟩
      refine ⟨(by show 1 ≤ sizeLine; decide), fun l2 h2 => ?_⟩
      obtain ⟨s6, g6⟩ := new_at (o := .lst [.ref f9]) h2
      simp only [] at s6 g6 ⊢
      generalize upd H5 l2 (.lst [.ref f9]) = H6 at s6 g6 ⊢
      refine ⟨l1, l2, _, _, rfl, rfl, s6 _ _ g5, g6, (by show 10 ≤ sizeLine; decide), fun l3 h3 => ?_⟩
      obtain ⟨s7, g7⟩ := new_at (o := .lst [.ref f0, .ref f1, .ref f2, .ref f3, .ref f4, .ref f5, .ref f6, .ref f7, .ref f8, .ref f9]) h3
      have s47 := (s5.trans s6).trans s7
      exact ⟨_, rfl, l3, _, 9, .ref f9, rfl, rfl, SqL.of g7, rfl, f9, _, (List.mem_cons_of_mem _ (List.mem_cons_of_mem _ (List.mem_cons_of_mem _ (List.mem_cons_of_mem _ (List.mem_cons_of_mem _ (List.mem_cons_of_mem _ (List.mem_cons_of_mem _ (List.mem_cons_of_mem _ (List.mem_cons_of_mem _ List.mem_cons_self))))))))), rfl, _, rfl, ⟨⟨v, rfl, hv4.same s47, k4 _ s47⟩⟩⟩
    · refine ⟨_, rfl, _, _, rfl, rfl, _, rfl, iteF ?_⟩
      refine ⟨_, rfl, _, _, rfl, rfl, _, rfl, iteT ?_⟩
      refine ⟨(by show 8 ≤ sizeLine; decide), fun l1 h1 => ?_⟩
      obtain ⟨s5, g5⟩ := new_at (o := .lst [.ref f10, .ref f11, .ref f12, .ref f13, .ref f14, .ref f15, .ref f16, .ref f17]) h1
      simp only [] at s5 g5 ⊢
      generalize upd H4 l1 (.lst [.ref f10, .ref f11, .ref f12, .ref f13, .ref f14, .ref f15, .ref f16, .ref f17]) = H5 at s5 g5 ⊢
      exact ⟨_, rfl, _, rfl, _, _, rfl, rfl, l1, _, 0, .ref f10, rfl, rfl, SqL.of g5, rfl, f10, _, List.mem_cons_self, rfl, _, rfl, ⟨⟨v, .non, rfl, hv4.same s5, k4 _ s5⟩⟩⟩
    · refine ⟨_, rfl, _, _, rfl, rfl, _, rfl, iteF ?_⟩
      refine ⟨_, rfl, _, _, rfl, rfl, _, rfl, iteT ?_⟩
      refine ⟨(by show 8 ≤ sizeLine; decide), fun l1 h1 => ?_⟩
      obtain ⟨s5, g5⟩ := new_at (o := .lst [.ref f10, .ref f11, .ref f12, .ref f13, .ref f14, .ref f15, .ref f16, .ref f17]) h1
      simp only [] at s5 g5 ⊢
      generalize upd H4 l1 (.lst [.ref f10, .ref f11, .ref f12, .ref f13, .ref f14, .ref f15, .ref f16, .ref f17]) = H5 at s5 g5 ⊢
      exact ⟨_, rfl, _, rfl, _, _, rfl, rfl, l1, _, 1, .ref f11, rfl, rfl, SqL.of g5, rfl, f11, _, (List.mem_cons_of_mem _ List.mem_cons_self), rfl, _, rfl, ⟨⟨v, .non, rfl, hv4.same s5, k4 _ s5⟩⟩⟩
    · refine ⟨_, rfl, _, _, rfl, rfl, _, rfl, iteF ?_⟩
      refine ⟨_, rfl, _, _, rfl, rfl, _, rfl, iteT ?_⟩
      refine ⟨(by show 8 ≤ sizeLine; decide), fun l1 h1 => ?_⟩
      obtain ⟨s5, g5⟩ := new_at (o := .lst [.ref f10, .ref f11, .ref f12, .ref f13, .ref f14, .ref f15, .ref f16, .ref f17]) h1
      simp only [] at s5 g5 ⊢
      generalize upd H4 l1 (.lst [.ref f10, .ref f11, .ref f12, .ref f13, .ref f14, .ref f15, .ref f16, .ref f17]) = H5 at s5 g5 ⊢
      exact ⟨_, rfl, _, rfl, _, _, rfl, rfl, l1, _, 2, .ref f12, rfl, rfl, SqL.of g5, rfl, f12, _, (List.mem_cons_of_mem _ (List.mem_cons_of_mem _ List.mem_cons_self)), rfl, _, rfl, ⟨⟨v, .non, rfl, .inl (hv4.same s5), k4 _ s5⟩⟩⟩
    · refine ⟨_, rfl, _, _, rfl, rfl, _, rfl, iteF ?_⟩
      refine ⟨_, rfl, _, _, rfl, rfl, _, rfl, iteT ?_⟩
      refine ⟨(by show 8 ≤ sizeLine; decide), fun l1 h1 => ?_⟩
      obtain ⟨s5, g5⟩ := new_at (o := .lst [.ref f10, .ref f11, .ref f12, .ref f13, .ref f14, .ref f15, .ref f16, .ref f17]) h1
      simp only [] at s5 g5 ⊢
      generalize upd H4 l1 (.lst [.ref f10, .ref f11, .ref f12, .ref f13, .ref f14, .ref f15, .ref f16, .ref f17]) = H5 at s5 g5 ⊢
      exact ⟨_, rfl, _, rfl, _, _, rfl, rfl, l1, _, 3, .ref f13, rfl, rfl, SqL.of g5, rfl, f13, _, (List.mem_cons_of_mem _ (List.mem_cons_of_mem _ (List.mem_cons_of_mem _ List.mem_cons_self))), rfl, _, rfl, ⟨⟨v, .non, rfl, .inl (hv4.same s5), k4 _ s5⟩⟩⟩
    · refine ⟨_, rfl, _, _, rfl, rfl, _, rfl, iteF ?_⟩
      refine ⟨_, rfl, _, _, rfl, rfl, _, rfl, iteT ?_⟩
      refine ⟨(by show 8 ≤ sizeLine; decide), fun l1 h1 => ?_⟩
      obtain ⟨s5, g5⟩ := new_at (o := .lst [.ref f10, .ref f11, .ref f12, .ref f13, .ref f14, .ref f15, .ref f16, .ref f17]) h1
      simp only [] at s5 g5 ⊢
      generalize upd H4 l1 (.lst [.ref f10, .ref f11, .ref f12, .ref f13, .ref f14, .ref f15, .ref f16, .ref f17]) = H5 at s5 g5 ⊢
      exact ⟨_, rfl, _, rfl, _, _, rfl, rfl, l1, _, 4, .ref f14, rfl, rfl, SqL.of g5, rfl, f14, _, (List.mem_cons_of_mem _ (List.mem_cons_of_mem _ (List.mem_cons_of_mem _ (List.mem_cons_of_mem _ List.mem_cons_self)))), rfl, _, rfl, ⟨⟨v, .non, rfl, hv4.same s5, k4 _ s5⟩⟩⟩
    · refine ⟨_, rfl, _, _, rfl, rfl, _, rfl, iteF ?_⟩
      refine ⟨_, rfl, _, _, rfl, rfl, _, rfl, iteT ?_⟩
      refine ⟨(by show 8 ≤ sizeLine; decide), fun l1 h1 => ?_⟩
      obtain ⟨s5, g5⟩ := new_at (o := .lst [.ref f10, .ref f11, .ref f12, .ref f13, .ref f14, .ref f15, .ref f16, .ref f17]) h1
      simp only [] at s5 g5 ⊢
      generalize upd H4 l1 (.lst [.ref f10, .ref f11, .ref f12, .ref f13, .ref f14, .ref f15, .ref f16, .ref f17]) = H5 at s5 g5 ⊢
      exact ⟨_, rfl, _, rfl, _, _, rfl, rfl, l1, _, 5, .ref f15, rfl, rfl, SqL.of g5, rfl, f15, _, (List.mem_cons_of_mem _ (List.mem_cons_of_mem _ (List.mem_cons_of_mem _ (List.mem_cons_of_mem _ (List.mem_cons_of_mem _ List.mem_cons_self))))), rfl, _, rfl, ⟨⟨v, .non, rfl, hv4.same s5, k4 _ s5⟩⟩⟩
    · refine ⟨_, rfl, _, _, rfl, rfl, _, rfl, iteF ?_⟩
      refine ⟨_, rfl, _, _, rfl, rfl, _, rfl, iteT ?_⟩
      refine ⟨(by show 8 ≤ sizeLine; decide), fun l1 h1 => ?_⟩
      obtain ⟨s5, g5⟩ := new_at (o := .lst [.ref f10, .ref f11, .ref f12, .ref f13, .ref f14, .ref f15, .ref f16, .ref f17]) h1
      simp only [] at s5 g5 ⊢
      generalize upd H4 l1 (.lst [.ref f10, .ref f11, .ref f12, .ref f13, .ref f14, .ref f15, .ref f16, .ref f17]) = H5 at s5 g5 ⊢
      exact ⟨_, rfl, _, rfl, _, _, rfl, rfl, l1, _, 6, .ref f16, rfl, rfl, SqL.of g5, rfl, f16, _, (List.mem_cons_of_mem _ (List.mem_cons_of_mem _ (List.mem_cons_of_mem _ (List.mem_cons_of_mem _ (List.mem_cons_of_mem _ (List.mem_cons_of_mem _ List.mem_cons_self)))))), rfl, _, rfl, ⟨⟨v, .non, rfl, hv4.same s5, k4 _ s5⟩⟩⟩
    · refine ⟨_, rfl, _, _, rfl, rfl, _, rfl, iteF ?_⟩
      refine ⟨_, rfl, _, _, rfl, rfl, _, rfl, iteT ?_⟩
      refine ⟨(by show 8 ≤ sizeLine; decide), fun l1 h1 => ?_⟩
      obtain ⟨s5, g5⟩ := new_at (o := .lst [.ref f10, .ref f11, .ref f12, .ref f13, .ref f14, .ref f15, .ref f16, .ref f17]) h1
      simp only [] at s5 g5 ⊢
      generalize upd H4 l1 (.lst [.ref f10, .ref f11, .ref f12, .ref f13, .ref f14, .ref f15, .ref f16, .ref f17]) = H5 at s5 g5 ⊢
      exact ⟨_, rfl, _, rfl, _, _, rfl, rfl, l1, _, 7, .ref f17, rfl, rfl, SqL.of g5, rfl, f17, _, (List.mem_cons_of_mem _ (List.mem_cons_of_mem _ (List.mem_cons_of_mem _ (List.mem_cons_of_mem _ (List.mem_cons_of_mem _ (List.mem_cons_of_mem _ (List.mem_cons_of_mem _ List.mem_cons_self))))))), rfl, _, rfl, ⟨⟨v, .non, rfl, hv4.same s5, k4 _ s5⟩⟩⟩
    · refine ⟨_, rfl, _, _, rfl, rfl, _, rfl, iteF ?_⟩
      refine ⟨_, rfl, _, _, rfl, rfl, _, rfl, iteF ?_⟩
      refine ⟨_, rfl, _, _, rfl, rfl, _, rfl, iteT ?_⟩
      refine ⟨(by show 2 ≤ sizeLine; decide), fun l1 h1 => ?_⟩
      obtain ⟨s5, g5⟩ := new_at (o := .lst [.ref f12, .ref f13]) h1
      simp only [] at s5 g5 ⊢
      generalize upd H4 l1 (.lst [.ref f12, .ref f13]) = H5 at s5 g5 ⊢
      exact ⟨_, rfl, _, _, rfl, rfl, l1, _, 0, .ref f12, rfl, rfl, SqL.of g5, rfl, f12, _, List.mem_cons_self, rfl, _, rfl, _, rfl, ⟨⟨.ref c, v, rfl, .inr ⟨⟨c, 2, q, rfl, dx, s5 _ _ hx⟩, hv4.same s5⟩, k4 _ s5⟩⟩⟩
    · refine ⟨_, rfl, _, _, rfl, rfl, _, rfl, iteF ?_⟩
      refine ⟨_, rfl, _, _, rfl, rfl, _, rfl, iteF ?_⟩
      refine ⟨_, rfl, _, _, rfl, rfl, _, rfl, iteT ?_⟩
      refine ⟨(by show 2 ≤ sizeLine; decide), fun l1 h1 => ?_⟩
      obtain ⟨s5, g5⟩ := new_at (o := .lst [.ref f12, .ref f13]) h1
      simp only [] at s5 g5 ⊢
      generalize upd H4 l1 (.lst [.ref f12, .ref f13]) = H5 at s5 g5 ⊢
      exact ⟨_, rfl, _, _, rfl, rfl, l1, _, 1, .ref f13, rfl, rfl, SqL.of g5, rfl, f13, _, (List.mem_cons_of_mem _ List.mem_cons_self), rfl, _, rfl, _, rfl, ⟨⟨.ref c, v, rfl, .inr ⟨⟨c, 2, q, rfl, dx, s5 _ _ hx⟩, hv4.same s5⟩, k4 _ s5⟩⟩⟩
    · refine ⟨_, rfl, _, _, rfl, rfl, _, rfl, iteF ?_⟩
      refine ⟨_, rfl, _, _, rfl, rfl, _, rfl, iteF ?_⟩
      refine ⟨_, rfl, _, _, rfl, rfl, _, rfl, iteF ?_⟩
      refine ⟨_, rfl, _, _, rfl, rfl, _, rfl, iteT ?_⟩
      refine ⟨(by show 7 ≤ sizeLine; decide), fun l1 h1 => ?_⟩
      obtain ⟨s5, g5⟩ := new_at (o := .lst [.ref f18, .ref f19, .ref f20, .ref f21, .ref f22, .ref f23, .ref f24]) h1
      simp only [] at s5 g5 ⊢
      generalize upd H4 l1 (.lst [.ref f18, .ref f19, .ref f20, .ref f21, .ref f22, .ref f23, .ref f24]) = H5 at s5 g5 ⊢
      exact ⟨_, rfl, _, rfl, _, _, rfl, rfl, l1, _, 0, .ref f18, rfl, rfl, SqL.of g5, rfl, f18, _, List.mem_cons_self, rfl, _, rfl, ⟨⟨v, .non, .non, rfl, hv4.same s5, k4 _ s5⟩⟩⟩
    · refine ⟨_, rfl, _, _, rfl, rfl, _, rfl, iteF ?_⟩
      refine ⟨_, rfl, _, _, rfl, rfl, _, rfl, iteF ?_⟩
      refine ⟨_, rfl, _, _, rfl, rfl, _, rfl, iteF ?_⟩
      refine ⟨_, rfl, _, _, rfl, rfl, _, rfl, iteT ?_⟩
      refine ⟨(by show 7 ≤ sizeLine; decide), fun l1 h1 => ?_⟩
      obtain ⟨s5, g5⟩ := new_at (o := .lst [.ref f18, .ref f19, .ref f20, .ref f21, .ref f22, .ref f23, .ref f24]) h1
      simp only [] at s5 g5 ⊢
      generalize upd H4 l1 (.lst [.ref f18, .ref f19, .ref f20, .ref f21, .ref f22, .ref f23, .ref f24]) = H5 at s5 g5 ⊢
      exact ⟨_, rfl, _, rfl, _, _, rfl, rfl, l1, _, 1, .ref f19, rfl, rfl, SqL.of g5, rfl, f19, _, (List.mem_cons_of_mem _ List.mem_cons_self), rfl, _, rfl, ⟨⟨v, .non, .non, rfl, hv4.same s5, k4 _ s5⟩⟩⟩
    · refine ⟨_, rfl, _, _, rfl, rfl, _, rfl, iteF ?_⟩
      refine ⟨_, rfl, _, _, rfl, rfl, _, rfl, iteF ?_⟩
      refine ⟨_, rfl, _, _, rfl, rfl, _, rfl, iteF ?_⟩
      refine ⟨_, rfl, _, _, rfl, rfl, _, rfl, iteT ?_⟩
      refine ⟨(by show 7 ≤ sizeLine; decide), fun l1 h1 => ?_⟩
      obtain ⟨s5, g5⟩ := new_at (o := .lst [.ref f18, .ref f19, .ref f20, .ref f21, .ref f22, .ref f23, .ref f24]) h1
      simp only [] at s5 g5 ⊢
      generalize upd H4 l1 (.lst [.ref f18, .ref f19, .ref f20, .ref f21, .ref f22, .ref f23, .ref f24]) = H5 at s5 g5 ⊢
      exact ⟨_, rfl, _, rfl, _, _, rfl, rfl, l1, _, 2, .ref f20, rfl, rfl, SqL.of g5, rfl, f20, _, (List.mem_cons_of_mem _ (List.mem_cons_of_mem _ List.mem_cons_self)), rfl, _, rfl, ⟨⟨v, .non, .non, rfl, hv4.same s5, k4 _ s5⟩⟩⟩
    · refine ⟨_, rfl, _, _, rfl, rfl, _, rfl, iteF ?_⟩
      refine ⟨_, rfl, _, _, rfl, rfl, _, rfl, iteF ?_⟩
      refine ⟨_, rfl, _, _, rfl, rfl, _, rfl, iteF ?_⟩
      refine ⟨_, rfl, _, _, rfl, rfl, _, rfl, iteT ?_⟩
      refine ⟨(by show 7 ≤ sizeLine; decide), fun l1 h1 => ?_⟩
      obtain ⟨s5, g5⟩ := new_at (o := .lst [.ref f18, .ref f19, .ref f20, .ref f21, .ref f22, .ref f23, .ref f24]) h1
      simp only [] at s5 g5 ⊢
      generalize upd H4 l1 (.lst [.ref f18, .ref f19, .ref f20, .ref f21, .ref f22, .ref f23, .ref f24]) = H5 at s5 g5 ⊢
      exact ⟨_, rfl, _, rfl, _, _, rfl, rfl, l1, _, 3, .ref f21, rfl, rfl, SqL.of g5, rfl, f21, _, (List.mem_cons_of_mem _ (List.mem_cons_of_mem _ (List.mem_cons_of_mem _ List.mem_cons_self))), rfl, _, rfl, ⟨⟨v, .non, .non, rfl, hv4.same s5, k4 _ s5⟩⟩⟩
    · refine ⟨_, rfl, _, _, rfl, rfl, _, rfl, iteF ?_⟩
      refine ⟨_, rfl, _, _, rfl, rfl, _, rfl, iteF ?_⟩
      refine ⟨_, rfl, _, _, rfl, rfl, _, rfl, iteF ?_⟩
      refine ⟨_, rfl, _, _, rfl, rfl, _, rfl, iteT ?_⟩
      refine ⟨(by show 7 ≤ sizeLine; decide), fun l1 h1 => ?_⟩
      obtain ⟨s5, g5⟩ := new_at (o := .lst [.ref f18, .ref f19, .ref f20, .ref f21, .ref f22, .ref f23, .ref f24]) h1
      simp only [] at s5 g5 ⊢
      generalize upd H4 l1 (.lst [.ref f18, .ref f19, .ref f20, .ref f21, .ref f22, .ref f23, .ref f24]) = H5 at s5 g5 ⊢
      exact ⟨_, rfl, _, rfl, _, _, rfl, rfl, l1, _, 4, .ref f22, rfl, rfl, SqL.of g5, rfl, f22, _, (List.mem_cons_of_mem _ (List.mem_cons_of_mem _ (List.mem_cons_of_mem _ (List.mem_cons_of_mem _ List.mem_cons_self)))), rfl, _, rfl, ⟨⟨v, .non, .non, rfl, hv4.same s5, k4 _ s5⟩⟩⟩
    · refine ⟨_, rfl, _, _, rfl, rfl, _, rfl, iteF ?_⟩
      refine ⟨_, rfl, _, _, rfl, rfl, _, rfl, iteF ?_⟩
      refine ⟨_, rfl, _, _, rfl, rfl, _, rfl, iteF ?_⟩
      refine ⟨_, rfl, _, _, rfl, rfl, _, rfl, iteT ?_⟩
      refine ⟨(by show 7 ≤ sizeLine; decide), fun l1 h1 => ?_⟩
      obtain ⟨s5, g5⟩ := new_at (o := .lst [.ref f18, .ref f19, .ref f20, .ref f21, .ref f22, .ref f23, .ref f24]) h1
      simp only [] at s5 g5 ⊢
      generalize upd H4 l1 (.lst [.ref f18, .ref f19, .ref f20, .ref f21, .ref f22, .ref f23, .ref f24]) = H5 at s5 g5 ⊢
      exact ⟨_, rfl, _, rfl, _, _, rfl, rfl, l1, _, 5, .ref f23, rfl, rfl, SqL.of g5, rfl, f23, _, (List.mem_cons_of_mem _ (List.mem_cons_of_mem _ (List.mem_cons_of_mem _ (List.mem_cons_of_mem _ (List.mem_cons_of_mem _ List.mem_cons_self))))), rfl, _, rfl, ⟨⟨v, .non, .non, rfl, hv4.same s5, k4 _ s5⟩⟩⟩
    · refine ⟨_, rfl, _, _, rfl, rfl, _, rfl, iteF ?_⟩
      refine ⟨_, rfl, _, _, rfl, rfl, _, rfl, iteF ?_⟩
      refine ⟨_, rfl, _, _, rfl, rfl, _, rfl, iteF ?_⟩
      refine ⟨_, rfl, _, _, rfl, rfl, _, rfl, iteT ?_⟩
      refine ⟨(by show 7 ≤ sizeLine; decide), fun l1 h1 => ?_⟩
      obtain ⟨s5, g5⟩ := new_at (o := .lst [.ref f18, .ref f19, .ref f20, .ref f21, .ref f22, .ref f23, .ref f24]) h1
      simp only [] at s5 g5 ⊢
      generalize upd H4 l1 (.lst [.ref f18, .ref f19, .ref f20, .ref f21, .ref f22, .ref f23, .ref f24]) = H5 at s5 g5 ⊢
      exact ⟨_, rfl, _, rfl, _, _, rfl, rfl, l1, _, 6, .ref f24, rfl, rfl, SqL.of g5, rfl, f24, _, (List.mem_cons_of_mem _ (List.mem_cons_of_mem _ (List.mem_cons_of_mem _ (List.mem_cons_of_mem _ (List.mem_cons_of_mem _ (List.mem_cons_of_mem _ List.mem_cons_self)))))), rfl, _, rfl, ⟨⟨v, .non, .non, rfl, hv4.same s5, k4 _ s5⟩⟩⟩
    · refine ⟨_, rfl, _, _, rfl, rfl, _, rfl, iteF ?_⟩
      refine ⟨_, rfl, _, _, rfl, rfl, _, rfl, iteF ?_⟩
      refine ⟨_, rfl, _, _, rfl, rfl, _, rfl, iteF ?_⟩
      refine ⟨_, rfl, _, _, rfl, rfl, _, rfl, iteF ?_⟩
      refine ⟨_, rfl, ?_⟩
      intro p dp np ndp nep
      have sp : Same H4 (upd (upd H4 dp (.own p)) p (.ins D dp [])) := fun b o e => by
        rw [upd_ne (ne_of_none e np), upd_ne (ne_of_none e ndp)]
        exact e
      exact ⟨⟨.ref p, v, rfl, hv4.same sp, k4 _ sp⟩⟩
abbrev nLaw : List Str := ["_law_script", "_law_row", "_law_turn", "_law_raised"]
theorem scLaw : FnScope nLaw ["_law_script"] (defScope s_law) := ⟨rfl, rfl, rfl, by decide +kernel, rfl, by decide +kernel, by decide +kernel⟩
theorem ok_law {f fT fO fC C CB : Addr} {fd dT dO dC : FuncData} (F : Fun K "law" "law" s_law f fd) (T : Bt mg) (gB : mg "BadCabinet" = some (.ref CB)) (EX : PySem.W.exmOne K (.ref CB) (.ref CB) = some true)
    (GT : FnOk P w K mg base CX0 1 fT dT ["_law_row", "_law_many"] (spTaken K)) (gT : mg "_law_taken" = some (.ref fT)) (kT : PySem.W.keepIn K (.ref fT) = true) (bT : Binds K dT ["_law_row", "_law_many"] [])
    (GO : FnOk P w K mg base CX0 2 fO dO ["_law_row"] (spOddC K C)) (gO : mg "_law_odd" = some (.ref fO)) (kO : PySem.W.keepIn K (.ref fO) = true) (bO : Binds K dO ["_law_row"] [])
    (GC : FnOk P w K mg base (L2.CX P w) 9 fC dC ["_law_kind", "_law_value"] (spCall02 K C CB)) (gC : mg "_law_call" = some (.ref fC)) (kC : PySem.W.keepIn K (.ref fC) = true) (bC : Binds K dC ["_law_kind", "_law_value"] []) :
    FnOk P w K mg base CX0 20 f fd ["_law_script"] (spLaw02 K) := by
  refine F.ok scLaw (fun vs H Q E h => ?_) (fun cdv A outer s H vs Q E hr h => ?_)
  · obtain ⟨a, ns, rfl, _⟩ := h
    rfl
  · obtain ⟨a, ns, rfl, hS, hlen, k⟩ := h
    refine ⟨_, pss_cons (ps_set (i := 1) scLaw.nd rfl (Or.inl rfl) (pe_lst (pa_cons (pv 0) (pa_cons pe_int (pa_cons pe_int (pa_cons pe_int pa_nil))))))
      (pss_cons (ps_for PassesOwn.never rfl (pi_range1 rfl T.range (pa_cons pe_int pa_nil)) (pg_name (i := 2) scLaw.nd rfl (Or.inl rfl))
        (pss_cons (ps_set (i := 3) scLaw.nd rfl (Or.inl rfl) pe_bl)
        (pss_cons (ps_try_any (tb := fun W => tDrop (tCallS (spCall02 K C CB) (WE W) (tCons (tCall (spTaken K) [] E0 (tCons (tVar 1) (tCons (tC (.int 28)) tNil))) (tCons (tCall (spOddC K C) [] E0 (tCons (tVar 1) tNil)) tNil)))) (l := [(.ref CB, none, fun _ _ _ => tAsg (tC (.bl true)) (gName 3))]) (Wout := fun _ _ _ _ => False) rfl rfl takes0
          (fun W pn xe tk _ => pss_one (ps_expr (by exact (pe_callS GC (hr.mono (by decide)) rfl gC kC bC (fun σ => passAt tk σ) (by exact (pa_cons (pe_call GT (hr.mono (by decide)) rfl gT kT bT .nil pass0 (pa_cons (pv 1) (pa_cons pe_int pa_nil))) (pa_cons (pe_call GO (hr.mono (by decide)) rfl gO kO bO .nil pass0 (pa_cons (pv 1) pa_nil)) pa_nil)))))))
          (.plain ⟨rfl, by decide, Or.inl gB⟩ (fun a oe cls d pn _ _ => pss_one (ps_set (i := 3) scLaw.nd rfl (Or.inl rfl) pe_bl)) .nil))
        (pss_one (ps_if (pt_not (pt_val (pv 3))) (pss_one (ps_ret pe_bl)) pss_nil)))))
      (pss_one (ps_ret pe_bl))), ?_⟩
    refine ⟨_, rfl, (by show 4 ≤ sizeLine; decide), fun r hr0 => ?_⟩
    have R0 : RowOk (upd H r (.lst [.ref a, .int 0, .int 202, .int 0])) r a := ⟨⟨0, 202, 0, upd_same, by decide, by decide, by decide, by decide⟩⟩
    have S0 : SqL K (upd H r (.lst [.ref a, .int 0, .int 202, .int 0])) a (ns.map V.int) := (same_upd hr0).seq hS
    generalize (upd H r (.lst [.ref a, .int 0, .int 202, .int 0])) = H0 at R0 S0 ⊢
    refine ⟨12, rfl, by decide, by decide, ?_⟩
    refine for_range (lo := 0) (n := 12) (fun i σ H' => ∃ v2 v3 : Option V, σ = [some (.ref a), some (.ref r), v2, v3] ∧ RowOk H' r a ∧ But r H0 H')
      ⟨_, _, rfl, R0, But.refl _ _⟩ ?_ ?_
    · rintro i σ H1 hi ⟨v2, v3, rfl, R1, B1⟩
      refine ⟨_, rfl, ⟨⟨r, a, ns, 28, rfl, R1, B1.seqR R0 S0, by decide, by decide, fun kd H2 k0 k28 R2 B2 => ?_⟩⟩⟩
      have B02 := B1.trans B2
      refine ⟨_, rfl, ⟨⟨r, a, ns, rfl, R2, fun H' b => (B02.trans b).seqR R0 S0, fun x H3 R3 B3 hx => ?_⟩⟩⟩
      have B03 := B02.trans B3
      refine ⟨⟨kd, x, rfl, k0, k28, hx H3 (Same.refl H3), fun H4 s4 => ?_⟩⟩
      refine ⟨true, EX, fun _ a' na => ?_, fun z => by cases z⟩
      refine ⟨_, rfl, _, rfl, iteF ?_⟩
      exact ⟨_, _, rfl, R3.same s4, B03.trans (sbut s4)⟩
    · rintro σ H' ⟨v2, v3, rfl, _, _⟩
      exact k H'
end
end DL

set_option Elab.async false
set_option maxRecDepth 100000
set_option maxHeartbeats 8000000
namespace DL
open PySem L2 HT TL
/-! ### what the top has written -/
theorem all_mk {l : PySem.W.OpenLaw} {w : World} {K : PySem.W.Frag} {h : Heap} {mg : Str → Option Value} {fa : Addr} (X : K.In h) (G : h.Ns mainGlobals mg) (hfa : mg "law" = some (.ref fa))
    {f_is_integer : Addr} {od_is_integer an_is_integer : Option Addr} {sl_is_integer : Array (Option Value)} {oc_is_integer kV_is_integer dc_is_integer pm_is_integer cd_is_integer ct_is_integer : Value}
    {f_is_drawer_count : Addr} {od_is_drawer_count an_is_drawer_count : Option Addr} {sl_is_drawer_count : Array (Option Value)} {oc_is_drawer_count kV_is_drawer_count dc_is_drawer_count pm_is_drawer_count cd_is_drawer_count ct_is_drawer_count : Value}
    {f_is_drawer : Addr} {od_is_drawer an_is_drawer : Option Addr} {sl_is_drawer : Array (Option Value)} {oc_is_drawer kV_is_drawer dc_is_drawer pm_is_drawer cd_is_drawer ct_is_drawer : Value}
    {f_is_bar : Addr} {od_is_bar an_is_bar : Option Addr} {sl_is_bar : Array (Option Value)} {oc_is_bar kV_is_bar dc_is_bar pm_is_bar cd_is_bar ct_is_bar : Value}
    {f_check_drawers : Addr} {od_check_drawers an_check_drawers : Option Addr} {sl_check_drawers : Array (Option Value)} {oc_check_drawers kV_check_drawers dc_check_drawers pm_check_drawers cd_check_drawers ct_check_drawers : Value}
    {f_check_bars : Addr} {od_check_bars an_check_bars : Option Addr} {sl_check_bars : Array (Option Value)} {oc_check_bars kV_check_bars dc_check_bars pm_check_bars cd_check_bars ct_check_bars : Value}
    {f__law_taken : Addr} {od__law_taken an__law_taken : Option Addr} {sl__law_taken : Array (Option Value)} {oc__law_taken kV__law_taken dc__law_taken pm__law_taken cd__law_taken ct__law_taken : Value}
    {f_check_cabinet : Addr} {od_check_cabinet an_check_cabinet : Option Addr} {sl_check_cabinet : Array (Option Value)} {oc_check_cabinet kV_check_cabinet dc_check_cabinet pm_check_cabinet cd_check_cabinet ct_check_cabinet : Value}
    {f_can : Addr} {od_can an_can : Option Addr} {sl_can : Array (Option Value)} {oc_can kV_can dc_can pm_can cd_can ct_can : Value}
    {f_barring : Addr} {od_barring an_barring : Option Addr} {sl_barring : Array (Option Value)} {oc_barring kV_barring dc_barring pm_barring cd_barring ct_barring : Value}
    {f_behind : Addr} {od_behind an_behind : Option Addr} {sl_behind : Array (Option Value)} {oc_behind kV_behind dc_behind pm_behind cd_behind ct_behind : Value}
    {f_right_row : Addr} {od_right_row an_right_row : Option Addr} {sl_right_row : Array (Option Value)} {oc_right_row kV_right_row dc_right_row pm_right_row cd_right_row ct_right_row : Value}
    {f_row_to : Addr} {od_row_to an_row_to : Option Addr} {sl_row_to : Array (Option Value)} {oc_row_to kV_row_to dc_row_to pm_row_to cd_row_to ct_row_to : Value}
    {f_row_between : Addr} {od_row_between an_row_between : Option Addr} {sl_row_between : Array (Option Value)} {oc_row_between kV_row_between dc_row_between pm_row_between cd_row_between ct_row_between : Value}
    {f_reached : Addr} {od_reached an_reached : Option Addr} {sl_reached : Array (Option Value)} {oc_reached kV_reached dc_reached pm_reached cd_reached ct_reached : Value}
    {f_farthest : Addr} {od_farthest an_farthest : Option Addr} {sl_farthest : Array (Option Value)} {oc_farthest kV_farthest dc_farthest pm_farthest cd_farthest ct_farthest : Value}
    {f_open_together : Addr} {od_open_together an_open_together : Option Addr} {sl_open_together : Array (Option Value)} {oc_open_together kV_open_together dc_open_together pm_open_together cd_open_together ct_open_together : Value}
    {f_never_together : Addr} {od_never_together an_never_together : Option Addr} {sl_never_together : Array (Option Value)} {oc_never_together kV_never_together dc_never_together pm_never_together cd_never_together ct_never_together : Value}
    {f_most_open : Addr} {od_most_open an_most_open : Option Addr} {sl_most_open : Array (Option Value)} {oc_most_open kV_most_open dc_most_open pm_most_open cd_most_open ct_most_open : Value}
    {f_first_apart : Addr} {od_first_apart an_first_apart : Option Addr} {sl_first_apart : Array (Option Value)} {oc_first_apart kV_first_apart dc_first_apart pm_first_apart cd_first_apart ct_first_apart : Value}
    {f_alike : Addr} {od_alike an_alike : Option Addr} {sl_alike : Array (Option Value)} {oc_alike kV_alike dc_alike pm_alike cd_alike ct_alike : Value}
    {f_needless : Addr} {od_needless an_needless : Option Addr} {sl_needless : Array (Option Value)} {oc_needless kV_needless dc_needless pm_needless cd_needless ct_needless : Value}
    {f__law_odd : Addr} {od__law_odd an__law_odd : Option Addr} {sl__law_odd : Array (Option Value)} {oc__law_odd kV__law_odd dc__law_odd pm__law_odd cd__law_odd ct__law_odd : Value}
    {f_fewest_bars : Addr} {od_fewest_bars an_fewest_bars : Option Addr} {sl_fewest_bars : Array (Option Value)} {oc_fewest_bars kV_fewest_bars dc_fewest_bars pm_fewest_bars cd_fewest_bars ct_fewest_bars : Value}
    {f_dead_end : Addr} {od_dead_end an_dead_end : Option Addr} {sl_dead_end : Array (Option Value)} {oc_dead_end kV_dead_end dc_dead_end pm_dead_end cd_dead_end ct_dead_end : Value}
    {f_never_opened : Addr} {od_never_opened an_never_opened : Option Addr} {sl_never_opened : Array (Option Value)} {oc_never_opened kV_never_opened dc_never_opened pm_never_opened cd_never_opened ct_never_opened : Value}
    {f_no_return : Addr} {od_no_return an_no_return : Option Addr} {sl_no_return : Array (Option Value)} {oc_no_return kV_no_return dc_no_return pm_no_return cd_no_return ct_no_return : Value}
    {f_write : Addr} {od_write an_write : Option Addr} {sl_write : Array (Option Value)} {oc_write kV_write dc_write pm_write cd_write ct_write : Value}
    {f_count_rows : Addr} {od_count_rows an_count_rows : Option Addr} {sl_count_rows : Array (Option Value)} {oc_count_rows kV_count_rows dc_count_rows pm_count_rows cd_count_rows ct_count_rows : Value}
    {f_frozen : Addr} {od_frozen an_frozen : Option Addr} {sl_frozen : Array (Option Value)} {oc_frozen kV_frozen dc_frozen pm_frozen cd_frozen ct_frozen : Value}
    {f_paper : Addr} {od_paper an_paper : Option Addr} {sl_paper : Array (Option Value)} {oc_paper kV_paper dc_paper pm_paper cd_paper ct_paper : Value}
    {f_count_to : Addr} {od_count_to an_count_to : Option Addr} {sl_count_to : Array (Option Value)} {oc_count_to kV_count_to dc_count_to pm_count_to cd_count_to ct_count_to : Value}
    {f_guards : Addr} {od_guards an_guards : Option Addr} {sl_guards : Array (Option Value)} {oc_guards kV_guards dc_guards pm_guards cd_guards ct_guards : Value}
    {f_right_paper : Addr} {od_right_paper an_right_paper : Option Addr} {sl_right_paper : Array (Option Value)} {oc_right_paper kV_right_paper dc_right_paper pm_right_paper cd_right_paper ct_right_paper : Value}
    {f__law_call : Addr} {od__law_call an__law_call : Option Addr} {sl__law_call : Array (Option Value)} {oc__law_call kV__law_call dc__law_call pm__law_call cd__law_call ct__law_call : Value}
    {f_law : Addr} {od_law an_law : Option Addr} {sl_law : Array (Option Value)} {oc_law kV_law dc_law pm_law cd_law ct_law : Value}
    {C : Addr}
    {f_Cabinet___init__ : Addr} {od_Cabinet___init__ an_Cabinet___init__ : Option Addr} {sl_Cabinet___init__ : Array (Option Value)} {oc_Cabinet___init__ kV_Cabinet___init__ dc_Cabinet___init__ pm_Cabinet___init__ cd_Cabinet___init__ ct_Cabinet___init__ : Value}
    {f_Desk___init__ : Addr} {od_Desk___init__ an_Desk___init__ : Option Addr} {sl_Desk___init__ : Array (Option Value)} {oc_Desk___init__ kV_Desk___init__ dc_Desk___init__ pm_Desk___init__ cd_Desk___init__ ct_Desk___init__ : Value}
    {tM : Tok}
    {fW : Addr}
    {ddW : Option Addr} {tW1 tW2 : Tok} {nW : Nat} {slW : Array (Option Value)}
    {CCb : Addr}
    {CDk : Addr}
    (aDk : PySem.W.nsIn K mainGlobals "Desk" = some (some (.ref CDk)))
    (a_Desk___init__ : PySem.W.findIn K (.ref CDk) "__init__" = some (some (.ref f_Desk___init__)))
    (a_is_integer : PySem.W.nsIn K mainGlobals "is_integer" = some (some (.ref f_is_integer)))
    (l_is_integer : K.lookup f_is_integer = some ⟨oc_is_integer, od_is_integer, .func (PySem.W.fnOf "is_integer" "is_integer" (defArgs sIsInt) (defBody sIsInt) (defScope sIsInt) .none kV_is_integer dc_is_integer pm_is_integer an_is_integer cd_is_integer ct_is_integer), sl_is_integer⟩)
    (c_is_integer : PySem.W.codeIn K cd_is_integer "is_integer" = true)
    (k_is_integer : PySem.W.keepIn K (.ref f_is_integer) = true)
    (a_is_drawer_count : PySem.W.nsIn K mainGlobals "is_drawer_count" = some (some (.ref f_is_drawer_count)))
    (l_is_drawer_count : K.lookup f_is_drawer_count = some ⟨oc_is_drawer_count, od_is_drawer_count, .func (PySem.W.fnOf "is_drawer_count" "is_drawer_count" (defArgs sIsCount) (defBody sIsCount) (defScope sIsCount) .none kV_is_drawer_count dc_is_drawer_count pm_is_drawer_count an_is_drawer_count cd_is_drawer_count ct_is_drawer_count), sl_is_drawer_count⟩)
    (c_is_drawer_count : PySem.W.codeIn K cd_is_drawer_count "is_drawer_count" = true)
    (k_is_drawer_count : PySem.W.keepIn K (.ref f_is_drawer_count) = true)
    (a_is_drawer : PySem.W.nsIn K mainGlobals "is_drawer" = some (some (.ref f_is_drawer)))
    (l_is_drawer : K.lookup f_is_drawer = some ⟨oc_is_drawer, od_is_drawer, .func (PySem.W.fnOf "is_drawer" "is_drawer" (defArgs sIsDrawer) (defBody sIsDrawer) (defScope sIsDrawer) .none kV_is_drawer dc_is_drawer pm_is_drawer an_is_drawer cd_is_drawer ct_is_drawer), sl_is_drawer⟩)
    (c_is_drawer : PySem.W.codeIn K cd_is_drawer "is_drawer" = true)
    (k_is_drawer : PySem.W.keepIn K (.ref f_is_drawer) = true)
    (a_is_bar : PySem.W.nsIn K mainGlobals "is_bar" = some (some (.ref f_is_bar)))
    (l_is_bar : K.lookup f_is_bar = some ⟨oc_is_bar, od_is_bar, .func (PySem.W.fnOf "is_bar" "is_bar" (defArgs sIsBar) (defBody sIsBar) (defScope sIsBar) .none kV_is_bar dc_is_bar pm_is_bar an_is_bar cd_is_bar ct_is_bar), sl_is_bar⟩)
    (c_is_bar : PySem.W.codeIn K cd_is_bar "is_bar" = true)
    (k_is_bar : PySem.W.keepIn K (.ref f_is_bar) = true)
    (a_check_drawers : PySem.W.nsIn K mainGlobals "check_drawers" = some (some (.ref f_check_drawers)))
    (l_check_drawers : K.lookup f_check_drawers = some ⟨oc_check_drawers, od_check_drawers, .func (PySem.W.fnOf "check_drawers" "check_drawers" (defArgs sCheckDrawers) (defBody sCheckDrawers) (defScope sCheckDrawers) .none kV_check_drawers dc_check_drawers pm_check_drawers an_check_drawers cd_check_drawers ct_check_drawers), sl_check_drawers⟩)
    (c_check_drawers : PySem.W.codeIn K cd_check_drawers "check_drawers" = true)
    (k_check_drawers : PySem.W.keepIn K (.ref f_check_drawers) = true)
    (a_check_bars : PySem.W.nsIn K mainGlobals "check_bars" = some (some (.ref f_check_bars)))
    (l_check_bars : K.lookup f_check_bars = some ⟨oc_check_bars, od_check_bars, .func (PySem.W.fnOf "check_bars" "check_bars" (defArgs sCheckBars) (defBody sCheckBars) (defScope sCheckBars) .none kV_check_bars dc_check_bars pm_check_bars an_check_bars cd_check_bars ct_check_bars), sl_check_bars⟩)
    (c_check_bars : PySem.W.codeIn K cd_check_bars "check_bars" = true)
    (k_check_bars : PySem.W.keepIn K (.ref f_check_bars) = true)
    (a__law_taken : PySem.W.nsIn K mainGlobals "_law_taken" = some (some (.ref f__law_taken)))
    (l__law_taken : K.lookup f__law_taken = some ⟨oc__law_taken, od__law_taken, .func (PySem.W.fnOf "_law_taken" "_law_taken" (defArgs sTaken) (defBody sTaken) (defScope sTaken) .none kV__law_taken dc__law_taken pm__law_taken an__law_taken cd__law_taken ct__law_taken), sl__law_taken⟩)
    (c__law_taken : PySem.W.codeIn K cd__law_taken "_law_taken" = true)
    (k__law_taken : PySem.W.keepIn K (.ref f__law_taken) = true)
    (a_check_cabinet : PySem.W.nsIn K mainGlobals "check_cabinet" = some (some (.ref f_check_cabinet)))
    (l_check_cabinet : K.lookup f_check_cabinet = some ⟨oc_check_cabinet, od_check_cabinet, .func (PySem.W.fnOf "check_cabinet" "check_cabinet" (defArgs s_check_cabinet) (defBody s_check_cabinet) (defScope s_check_cabinet) .none kV_check_cabinet dc_check_cabinet pm_check_cabinet an_check_cabinet cd_check_cabinet ct_check_cabinet), sl_check_cabinet⟩)
    (c_check_cabinet : PySem.W.codeIn K cd_check_cabinet "check_cabinet" = true)
    (k_check_cabinet : PySem.W.keepIn K (.ref f_check_cabinet) = true)
    (a_can : PySem.W.nsIn K mainGlobals "can" = some (some (.ref f_can)))
    (l_can : K.lookup f_can = some ⟨oc_can, od_can, .func (PySem.W.fnOf "can" "can" (defArgs s_can) (defBody s_can) (defScope s_can) .none kV_can dc_can pm_can an_can cd_can ct_can), sl_can⟩)
    (c_can : PySem.W.codeIn K cd_can "can" = true)
    (k_can : PySem.W.keepIn K (.ref f_can) = true)
    (a_barring : PySem.W.nsIn K mainGlobals "barring" = some (some (.ref f_barring)))
    (l_barring : K.lookup f_barring = some ⟨oc_barring, od_barring, .func (PySem.W.fnOf "barring" "barring" (defArgs s_barring) (defBody s_barring) (defScope s_barring) .none kV_barring dc_barring pm_barring an_barring cd_barring ct_barring), sl_barring⟩)
    (c_barring : PySem.W.codeIn K cd_barring "barring" = true)
    (k_barring : PySem.W.keepIn K (.ref f_barring) = true)
    (a_behind : PySem.W.nsIn K mainGlobals "behind" = some (some (.ref f_behind)))
    (l_behind : K.lookup f_behind = some ⟨oc_behind, od_behind, .func (PySem.W.fnOf "behind" "behind" (defArgs s_behind) (defBody s_behind) (defScope s_behind) .none kV_behind dc_behind pm_behind an_behind cd_behind ct_behind), sl_behind⟩)
    (c_behind : PySem.W.codeIn K cd_behind "behind" = true)
    (k_behind : PySem.W.keepIn K (.ref f_behind) = true)
    (a_right_row : PySem.W.nsIn K mainGlobals "right_row" = some (some (.ref f_right_row)))
    (l_right_row : K.lookup f_right_row = some ⟨oc_right_row, od_right_row, .func (PySem.W.fnOf "right_row" "right_row" (defArgs s_right_row) (defBody s_right_row) (defScope s_right_row) .none kV_right_row dc_right_row pm_right_row an_right_row cd_right_row ct_right_row), sl_right_row⟩)
    (c_right_row : PySem.W.codeIn K cd_right_row "right_row" = true)
    (k_right_row : PySem.W.keepIn K (.ref f_right_row) = true)
    (a_row_to : PySem.W.nsIn K mainGlobals "row_to" = some (some (.ref f_row_to)))
    (l_row_to : K.lookup f_row_to = some ⟨oc_row_to, od_row_to, .func (PySem.W.fnOf "row_to" "row_to" (defArgs s_row_to) (defBody s_row_to) (defScope s_row_to) .none kV_row_to dc_row_to pm_row_to an_row_to cd_row_to ct_row_to), sl_row_to⟩)
    (c_row_to : PySem.W.codeIn K cd_row_to "row_to" = true)
    (k_row_to : PySem.W.keepIn K (.ref f_row_to) = true)
    (a_row_between : PySem.W.nsIn K mainGlobals "row_between" = some (some (.ref f_row_between)))
    (l_row_between : K.lookup f_row_between = some ⟨oc_row_between, od_row_between, .func (PySem.W.fnOf "row_between" "row_between" (defArgs s_row_between) (defBody s_row_between) (defScope s_row_between) .none kV_row_between dc_row_between pm_row_between an_row_between cd_row_between ct_row_between), sl_row_between⟩)
    (c_row_between : PySem.W.codeIn K cd_row_between "row_between" = true)
    (k_row_between : PySem.W.keepIn K (.ref f_row_between) = true)
    (a_reached : PySem.W.nsIn K mainGlobals "reached" = some (some (.ref f_reached)))
    (l_reached : K.lookup f_reached = some ⟨oc_reached, od_reached, .func (PySem.W.fnOf "reached" "reached" (defArgs s_reached) (defBody s_reached) (defScope s_reached) .none kV_reached dc_reached pm_reached an_reached cd_reached ct_reached), sl_reached⟩)
    (c_reached : PySem.W.codeIn K cd_reached "reached" = true)
    (k_reached : PySem.W.keepIn K (.ref f_reached) = true)
    (a_farthest : PySem.W.nsIn K mainGlobals "farthest" = some (some (.ref f_farthest)))
    (l_farthest : K.lookup f_farthest = some ⟨oc_farthest, od_farthest, .func (PySem.W.fnOf "farthest" "farthest" (defArgs s_farthest) (defBody s_farthest) (defScope s_farthest) .none kV_farthest dc_farthest pm_farthest an_farthest cd_farthest ct_farthest), sl_farthest⟩)
    (c_farthest : PySem.W.codeIn K cd_farthest "farthest" = true)
    (k_farthest : PySem.W.keepIn K (.ref f_farthest) = true)
    (a_open_together : PySem.W.nsIn K mainGlobals "open_together" = some (some (.ref f_open_together)))
    (l_open_together : K.lookup f_open_together = some ⟨oc_open_together, od_open_together, .func (PySem.W.fnOf "open_together" "open_together" (defArgs s_open_together) (defBody s_open_together) (defScope s_open_together) .none kV_open_together dc_open_together pm_open_together an_open_together cd_open_together ct_open_together), sl_open_together⟩)
    (c_open_together : PySem.W.codeIn K cd_open_together "open_together" = true)
    (k_open_together : PySem.W.keepIn K (.ref f_open_together) = true)
    (a_never_together : PySem.W.nsIn K mainGlobals "never_together" = some (some (.ref f_never_together)))
    (l_never_together : K.lookup f_never_together = some ⟨oc_never_together, od_never_together, .func (PySem.W.fnOf "never_together" "never_together" (defArgs s_never_together) (defBody s_never_together) (defScope s_never_together) .none kV_never_together dc_never_together pm_never_together an_never_together cd_never_together ct_never_together), sl_never_together⟩)
    (c_never_together : PySem.W.codeIn K cd_never_together "never_together" = true)
    (k_never_together : PySem.W.keepIn K (.ref f_never_together) = true)
    (a_most_open : PySem.W.nsIn K mainGlobals "most_open" = some (some (.ref f_most_open)))
    (l_most_open : K.lookup f_most_open = some ⟨oc_most_open, od_most_open, .func (PySem.W.fnOf "most_open" "most_open" (defArgs s_most_open) (defBody s_most_open) (defScope s_most_open) .none kV_most_open dc_most_open pm_most_open an_most_open cd_most_open ct_most_open), sl_most_open⟩)
    (c_most_open : PySem.W.codeIn K cd_most_open "most_open" = true)
    (k_most_open : PySem.W.keepIn K (.ref f_most_open) = true)
    (a_first_apart : PySem.W.nsIn K mainGlobals "first_apart" = some (some (.ref f_first_apart)))
    (l_first_apart : K.lookup f_first_apart = some ⟨oc_first_apart, od_first_apart, .func (PySem.W.fnOf "first_apart" "first_apart" (defArgs s_first_apart) (defBody s_first_apart) (defScope s_first_apart) .none kV_first_apart dc_first_apart pm_first_apart an_first_apart cd_first_apart ct_first_apart), sl_first_apart⟩)
    (c_first_apart : PySem.W.codeIn K cd_first_apart "first_apart" = true)
    (k_first_apart : PySem.W.keepIn K (.ref f_first_apart) = true)
    (a_alike : PySem.W.nsIn K mainGlobals "alike" = some (some (.ref f_alike)))
    (l_alike : K.lookup f_alike = some ⟨oc_alike, od_alike, .func (PySem.W.fnOf "alike" "alike" (defArgs s_alike) (defBody s_alike) (defScope s_alike) .none kV_alike dc_alike pm_alike an_alike cd_alike ct_alike), sl_alike⟩)
    (c_alike : PySem.W.codeIn K cd_alike "alike" = true)
    (k_alike : PySem.W.keepIn K (.ref f_alike) = true)
    (a_needless : PySem.W.nsIn K mainGlobals "needless" = some (some (.ref f_needless)))
    (l_needless : K.lookup f_needless = some ⟨oc_needless, od_needless, .func (PySem.W.fnOf "needless" "needless" (defArgs s_needless) (defBody s_needless) (defScope s_needless) .none kV_needless dc_needless pm_needless an_needless cd_needless ct_needless), sl_needless⟩)
    (c_needless : PySem.W.codeIn K cd_needless "needless" = true)
    (k_needless : PySem.W.keepIn K (.ref f_needless) = true)
    (a__law_odd : PySem.W.nsIn K mainGlobals "_law_odd" = some (some (.ref f__law_odd)))
    (l__law_odd : K.lookup f__law_odd = some ⟨oc__law_odd, od__law_odd, .func (PySem.W.fnOf "_law_odd" "_law_odd" (defArgs s__law_odd) (defBody s__law_odd) (defScope s__law_odd) .none kV__law_odd dc__law_odd pm__law_odd an__law_odd cd__law_odd ct__law_odd), sl__law_odd⟩)
    (c__law_odd : PySem.W.codeIn K cd__law_odd "_law_odd" = true)
    (k__law_odd : PySem.W.keepIn K (.ref f__law_odd) = true)
    (a_fewest_bars : PySem.W.nsIn K mainGlobals "fewest_bars" = some (some (.ref f_fewest_bars)))
    (l_fewest_bars : K.lookup f_fewest_bars = some ⟨oc_fewest_bars, od_fewest_bars, .func (PySem.W.fnOf "fewest_bars" "fewest_bars" (defArgs s_fewest_bars) (defBody s_fewest_bars) (defScope s_fewest_bars) .none kV_fewest_bars dc_fewest_bars pm_fewest_bars an_fewest_bars cd_fewest_bars ct_fewest_bars), sl_fewest_bars⟩)
    (c_fewest_bars : PySem.W.codeIn K cd_fewest_bars "fewest_bars" = true)
    (k_fewest_bars : PySem.W.keepIn K (.ref f_fewest_bars) = true)
    (a_dead_end : PySem.W.nsIn K mainGlobals "dead_end" = some (some (.ref f_dead_end)))
    (l_dead_end : K.lookup f_dead_end = some ⟨oc_dead_end, od_dead_end, .func (PySem.W.fnOf "dead_end" "dead_end" (defArgs s_dead_end) (defBody s_dead_end) (defScope s_dead_end) .none kV_dead_end dc_dead_end pm_dead_end an_dead_end cd_dead_end ct_dead_end), sl_dead_end⟩)
    (c_dead_end : PySem.W.codeIn K cd_dead_end "dead_end" = true)
    (k_dead_end : PySem.W.keepIn K (.ref f_dead_end) = true)
    (a_never_opened : PySem.W.nsIn K mainGlobals "never_opened" = some (some (.ref f_never_opened)))
    (l_never_opened : K.lookup f_never_opened = some ⟨oc_never_opened, od_never_opened, .func (PySem.W.fnOf "never_opened" "never_opened" (defArgs s_never_opened) (defBody s_never_opened) (defScope s_never_opened) .none kV_never_opened dc_never_opened pm_never_opened an_never_opened cd_never_opened ct_never_opened), sl_never_opened⟩)
    (c_never_opened : PySem.W.codeIn K cd_never_opened "never_opened" = true)
    (k_never_opened : PySem.W.keepIn K (.ref f_never_opened) = true)
    (a_no_return : PySem.W.nsIn K mainGlobals "no_return" = some (some (.ref f_no_return)))
    (l_no_return : K.lookup f_no_return = some ⟨oc_no_return, od_no_return, .func (PySem.W.fnOf "no_return" "no_return" (defArgs s_no_return) (defBody s_no_return) (defScope s_no_return) .none kV_no_return dc_no_return pm_no_return an_no_return cd_no_return ct_no_return), sl_no_return⟩)
    (c_no_return : PySem.W.codeIn K cd_no_return "no_return" = true)
    (k_no_return : PySem.W.keepIn K (.ref f_no_return) = true)
    (a_write : PySem.W.nsIn K mainGlobals "write" = some (some (.ref f_write)))
    (l_write : K.lookup f_write = some ⟨oc_write, od_write, .func (PySem.W.fnOf "write" "write" (defArgs s_write) (defBody s_write) (defScope s_write) .none kV_write dc_write pm_write an_write cd_write ct_write), sl_write⟩)
    (c_write : PySem.W.codeIn K cd_write "write" = true)
    (k_write : PySem.W.keepIn K (.ref f_write) = true)
    (a_count_rows : PySem.W.nsIn K mainGlobals "count_rows" = some (some (.ref f_count_rows)))
    (l_count_rows : K.lookup f_count_rows = some ⟨oc_count_rows, od_count_rows, .func (PySem.W.fnOf "count_rows" "count_rows" (defArgs s_count_rows) (defBody s_count_rows) (defScope s_count_rows) .none kV_count_rows dc_count_rows pm_count_rows an_count_rows cd_count_rows ct_count_rows), sl_count_rows⟩)
    (c_count_rows : PySem.W.codeIn K cd_count_rows "count_rows" = true)
    (k_count_rows : PySem.W.keepIn K (.ref f_count_rows) = true)
    (a_frozen : PySem.W.nsIn K mainGlobals "frozen" = some (some (.ref f_frozen)))
    (l_frozen : K.lookup f_frozen = some ⟨oc_frozen, od_frozen, .func (PySem.W.fnOf "frozen" "frozen" (defArgs s_frozen) (defBody s_frozen) (defScope s_frozen) .none kV_frozen dc_frozen pm_frozen an_frozen cd_frozen ct_frozen), sl_frozen⟩)
    (c_frozen : PySem.W.codeIn K cd_frozen "frozen" = true)
    (k_frozen : PySem.W.keepIn K (.ref f_frozen) = true)
    (a_paper : PySem.W.nsIn K mainGlobals "paper" = some (some (.ref f_paper)))
    (l_paper : K.lookup f_paper = some ⟨oc_paper, od_paper, .func (PySem.W.fnOf "paper" "paper" (defArgs s_paper) (defBody s_paper) (defScope s_paper) .none kV_paper dc_paper pm_paper an_paper cd_paper ct_paper), sl_paper⟩)
    (c_paper : PySem.W.codeIn K cd_paper "paper" = true)
    (k_paper : PySem.W.keepIn K (.ref f_paper) = true)
    (a_count_to : PySem.W.nsIn K mainGlobals "count_to" = some (some (.ref f_count_to)))
    (l_count_to : K.lookup f_count_to = some ⟨oc_count_to, od_count_to, .func (PySem.W.fnOf "count_to" "count_to" (defArgs s_count_to) (defBody s_count_to) (defScope s_count_to) .none kV_count_to dc_count_to pm_count_to an_count_to cd_count_to ct_count_to), sl_count_to⟩)
    (c_count_to : PySem.W.codeIn K cd_count_to "count_to" = true)
    (k_count_to : PySem.W.keepIn K (.ref f_count_to) = true)
    (a_guards : PySem.W.nsIn K mainGlobals "guards" = some (some (.ref f_guards)))
    (l_guards : K.lookup f_guards = some ⟨oc_guards, od_guards, .func (PySem.W.fnOf "guards" "guards" (defArgs s_guards) (defBody s_guards) (defScope s_guards) .none kV_guards dc_guards pm_guards an_guards cd_guards ct_guards), sl_guards⟩)
    (c_guards : PySem.W.codeIn K cd_guards "guards" = true)
    (k_guards : PySem.W.keepIn K (.ref f_guards) = true)
    (a_right_paper : PySem.W.nsIn K mainGlobals "right_paper" = some (some (.ref f_right_paper)))
    (l_right_paper : K.lookup f_right_paper = some ⟨oc_right_paper, od_right_paper, .func (PySem.W.fnOf "right_paper" "right_paper" (defArgs s_right_paper) (defBody s_right_paper) (defScope s_right_paper) .none kV_right_paper dc_right_paper pm_right_paper an_right_paper cd_right_paper ct_right_paper), sl_right_paper⟩)
    (c_right_paper : PySem.W.codeIn K cd_right_paper "right_paper" = true)
    (k_right_paper : PySem.W.keepIn K (.ref f_right_paper) = true)
    (a__law_call : PySem.W.nsIn K mainGlobals "_law_call" = some (some (.ref f__law_call)))
    (l__law_call : K.lookup f__law_call = some ⟨oc__law_call, od__law_call, .func (PySem.W.fnOf "_law_call" "_law_call" (defArgs s__law_call) (defBody s__law_call) (defScope s__law_call) .none kV__law_call dc__law_call pm__law_call an__law_call cd__law_call ct__law_call), sl__law_call⟩)
    (c__law_call : PySem.W.codeIn K cd__law_call "_law_call" = true)
    (k__law_call : PySem.W.keepIn K (.ref f__law_call) = true)
    (a_law : PySem.W.nsIn K mainGlobals "law" = some (some (.ref f_law)))
    (l_law : K.lookup f_law = some ⟨oc_law, od_law, .func (PySem.W.fnOf "law" "law" (defArgs s_law) (defBody s_law) (defScope s_law) .none kV_law dc_law pm_law an_law cd_law ct_law), sl_law⟩)
    (c_law : PySem.W.codeIn K cd_law "law" = true)
    (k_law : PySem.W.keepIn K (.ref f_law) = true)
    (aC : PySem.W.nsIn K mainGlobals "Cabinet" = some (some (.ref C)))
    (pg : PySem.W.plainGet K C Str.empty = true)
    (hd : PySem.W.hasDictIn K C = true)
    (po : PySem.W.plainOver K C = true)
    (sa : PySem.W.findIn K (.ref C) "__setattr__" = some (some (.builtin "object.__setattr__")))
    (mk : PySem.W.makesIn K C = true)
    (kc : PySem.W.keepIn K (.ref C) = true)
    (nD : PySem.W.findIn K (.ref C) "_drawers" = some none)
    (nB : PySem.W.findIn K (.ref C) "_bars" = some none)
    (a_Cabinet___init__ : PySem.W.findIn K (.ref C) "__init__" = some (some (.ref f_Cabinet___init__)))
    (l_Cabinet___init__ : K.lookup f_Cabinet___init__ = some ⟨oc_Cabinet___init__, od_Cabinet___init__, .func (PySem.W.fnOf "__init__" "Cabinet.__init__" (defArgs sInit) (defBody sInit) (defScope sInit) .none kV_Cabinet___init__ dc_Cabinet___init__ pm_Cabinet___init__ an_Cabinet___init__ cd_Cabinet___init__ ct_Cabinet___init__), sl_Cabinet___init__⟩)
    (c_Cabinet___init__ : PySem.W.codeIn K cd_Cabinet___init__ "Cabinet.__init__" = true)
    (k_Cabinet___init__ : PySem.W.keepIn K (.ref f_Cabinet___init__) = true)
    (i_init : PySem.W.isFn K (.ref f_Cabinet___init__) = true)
    (ci1 : PySem.W.findIn K (.ref C) "__class__" = some (some (.builtin "object.__class__")))
    (ci2 : PySem.W.specialIn K (.builtin "object.__class__") "__get__" = some (some (.builtin "getset_descriptor.__get__")))
    (ci3 : PySem.W.takesIn K (.builtin "object.__class__") = some true)
    (ci4 : PySem.W.mroIn K C (.type "object") = some true)
    (ci5 : PySem.W.kitOne K (.ref C) (.ref C) = some true)
    (l_Desk___init__ : K.lookup f_Desk___init__ = some ⟨oc_Desk___init__, od_Desk___init__, .func (PySem.W.fnOf "__init__" "Desk.__init__" (defArgs s_Desk__init_) (defBody s_Desk__init_) (defScope s_Desk__init_) .none kV_Desk___init__ dc_Desk___init__ pm_Desk___init__ an_Desk___init__ cd_Desk___init__ ct_Desk___init__), sl_Desk___init__⟩)
    (c_Desk___init__ : PySem.W.codeIn K cd_Desk___init__ "Desk.__init__" = true)
    (k_Desk___init__ : PySem.W.keepIn K (.ref f_Desk___init__) = true)
    (z_isinstance : PySem.W.nsIn K mainGlobals "isinstance" = some none)
    (z_int : PySem.W.nsIn K mainGlobals "int" = some none)
    (z_bool : PySem.W.nsIn K mainGlobals "bool" = some none)
    (z_tuple : PySem.W.nsIn K mainGlobals "tuple" = some none)
    (z_len : PySem.W.nsIn K mainGlobals "len" = some none)
    (z_enumerate : PySem.W.nsIn K mainGlobals "enumerate" = some none)
    (z_range : PySem.W.nsIn K mainGlobals "range" = some none)
    (z_sorted : PySem.W.nsIn K mainGlobals "sorted" = some none)
    (aM : PySem.W.nsIn K mainGlobals "MOST_DRAWERS" = some (some (.int 7 tM)))
    (aW : PySem.W.nsIn K mainGlobals "WORDS" = some (some (.ref fW)))
    (lW : K.lookup fW = some ⟨.type "tuple", ddW, .seq #[.str "open" tW1, .str "shut" tW2] nW, slW⟩)
    (aCb : PySem.W.nsIn K mainGlobals "BadCabinet" = some (some (.ref CCb)))
    (xCb : PySem.W.excIn K CCb [.type "ValueError", .type "Exception", .type "BaseException", .type "object"] "ValueError.__new__" = true)
    (kCb : PySem.W.keepIn K (.ref CCb) = true)
    (bCb : PySem.W.subIn K (.ref CCb) (.type "BaseException") = some true)
    (tCb : PySem.W.typeIn K (.ref CCb) = some (.type "type"))
    (iCb : PySem.W.isClsIn K CCb = true)
    (sCb : PySem.W.subIn K (.ref CCb) (.ref CCb) = some true)
    (kcN : PySem.W.kitOne K (.type "NoneType") (.ref C) = some false)
    (kcI : PySem.W.kitOne K (.type "int") (.ref C) = some false)
    (kcB : PySem.W.kitOne K (.type "bool") (.ref C) = some false)
    (kcT : PySem.W.kitOne K (.type "tuple") (.ref C) = some false)
    (kcS : PySem.W.kitOne K (.type "str") (.ref C) = some false)
    (kcD : PySem.W.kitOne K (.type "dict") (.ref C) = some false)
    (mkDk : PySem.W.makesIn K CDk = true)
    (kcDk : PySem.W.keepIn K (.ref CDk) = true)
    (i_Deskinit : PySem.W.isFn K (.ref f_Desk___init__) = true)
    : ∃ fd : FuncData, (∀ (s : Shared) (v : Value), BindsTo s fd ⟨[v], []⟩ [("_law_script", v)]) ∧ ∀ base : Heap, K.In base → base.Ns mainGlobals mg → FnOk l.prog w K mg base CX0 20 fa fd ["_law_script"] (spLaw02 K) := by
  have e := hfa.symm.trans (PySem.W.mg_of X G a_law)
  cases e
  have F_is_integer := fun_mk (st := sIsInt) l_is_integer c_is_integer k_is_integer
  have b_is_integer := F_is_integer.binds (ps := ["value"]) fun _ _ _ _ _ _ us hl => match us, hl with | [_], _ => rfl
  have g_is_integer := PySem.W.mg_of X G a_is_integer
  have F_is_drawer_count := fun_mk (st := sIsCount) l_is_drawer_count c_is_drawer_count k_is_drawer_count
  have b_is_drawer_count := F_is_drawer_count.binds (ps := ["value"]) fun _ _ _ _ _ _ us hl => match us, hl with | [_], _ => rfl
  have g_is_drawer_count := PySem.W.mg_of X G a_is_drawer_count
  have F_is_drawer := fun_mk (st := sIsDrawer) l_is_drawer c_is_drawer k_is_drawer
  have b_is_drawer := F_is_drawer.binds (ps := ["drawers", "value"]) fun _ _ _ _ _ _ us hl => match us, hl with | [_, _], _ => rfl
  have g_is_drawer := PySem.W.mg_of X G a_is_drawer
  have F_is_bar := fun_mk (st := sIsBar) l_is_bar c_is_bar k_is_bar
  have b_is_bar := F_is_bar.binds (ps := ["drawers", "value"]) fun _ _ _ _ _ _ us hl => match us, hl with | [_, _], _ => rfl
  have g_is_bar := PySem.W.mg_of X G a_is_bar
  have F_check_drawers := fun_mk (st := sCheckDrawers) l_check_drawers c_check_drawers k_check_drawers
  have b_check_drawers := F_check_drawers.binds (ps := ["drawers"]) fun _ _ _ _ _ _ us hl => match us, hl with | [_], _ => rfl
  have g_check_drawers := PySem.W.mg_of X G a_check_drawers
  have F_check_bars := fun_mk (st := sCheckBars) l_check_bars c_check_bars k_check_bars
  have b_check_bars := F_check_bars.binds (ps := ["drawers", "bars"]) fun _ _ _ _ _ _ us hl => match us, hl with | [_, _], _ => rfl
  have g_check_bars := PySem.W.mg_of X G a_check_bars
  have F__law_taken := fun_mk (st := sTaken) l__law_taken c__law_taken k__law_taken
  have b__law_taken := F__law_taken.binds (ps := ["_law_row", "_law_many"]) fun _ _ _ _ _ _ us hl => match us, hl with | [_, _], _ => rfl
  have g__law_taken := PySem.W.mg_of X G a__law_taken
  have F_check_cabinet := fun_mk (st := s_check_cabinet) l_check_cabinet c_check_cabinet k_check_cabinet
  have b_check_cabinet := F_check_cabinet.binds (ps := ["cabinet"]) fun _ _ _ _ _ _ us hl => match us, hl with | [_], _ => rfl
  have g_check_cabinet := PySem.W.mg_of X G a_check_cabinet
  have F_can := fun_mk (st := s_can) l_can c_can k_can
  have b_can := F_can.binds (ps := ["cabinet", "standing"]) fun _ _ _ _ _ _ us hl => match us, hl with | [_, _], _ => rfl
  have g_can := PySem.W.mg_of X G a_can
  have F_barring := fun_mk (st := s_barring) l_barring c_barring k_barring
  have b_barring := F_barring.binds (ps := ["cabinet", "standing", "drawer"]) fun _ _ _ _ _ _ us hl => match us, hl with | [_, _, _], _ => rfl
  have g_barring := PySem.W.mg_of X G a_barring
  have F_behind := fun_mk (st := s_behind) l_behind c_behind k_behind
  have b_behind := F_behind.binds (ps := ["cabinet", "standing", "drawer"]) fun _ _ _ _ _ _ us hl => match us, hl with | [_, _, _], _ => rfl
  have g_behind := PySem.W.mg_of X G a_behind
  have F_right_row := fun_mk (st := s_right_row) l_right_row c_right_row k_right_row
  have b_right_row := F_right_row.binds (ps := ["cabinet", "pattern", "value"]) fun _ _ _ _ _ _ us hl => match us, hl with | [_, _, _], _ => rfl
  have g_right_row := PySem.W.mg_of X G a_right_row
  have F_row_to := fun_mk (st := s_row_to) l_row_to c_row_to k_row_to
  have b_row_to := F_row_to.binds (ps := ["cabinet", "pattern"]) fun _ _ _ _ _ _ us hl => match us, hl with | [_, _], _ => rfl
  have g_row_to := PySem.W.mg_of X G a_row_to
  have F_row_between := fun_mk (st := s_row_between) l_row_between c_row_between k_row_between
  have b_row_between := F_row_between.binds (ps := ["cabinet", "standing", "pattern"]) fun _ _ _ _ _ _ us hl => match us, hl with | [_, _, _], _ => rfl
  have g_row_between := PySem.W.mg_of X G a_row_between
  have F_reached := fun_mk (st := s_reached) l_reached c_reached k_reached
  have b_reached := F_reached.binds (ps := ["cabinet"]) fun _ _ _ _ _ _ us hl => match us, hl with | [_], _ => rfl
  have g_reached := PySem.W.mg_of X G a_reached
  have F_farthest := fun_mk (st := s_farthest) l_farthest c_farthest k_farthest
  have b_farthest := F_farthest.binds (ps := ["cabinet"]) fun _ _ _ _ _ _ us hl => match us, hl with | [_], _ => rfl
  have g_farthest := PySem.W.mg_of X G a_farthest
  have F_open_together := fun_mk (st := s_open_together) l_open_together c_open_together k_open_together
  have b_open_together := F_open_together.binds (ps := ["cabinet", "some"]) fun _ _ _ _ _ _ us hl => match us, hl with | [_, _], _ => rfl
  have g_open_together := PySem.W.mg_of X G a_open_together
  have F_never_together := fun_mk (st := s_never_together) l_never_together c_never_together k_never_together
  have b_never_together := F_never_together.binds (ps := ["cabinet"]) fun _ _ _ _ _ _ us hl => match us, hl with | [_], _ => rfl
  have g_never_together := PySem.W.mg_of X G a_never_together
  have F_most_open := fun_mk (st := s_most_open) l_most_open c_most_open k_most_open
  have b_most_open := F_most_open.binds (ps := ["cabinet"]) fun _ _ _ _ _ _ us hl => match us, hl with | [_], _ => rfl
  have g_most_open := PySem.W.mg_of X G a_most_open
  have F_first_apart := fun_mk (st := s_first_apart) l_first_apart c_first_apart k_first_apart
  have b_first_apart := F_first_apart.binds (ps := ["one", "other"]) fun _ _ _ _ _ _ us hl => match us, hl with | [_, _], _ => rfl
  have g_first_apart := PySem.W.mg_of X G a_first_apart
  have F_alike := fun_mk (st := s_alike) l_alike c_alike k_alike
  have b_alike := F_alike.binds (ps := ["one", "other"]) fun _ _ _ _ _ _ us hl => match us, hl with | [_, _], _ => rfl
  have g_alike := PySem.W.mg_of X G a_alike
  have F_needless := fun_mk (st := s_needless) l_needless c_needless k_needless
  have b_needless := F_needless.binds (ps := ["cabinet"]) fun _ _ _ _ _ _ us hl => match us, hl with | [_], _ => rfl
  have g_needless := PySem.W.mg_of X G a_needless
  have F__law_odd := fun_mk (st := s__law_odd) l__law_odd c__law_odd k__law_odd
  have b__law_odd := F__law_odd.binds (ps := ["_law_row"]) fun _ _ _ _ _ _ us hl => match us, hl with | [_], _ => rfl
  have g__law_odd := PySem.W.mg_of X G a__law_odd
  have F_fewest_bars := fun_mk (st := s_fewest_bars) l_fewest_bars c_fewest_bars k_fewest_bars
  have b_fewest_bars := F_fewest_bars.binds (ps := ["cabinet"]) fun _ _ _ _ _ _ us hl => match us, hl with | [_], _ => rfl
  have g_fewest_bars := PySem.W.mg_of X G a_fewest_bars
  have F_dead_end := fun_mk (st := s_dead_end) l_dead_end c_dead_end k_dead_end
  have b_dead_end := F_dead_end.binds (ps := ["cabinet"]) fun _ _ _ _ _ _ us hl => match us, hl with | [_], _ => rfl
  have g_dead_end := PySem.W.mg_of X G a_dead_end
  have F_never_opened := fun_mk (st := s_never_opened) l_never_opened c_never_opened k_never_opened
  have b_never_opened := F_never_opened.binds (ps := ["cabinet"]) fun _ _ _ _ _ _ us hl => match us, hl with | [_], _ => rfl
  have g_never_opened := PySem.W.mg_of X G a_never_opened
  have F_no_return := fun_mk (st := s_no_return) l_no_return c_no_return k_no_return
  have b_no_return := F_no_return.binds (ps := ["cabinet"]) fun _ _ _ _ _ _ us hl => match us, hl with | [_], _ => rfl
  have g_no_return := PySem.W.mg_of X G a_no_return
  have F_write := fun_mk (st := s_write) l_write c_write k_write
  have b_write := F_write.binds (ps := ["cabinet"]) fun _ _ _ _ _ _ us hl => match us, hl with | [_], _ => rfl
  have g_write := PySem.W.mg_of X G a_write
  have F_count_rows := fun_mk (st := s_count_rows) l_count_rows c_count_rows k_count_rows
  have b_count_rows := F_count_rows.binds (ps := ["cabinet", "length"]) fun _ _ _ _ _ _ us hl => match us, hl with | [_, _], _ => rfl
  have g_count_rows := PySem.W.mg_of X G a_count_rows
  have F_frozen := fun_mk (st := s_frozen) l_frozen c_frozen k_frozen
  have b_frozen := F_frozen.binds (ps := ["cabinet", "drawer"]) fun _ _ _ _ _ _ us hl => match us, hl with | [_, _], _ => rfl
  have g_frozen := PySem.W.mg_of X G a_frozen
  have F_paper := fun_mk (st := s_paper) l_paper c_paper k_paper
  have b_paper := F_paper.binds (ps := ["cabinet", "some"]) fun _ _ _ _ _ _ us hl => match us, hl with | [_, _], _ => rfl
  have g_paper := PySem.W.mg_of X G a_paper
  have F_count_to := fun_mk (st := s_count_to) l_count_to c_count_to k_count_to
  have b_count_to := F_count_to.binds (ps := ["cabinet", "length", "pattern"]) fun _ _ _ _ _ _ us hl => match us, hl with | [_, _, _], _ => rfl
  have g_count_to := PySem.W.mg_of X G a_count_to
  have F_guards := fun_mk (st := s_guards) l_guards c_guards k_guards
  have b_guards := F_guards.binds (ps := ["cabinet", "pairs", "most"]) fun _ _ _ _ _ _ us hl => match us, hl with | [_, _, _], _ => rfl
  have g_guards := PySem.W.mg_of X G a_guards
  have F_right_paper := fun_mk (st := s_right_paper) l_right_paper c_right_paper k_right_paper
  have b_right_paper := F_right_paper.binds (ps := ["cabinet", "some", "value"]) fun _ _ _ _ _ _ us hl => match us, hl with | [_, _, _], _ => rfl
  have g_right_paper := PySem.W.mg_of X G a_right_paper
  have F__law_call := fun_mk (st := s__law_call) l__law_call c__law_call k__law_call
  have b__law_call := F__law_call.binds (ps := ["_law_kind", "_law_value"]) fun _ _ _ _ _ _ us hl => match us, hl with | [_, _], _ => rfl
  have g__law_call := PySem.W.mg_of X G a__law_call
  have F_law := fun_mk (st := s_law) l_law c_law k_law
  have b_law := F_law.binds (ps := ["_law_script"]) fun _ _ _ _ _ _ us hl => match us, hl with | [_], _ => rfl
  have g_law := PySem.W.mg_of X G a_law
  have F_Cabinet___init__ := fun_mk (st := sInit) l_Cabinet___init__ c_Cabinet___init__ k_Cabinet___init__
  have b_Cabinet___init__ := F_Cabinet___init__.binds (ps := ["self", "drawers", "bars"]) fun _ _ _ _ _ _ us hl => match us, hl with | [_, _, _], _ => rfl
  have TC : CabT K mg C := ⟨⟨pg, hd, po, sa⟩, nD, nB, PySem.W.mg_of X G aC⟩
  have MC : Mk K C f_Cabinet___init__ := ⟨mk, a_Cabinet___init__, i_init, kc⟩
  have IC : CabI K mg C := ⟨⟨pg, hd, po, sa⟩, PySem.W.mg_of X G aC, ci1, ci2, ci3, ci4, ci5⟩
  have F_Desk___init__ := fun_mk (st := s_Desk__init_) l_Desk___init__ c_Desk___init__ k_Desk___init__
  have b_Desk___init__ := F_Desk___init__.binds (ps := ["self", "cabinet"]) fun _ _ _ _ _ _ us hl => match us, hl with | [_, _], _ => rfl
  have TB : Bt mg := ⟨PySem.W.mg_none_of X G z_isinstance, PySem.W.mg_none_of X G z_int, PySem.W.mg_none_of X G z_bool, PySem.W.mg_none_of X G z_tuple, PySem.W.mg_none_of X G z_len, PySem.W.mg_none_of X G z_enumerate, PySem.W.mg_none_of X G z_range, PySem.W.mg_none_of X G z_sorted⟩
  have n_isinstance := PySem.W.mg_none_of X G z_isinstance
  have n_int := PySem.W.mg_none_of X G z_int
  have n_bool := PySem.W.mg_none_of X G z_bool
  have n_tuple := PySem.W.mg_none_of X G z_tuple
  have n_len := PySem.W.mg_none_of X G z_len
  have n_enumerate := PySem.W.mg_none_of X G z_enumerate
  have n_range := PySem.W.mg_none_of X G z_range
  have n_sorted := PySem.W.mg_none_of X G z_sorted
  have gM := PySem.W.mg_of X G aM
  have gW := PySem.W.mg_of X G aW
  have hW : ∀ H, SqT K H fW [.str "open", .str "shut"] := fun H => .inr ⟨_, _, _, lW, rfl, rfl, by show 2 ≤ sizeLine; decide, .cons ⟨_, rfl⟩ (.cons ⟨_, rfl⟩ .nil)⟩
  have ETCb : ErrT K mg "BadCabinet" CCb := ⟨PySem.W.mg_of X G aCb, xCb, kCb, bCb, tCb⟩
  have EXCb := exm_of bCb iCb tCb sCb
  have MD : Mk K CDk f_Desk___init__ := ⟨mkDk, a_Desk___init__, i_Deskinit, kcDk⟩
  refine ⟨PySem.W.fnOf "law" "law" (defArgs s_law) (defBody s_law) (defScope s_law) .none kV_law dc_law pm_law an_law cd_law ct_law, fun s v => .of_eq rfl, fun base hKX hGX => ?_⟩
  have O__law_taken := ok_taken (P := l.prog) (w := w) (base := base) F__law_taken TB
  have O__law_odd := ok_oddC F__law_odd TB ⟨kcN, kcI, kcB, kcT, kcS, kcD⟩ O__law_taken g__law_taken k__law_taken b__law_taken
  have O_check_cabinet := ok_ckC (P := l.prog) (w := w) (base := base) F_check_cabinet TB IC ETCb
  have O_fewest_bars := ok_fewest_bars_N F_fewest_bars O_check_cabinet g_check_cabinet k_check_cabinet b_check_cabinet
  have O_needless := ok_needless_N F_needless O_check_cabinet g_check_cabinet k_check_cabinet b_check_cabinet
  have O_farthest := ok_farthest_N F_farthest O_check_cabinet g_check_cabinet k_check_cabinet b_check_cabinet
  have O_reached := ok_reached_N F_reached O_check_cabinet g_check_cabinet k_check_cabinet b_check_cabinet
  have O_dead_end := ok_dead_end_N F_dead_end O_check_cabinet g_check_cabinet k_check_cabinet b_check_cabinet
  have O_never_opened := ok_never_opened_N F_never_opened O_check_cabinet g_check_cabinet k_check_cabinet b_check_cabinet
  have O_no_return := ok_no_return_N F_no_return O_check_cabinet g_check_cabinet k_check_cabinet b_check_cabinet
  have O_write := ok_write_N F_write O_check_cabinet g_check_cabinet k_check_cabinet b_check_cabinet
  have O_most_open := ok_most_open_N F_most_open O_check_cabinet g_check_cabinet k_check_cabinet b_check_cabinet
  have O_never_together := ok_never_together_N F_never_together O_check_cabinet g_check_cabinet k_check_cabinet b_check_cabinet
  have O_can := ok_can_N F_can O_check_cabinet g_check_cabinet k_check_cabinet b_check_cabinet
  have O_count_rows := ok_count_rows_N F_count_rows O_check_cabinet g_check_cabinet k_check_cabinet b_check_cabinet
  have O_first_apart := ok_first_apart_N F_first_apart O_check_cabinet g_check_cabinet k_check_cabinet b_check_cabinet
  have O_alike := ok_alike_N F_alike O_first_apart g_first_apart k_first_apart b_first_apart
  have O_row_to := ok_row_to_N F_row_to O_check_cabinet g_check_cabinet k_check_cabinet b_check_cabinet
  have O_frozen := ok_frozen_N F_frozen O_check_cabinet g_check_cabinet k_check_cabinet b_check_cabinet
  have O_open_together := ok_open_together_N F_open_together O_check_cabinet g_check_cabinet k_check_cabinet b_check_cabinet
  have O_paper := ok_paper_N F_paper O_check_cabinet g_check_cabinet k_check_cabinet b_check_cabinet
  have O_barring := ok_barring_N F_barring O_check_cabinet g_check_cabinet k_check_cabinet b_check_cabinet
  have O_behind := ok_behind_N F_behind O_check_cabinet g_check_cabinet k_check_cabinet b_check_cabinet
  have O_count_to := ok_count_to_N F_count_to O_check_cabinet g_check_cabinet k_check_cabinet b_check_cabinet
  have O_guards := ok_guards_N F_guards O_check_cabinet g_check_cabinet k_check_cabinet b_check_cabinet
  have O_right_row := ok_right_row_N F_right_row O_check_cabinet g_check_cabinet k_check_cabinet b_check_cabinet
  have O_row_between := ok_row_between_N F_row_between O_check_cabinet g_check_cabinet k_check_cabinet b_check_cabinet
  have O_right_paper := ok_right_paper_N F_right_paper O_check_cabinet g_check_cabinet k_check_cabinet b_check_cabinet
  have O_is_integer := ok_isInt (P := l.prog) (w := w) (base := base) F_is_integer TB
  have O_is_drawer_count := ok_isCount F_is_drawer_count TB O_is_integer g_is_integer k_is_integer b_is_integer ⟨_, gM⟩
  have O_check_drawers := ok_checkDrawers F_check_drawers O_is_drawer_count g_is_drawer_count k_is_drawer_count b_is_drawer_count
  have O_is_drawer := ok_isDrawer F_is_drawer TB O_is_integer g_is_integer k_is_integer b_is_integer
  have O_is_bar := ok_isBar F_is_bar TB O_is_drawer g_is_drawer k_is_drawer b_is_drawer ⟨fW, gW, hW⟩
  have O_check_bars := ok_checkBars F_check_bars TB O_is_bar g_is_bar k_is_bar b_is_bar
  have O_Cabinet___init__ := ok_init F_Cabinet___init__ TC O_check_drawers g_check_drawers k_check_drawers b_check_drawers O_check_bars g_check_bars k_check_bars b_check_bars
  have O_Desk___init__ := ok_deskN F_Desk___init__ O_check_cabinet g_check_cabinet k_check_cabinet b_check_cabinet
  have O__law_call := ok_call02 F__law_call TC MC O_Cabinet___init__ b_Cabinet___init__ (PySem.W.mg_of X G aDk) MD O_Desk___init__ b_Desk___init__ O_fewest_bars g_fewest_bars k_fewest_bars b_fewest_bars O_needless g_needless k_needless b_needless O_farthest g_farthest k_farthest b_farthest O_reached g_reached k_reached b_reached O_dead_end g_dead_end k_dead_end b_dead_end O_never_opened g_never_opened k_never_opened b_never_opened O_no_return g_no_return k_no_return b_no_return O_write g_write k_write b_write O_most_open g_most_open k_most_open b_most_open O_never_together g_never_together k_never_together b_never_together O_can g_can k_can b_can O_count_rows g_count_rows k_count_rows b_count_rows O_alike g_alike k_alike b_alike O_first_apart g_first_apart k_first_apart b_first_apart O_row_to g_row_to k_row_to b_row_to O_frozen g_frozen k_frozen b_frozen O_open_together g_open_together k_open_together b_open_together O_paper g_paper k_paper b_paper O_barring g_barring k_barring b_barring O_behind g_behind k_behind b_behind O_count_to g_count_to k_count_to b_count_to O_guards g_guards k_guards b_guards O_right_row g_right_row k_right_row b_right_row O_row_between g_row_between k_row_between b_row_between O_right_paper g_right_paper k_right_paper b_right_paper
  exact ok_law F_law TB ETCb.g EXCb O__law_taken g__law_taken k__law_taken b__law_taken O__law_odd g__law_odd k__law_odd b__law_odd O__law_call g__law_call k__law_call b__law_call
theorem walk {l : PySem.W.OpenLaw} {q : Program} {loose : List Str} {XP : (Str → Option Value) → Heap → Prop} {YP : World → Heap → Prop} {d : DefRec} {K : Params → PySem.W.Frag} (hn : l.most = some 63) (hdf : d.params.defaults = [])
    (hY : ∀ (w : World) (h : Heap), YP w h → (K w.params).In h)
    (F : ∀ (w : World) (mg : Str → Option Value) (fa : Addr) (h : Heap), (K w.params).In h → h.Ns mainGlobals mg → mg d.name = some (.ref fa) →
      ∃ fd : FuncData, (∀ (s : Shared) (u : Value), BindsTo s fd ⟨[u], []⟩ [("_law_script", u)]) ∧ ∀ base : Heap, (K w.params).In base → base.Ns mainGlobals mg → FnOk l.prog w (K w.params) mg base CX0 20 fa fd ["_law_script"] (spLaw02 (K w.params))) :
    PySem.W.WalkO q loose XP YP l.row.toRowW d [] (fun f vs => PySem.call f vs) :=
  L2.walk_of (n := 63) (k := 20) (x := "_law_script") (CX := fun _ => CX0) (sp := fun w => spLaw02 (K w.params)) hn (by decide) hdf ⟨rfl, by decide, by decide⟩ hY F (fun _ _ a ns hl _ hS => ⟨a, ns, rfl, hS, hl, fun _ => rfl⟩) fun _ _ _ _ _ z => z
end DL


set_option Elab.async false
open PySem PySem.W PyProof.Rows in
set_option maxRecDepth 100000 in
set_option maxHeartbeats 0 in
theorem PySem.Challenge.cw_drawerlocks_k02_no_cabinets_holds : PySem.Challenge.rw_drawerlocks_k02_no_cabinets.Holds := by
  w_on; o_law; k_head; (case hw => w_witness2)
  k_fill
  refine DL.walk (l := PySem.Challenge.rw_drawerlocks_k02_no_cabinets) rfl rfl (fun w h Y => PySem.W.kIn_of Y) ?F
  case F =>
    intro w mg fa h KX G hmg
    refine' DL.all_mk KX G hmg ?aDk ?a_Desk___init__ ?a_is_integer ?l_is_integer ?c_is_integer ?k_is_integer ?a_is_drawer_count ?l_is_drawer_count ?c_is_drawer_count ?k_is_drawer_count ?a_is_drawer ?l_is_drawer ?c_is_drawer ?k_is_drawer ?a_is_bar ?l_is_bar ?c_is_bar ?k_is_bar ?a_check_drawers ?l_check_drawers ?c_check_drawers ?k_check_drawers ?a_check_bars ?l_check_bars ?c_check_bars ?k_check_bars ?a__law_taken ?l__law_taken ?c__law_taken ?k__law_taken ?a_check_cabinet ?l_check_cabinet ?c_check_cabinet ?k_check_cabinet ?a_can ?l_can ?c_can ?k_can ?a_barring ?l_barring ?c_barring ?k_barring ?a_behind ?l_behind ?c_behind ?k_behind ?a_right_row ?l_right_row ?c_right_row ?k_right_row ?a_row_to ?l_row_to ?c_row_to ?k_row_to ?a_row_between ?l_row_between ?c_row_between ?k_row_between ?a_reached ?l_reached ?c_reached ?k_reached ?a_farthest ?l_farthest ?c_farthest ?k_farthest ?a_open_together ?l_open_together ?c_open_together ?k_open_together ?a_never_together ?l_never_together ?c_never_together ?k_never_together ?a_most_open ?l_most_open ?c_most_open ?k_most_open ?a_first_apart ?l_first_apart ?c_first_apart ?k_first_apart ?a_alike ?l_alike ?c_alike ?k_alike ?a_needless ?l_needless ?c_needless ?k_needless ?a__law_odd ?l__law_odd ?c__law_odd ?k__law_odd ?a_fewest_bars ?l_fewest_bars ?c_fewest_bars ?k_fewest_bars ?a_dead_end ?l_dead_end ?c_dead_end ?k_dead_end ?a_never_opened ?l_never_opened ?c_never_opened ?k_never_opened ?a_no_return ?l_no_return ?c_no_return ?k_no_return ?a_write ?l_write ?c_write ?k_write ?a_count_rows ?l_count_rows ?c_count_rows ?k_count_rows ?a_frozen ?l_frozen ?c_frozen ?k_frozen ?a_paper ?l_paper ?c_paper ?k_paper ?a_count_to ?l_count_to ?c_count_to ?k_count_to ?a_guards ?l_guards ?c_guards ?k_guards ?a_right_paper ?l_right_paper ?c_right_paper ?k_right_paper ?a__law_call ?l__law_call ?c__law_call ?k__law_call ?a_law ?l_law ?c_law ?k_law ?aC ?pg ?hd ?po ?sa ?mk ?kc ?nD ?nB ?a_Cabinet___init__ ?l_Cabinet___init__ ?c_Cabinet___init__ ?k_Cabinet___init__ ?i_init ?ci1 ?ci2 ?ci3 ?ci4 ?ci5 ?l_Desk___init__ ?c_Desk___init__ ?k_Desk___init__ ?z_isinstance ?z_int ?z_bool ?z_tuple ?z_len ?z_enumerate ?z_range ?z_sorted ?aM ?aW ?lW ?aCb ?xCb ?kCb ?bCb ?tCb ?iCb ?sCb ?kcN ?kcI ?kcB ?kcT ?kcS ?kcD ?mkDk ?kcDk ?i_Deskinit
    (case aDk => k_is)
    (case a_Desk___init__ => k_is)
    (case a_is_integer => k_is)
    (case l_is_integer => k_is)
    (case c_is_integer => k_is)
    (case k_is_integer => k_is)
    (case a_is_drawer_count => k_is)
    (case l_is_drawer_count => k_is)
    (case c_is_drawer_count => k_is)
    (case k_is_drawer_count => k_is)
    (case a_is_drawer => k_is)
    (case l_is_drawer => k_is)
    (case c_is_drawer => k_is)
    (case k_is_drawer => k_is)
    (case a_is_bar => k_is)
    (case l_is_bar => k_is)
    (case c_is_bar => k_is)
    (case k_is_bar => k_is)
    (case a_check_drawers => k_is)
    (case l_check_drawers => k_is)
    (case c_check_drawers => k_is)
    (case k_check_drawers => k_is)
    (case a_check_bars => k_is)
    (case l_check_bars => k_is)
    (case c_check_bars => k_is)
    (case k_check_bars => k_is)
    (case a__law_taken => k_is)
    (case l__law_taken => k_is)
    (case c__law_taken => k_is)
    (case k__law_taken => k_is)
    (case a_check_cabinet => k_is)
    (case l_check_cabinet => k_is)
    (case c_check_cabinet => k_is)
    (case k_check_cabinet => k_is)
    (case a_can => k_is)
    (case l_can => k_is)
    (case c_can => k_is)
    (case k_can => k_is)
    (case a_barring => k_is)
    (case l_barring => k_is)
    (case c_barring => k_is)
    (case k_barring => k_is)
    (case a_behind => k_is)
    (case l_behind => k_is)
    (case c_behind => k_is)
    (case k_behind => k_is)
    (case a_right_row => k_is)
    (case l_right_row => k_is)
    (case c_right_row => k_is)
    (case k_right_row => k_is)
    (case a_row_to => k_is)
    (case l_row_to => k_is)
    (case c_row_to => k_is)
    (case k_row_to => k_is)
    (case a_row_between => k_is)
    (case l_row_between => k_is)
    (case c_row_between => k_is)
    (case k_row_between => k_is)
    (case a_reached => k_is)
    (case l_reached => k_is)
    (case c_reached => k_is)
    (case k_reached => k_is)
    (case a_farthest => k_is)
    (case l_farthest => k_is)
    (case c_farthest => k_is)
    (case k_farthest => k_is)
    (case a_open_together => k_is)
    (case l_open_together => k_is)
    (case c_open_together => k_is)
    (case k_open_together => k_is)
    (case a_never_together => k_is)
    (case l_never_together => k_is)
    (case c_never_together => k_is)
    (case k_never_together => k_is)
    (case a_most_open => k_is)
    (case l_most_open => k_is)
    (case c_most_open => k_is)
    (case k_most_open => k_is)
    (case a_first_apart => k_is)
    (case l_first_apart => k_is)
    (case c_first_apart => k_is)
    (case k_first_apart => k_is)
    (case a_alike => k_is)
    (case l_alike => k_is)
    (case c_alike => k_is)
    (case k_alike => k_is)
    (case a_needless => k_is)
    (case l_needless => k_is)
    (case c_needless => k_is)
    (case k_needless => k_is)
    (case a__law_odd => k_is)
    (case l__law_odd => k_is)
    (case c__law_odd => k_is)
    (case k__law_odd => k_is)
    (case a_fewest_bars => k_is)
    (case l_fewest_bars => k_is)
    (case c_fewest_bars => k_is)
    (case k_fewest_bars => k_is)
    (case a_dead_end => k_is)
    (case l_dead_end => k_is)
    (case c_dead_end => k_is)
    (case k_dead_end => k_is)
    (case a_never_opened => k_is)
    (case l_never_opened => k_is)
    (case c_never_opened => k_is)
    (case k_never_opened => k_is)
    (case a_no_return => k_is)
    (case l_no_return => k_is)
    (case c_no_return => k_is)
    (case k_no_return => k_is)
    (case a_write => k_is)
    (case l_write => k_is)
    (case c_write => k_is)
    (case k_write => k_is)
    (case a_count_rows => k_is)
    (case l_count_rows => k_is)
    (case c_count_rows => k_is)
    (case k_count_rows => k_is)
    (case a_frozen => k_is)
    (case l_frozen => k_is)
    (case c_frozen => k_is)
    (case k_frozen => k_is)
    (case a_paper => k_is)
    (case l_paper => k_is)
    (case c_paper => k_is)
    (case k_paper => k_is)
    (case a_count_to => k_is)
    (case l_count_to => k_is)
    (case c_count_to => k_is)
    (case k_count_to => k_is)
    (case a_guards => k_is)
    (case l_guards => k_is)
    (case c_guards => k_is)
    (case k_guards => k_is)
    (case a_right_paper => k_is)
    (case l_right_paper => k_is)
    (case c_right_paper => k_is)
    (case k_right_paper => k_is)
    (case a__law_call => k_is)
    (case l__law_call => k_is)
    (case c__law_call => k_is)
    (case k__law_call => k_is)
    (case a_law => k_is)
    (case l_law => k_is)
    (case c_law => k_is)
    (case k_law => k_is)
    (case aC => k_is)
    (case pg => k_is)
    (case hd => k_is)
    (case po => k_is)
    (case sa => k_is)
    (case mk => k_is)
    (case kc => k_is)
    (case nD => k_is)
    (case nB => k_is)
    (case a_Cabinet___init__ => k_is)
    (case l_Cabinet___init__ => k_is)
    (case c_Cabinet___init__ => k_is)
    (case k_Cabinet___init__ => k_is)
    (case i_init => k_is)
    (case ci1 => first | k_is | rfl)
    (case ci2 => first | k_is | rfl)
    (case ci3 => first | k_is | rfl)
    (case ci4 => first | k_is | rfl)
    (case ci5 => first | k_is | rfl)
    (case l_Desk___init__ => k_is)
    (case c_Desk___init__ => k_is)
    (case k_Desk___init__ => k_is)
    (case z_isinstance => k_is)
    (case z_int => k_is)
    (case z_bool => k_is)
    (case z_tuple => k_is)
    (case z_len => k_is)
    (case z_enumerate => k_is)
    (case z_range => k_is)
    (case z_sorted => k_is)
    (case aM => k_is)
    (case aW => k_is)
    (case lW => k_is)
    (case aCb => k_is)
    (case xCb => k_exc)
    (case kCb => k_is)
    (case bCb => k_is)
    (case tCb => k_is)
    (case iCb => k_is)
    (case sCb => first | rfl | k_is)
    (case kcN => first | k_is | rfl)
    (case kcI => first | k_is | rfl)
    (case kcB => first | k_is | rfl)
    (case kcT => first | k_is | rfl)
    (case kcS => first | k_is | rfl)
    (case kcD => first | k_is | rfl)
    (case mkDk => k_is)
    (case kcDk => k_is)
    (case i_Deskinit => k_is)
