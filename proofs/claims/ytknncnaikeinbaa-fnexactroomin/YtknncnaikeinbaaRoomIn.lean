/-
  RoomIn answers as the document's model does: at every Plan and Arena the law of RoomIn returns true and leaves its arguments as they were. No condition.
-/
import Derived.Test.YtknncnaikeinbaaSame
import Derived.Test.YtknncnaikeinbaaArgs
import Derived.Test.YtknncnaikeinbaaLawRows
import Derived.Test.YtknncnaikeinbaaAnyOrder
import Derived.Test.YtknncnaikeinbaaTail3
import Derived.Test.YtknncnaikeinbaaRoom
import Derived.Deep.Cut
namespace Go.Proofs.Ytknncnaikeinbaa
open Go.ChangeShapes Go.WideShapes Go.ChangeAt Go.RowKit
set_option linter.unusedVariables false
attribute [local go_sem ↓] Go.wp_at_zero Go.wp_at_succ

theorem sizeRPlan : (Try.prog.info? 23).map (fun i => i.size) = some 4 := by kernel_rfl

/-- What each operation of the region leaves. -/
def roomInG5 (x y z u : Int) (A : Ar) (n1 n2 : Int) (q0 q1 q2 q3 : Nat) (a0 a1 a2 a3 : Option Addr) (c0 c1 c2 c3 : Nat) : Nat → Value → World → Prop
  | 0, v', _ => v' = .agg #[.int .i64 x, .int .i64 y, .int .i64 z, .int .i64 u]
  | 1, v', _ => v' = .agg #[.int .i64 x, .int .i64 y, .int .i64 z, .int .i64 u]
  | 2, v', _ => v' = .agg #[.int .i64 A.camera, .slice a0 A.slots.length c0, .slice a1 A.guides.length c1, .slice a2 A.nodes.length c2, .slice a3 A.vers.length c3]
  | 3, v', w => ∃ p0 p1 p2 p3, v' = .agg #[.int .i64 A.camera, .slice (some ⟨p0, 0, none⟩) A.slots.length A.slots.length, .slice (some ⟨p1, 0, none⟩) A.guides.length A.guides.length, .slice (some ⟨p2, 0, none⟩) A.nodes.length A.nodes.length, .slice (some ⟨p3, 0, none⟩) A.vers.length A.vers.length] ∧ ArenaIs w.heap.size w (.slice (some ⟨p0, 0, none⟩) A.slots.length A.slots.length) (.slice (some ⟨p1, 0, none⟩) A.guides.length A.guides.length) (.slice (some ⟨p2, 0, none⟩) A.nodes.length A.nodes.length) (.slice (some ⟨p3, 0, none⟩) A.vers.length A.vers.length) A
  | 4, v', _ => v' = .tuple #[.int .i64 n1, .int .i64 n2]
  | 5, v', _ => v' = .tuple #[.int .i64 n1, .int .i64 n2]
  | 6, v', _ => v' = .int .i64 n1
  | 7, v', _ => v' = .int .i64 n2
  | _, _, _ => True
theorem roomInG5_kept {x y z u : Int} {A : Ar} {n1 n2 : Int} {q0 q1 q2 q3 : Nat} {a0 a1 a2 a3 : Option Addr} {c0 c1 c2 c3 : Nat} (i : Nat) (v' : Value) (w w' : World) (hq : roomInG5 x y z u A n1 n2 q0 q1 q2 q3 a0 a1 a2 a3 c0 c1 c2 c3 i v' w) (hb : Below w.heap.size w w') : roomInG5 x y z u A n1 n2 q0 q1 q2 q3 a0 a1 a2 a3 c0 c1 c2 c3 i v' w' := by
  match i, hq with
  | 0, h | 1, h | 2, h | 4, h | 5, h | 6, h | 7, h => exact h
  | 3, h =>
    obtain ⟨p0, p1, p2, p3, e, J⟩ := h
    exact ⟨p0, p1, p2, p3, e, (J.below hb).weaken hb.size⟩
  | n + 8, h => exact trivial

/-- What each operation of the region leaves. -/
def roomInG7 (x y z u : Int) (A : Ar) (n1 n2 : Int) (q0 q1 q2 q3 : Nat) (a0 a1 a2 a3 : Option Addr) (c0 c1 c2 c3 : Nat) : Nat → Value → World → Prop
  | 0, v', _ => v' = .agg #[.int .i64 x, .int .i64 y, .int .i64 z, .int .i64 u]
  | 1, v', _ => v' = .agg #[.int .i64 x, .int .i64 y, .int .i64 z, .int .i64 u]
  | 2, v', _ => v' = .agg #[.int .i64 A.camera, .slice (some ⟨q0, 0, none⟩) A.slots.length A.slots.length, .slice (some ⟨q1, 0, none⟩) A.guides.length A.guides.length, .slice (some ⟨q2, 0, none⟩) A.nodes.length A.nodes.length, .slice (some ⟨q3, 0, none⟩) A.vers.length A.vers.length]
  | 3, v', _ => v' = .tuple #[.int .i64 n1, .int .i64 n2]
  | 4, v', _ => v' = .tuple #[.int .i64 n1, .int .i64 n2]
  | 5, v', _ => v' = .int .i64 n1
  | 6, v', _ => v' = .int .i64 n2
  | _, _, _ => True
theorem roomInG7_kept {x y z u : Int} {A : Ar} {n1 n2 : Int} {q0 q1 q2 q3 : Nat} {a0 a1 a2 a3 : Option Addr} {c0 c1 c2 c3 : Nat} (i : Nat) (v' : Value) (w w' : World) (hq : roomInG7 x y z u A n1 n2 q0 q1 q2 q3 a0 a1 a2 a3 c0 c1 c2 c3 i v' w) (hb : Below w.heap.size w w') : roomInG7 x y z u A n1 n2 q0 q1 q2 q3 a0 a1 a2 a3 c0 c1 c2 c3 i v' w' := by
  match i, hq with
  | 0, h | 1, h | 2, h | 3, h | 4, h | 5, h | 6, h => exact h
  | n + 7, h => exact trivial

set_option maxRecDepth 100000 in
set_option maxHeartbeats 8000000 in
theorem roomIn_walk (x y z u : Int) (wx : (Lit.int .i64 x).wf = true) (wy : (Lit.int .i64 y).wf = true) (wz : (Lit.int .i64 z).wf = true) (wu : (Lit.int .i64 u).wf = true) (A : Ar) (a0 a1 a2 a3 : Option Addr) (c0 c1 c2 c3 : Nat) (w : World)
    (I : ArenaIs w.heap.size w (.slice a0 A.slots.length c0) (.slice a1 A.guides.length c1) (.slice a2 A.nodes.length c2) (.slice a3 A.vers.length c3) A) (m0 : A.slots.length ≤ maxLen) (m1 : A.guides.length ≤ maxLen) (m2 : A.nodes.length ≤ maxLen) (m3 : A.vers.length ≤ maxLen) :
    Calls Try.prog 3 #[.agg #[.int .i64 x, .int .i64 y, .int .i64 z, .int .i64 u], .agg #[.int .i64 A.camera, .slice a0 A.slots.length c0, .slice a1 A.guides.length c1, .slice a2 A.nodes.length c2, .slice a3 A.vers.length c3]] w fun e w' => e = .returned (.bool true) ∧ Below w.heap.size w w' := by
  unfold maxLen at m0 m1 m2 m3
  clear wx wy wz wu
  have P0 := World.rangeAt_alloc (rangeAt_new w [.int .i64 x, .int .i64 y, .int .i64 z, .int .i64 u] 23) (.cells #[.int .i64 A.camera, .slice a0 A.slots.length c0, .slice a1 A.guides.length c1, .slice a2 A.nodes.length c2, .slice a3 A.vers.length c3] 28)
  have X0 := rangeAt_new (w.alloc (.cells #[.int .i64 x, .int .i64 y, .int .i64 z, .int .i64 u] 23)) [.int .i64 A.camera, .slice a0 A.slots.length c0, .slice a1 A.guides.length c1, .slice a2 A.nodes.length c2, .slice a3 A.vers.length c3] 28
  have K0 := ((Below.refl w.heap.size w).alloc (Nat.le_refl _) (.cells #[.int .i64 x, .int .i64 y, .int .i64 z, .int .i64 u] 23)).alloc (by simp) (.cells #[.int .i64 A.camera, .slice a0 A.slots.length c0, .slice a1 A.guides.length c1, .slice a2 A.nodes.length c2, .slice a3 A.vers.length c3] 28)
  have hz0 : w.heap.size + 1 < ((w.alloc (.cells #[.int .i64 x, .int .i64 y, .int .i64 z, .int .i64 u] 23)).alloc (.cells #[.int .i64 A.camera, .slice a0 A.slots.length c0, .slice a1 A.guides.length c1, .slice a2 A.nodes.length c2, .slice a3 A.vers.length c3] 28)).heap.size := by simp
  simp only [World.size_alloc] at X0
  by_cases hA : A.size ≤ 1048576
  case neg =>
    unfold Ar.size at hA
    go_enter Try.func3, Try.ntmps3
    go_wp2_with fail
    refine (szArena_not _ _ _ _ _ _ _ _ _ _ _ _ _ _ (by omega) (by omega) (by omega) (by omega) (by omega)).mono ?_
    rintro e w1 ⟨rfl, b1⟩
    go_wp2
    go_ret
    exact ⟨rfl, K0.trans (b1.mono (by omega))⟩
  have hA' : A.slots.length + A.guides.length + A.nodes.length + A.vers.length ≤ 1048576 := hA
  go_enter Try.func3, Try.ntmps3
  go_wp2_with fail
  refine (szArena_fit _ _ _ _ _ _ _ _ _ _ _ _ _ _ hA').mono ?_
  rintro e w1 ⟨rfl, b1⟩
  have P1 := rangeAt_below P0 b1 (by omega)
  have X1 := rangeAt_below X0 b1 (by omega)
  have K1 := K0.trans (b1.mono (by omega))
  have I1 := I.below K1
  have hz1 : w.heap.size + 1 < w1.heap.size := Nat.lt_of_lt_of_le hz0 b1.size
  clear P0 X0 K0 I b1 hz0
  obtain ⟨n1, hn1⟩ : ∃ n1, Hid (roomN x y z u A = n1) := ⟨_, rfl⟩
  obtain ⟨n2, hn2⟩ : ∃ n2, Hid (roomV x y z u A = n2) := ⟨_, rfl⟩
  go_wp2_with fail
  refine any_order_floatT 8 7 (by decide) (by kernel_rfl) (roomInG5 x y z u A n1 n2 0 0 0 0 a0 a1 a2 a3 c0 c1 c2 c3) (fun _ => false) (by kernel_rfl) (by kernel_rfl) (by kernel_rfl) (by kernel_rfl) (by kernel_rfl) (by rfl) (fun i v' w w' _ hq hb => roomInG5_kept i v' w w' hq hb) (fun _ _ _ _ h => by cases h) ?step5 (fun _ _ _ _ h => h) ?float5 ?final5
  case float5 =>
    intro o ho a V hd
    obtain rfl := Option.some.inj ho
    have e1 : a.eval (.tmp 16) = .tuple #[.int .i64 n1, .int .i64 n2] := hd ⟨5, .data⟩ (by simp) rfl 16 rfl
    refine ⟨.int .i64 n2, fun w' => ?_, rfl, rfl⟩
    generalize a.eval = ev at *
    go_simp
  case step5 =>
    intro i o hik ho a V hb hn hd K hK
    have PW := rangeAt_below P1 hb (by omega)
    obtain ⟨x0', x1', x2', x3', x4'⟩ := row5 (rangeAt_below X1 hb (by omega))
    match i, ho with
    | 0, ho =>
      obtain rfl := Option.some.inj ho
      exact step_load 23 (.tmp 2) rfl (w.heap.size) 0 (hn 2 rfl) [.int .i64 x, .int .i64 y, .int .i64 z, .int .i64 u] _ PW Try.underlying23 rfl sizeRPlan (hK _ _ rfl (Below.refl _ _) (fun h => by cases h))
    | 1, ho =>
      obtain rfl := Option.some.inj ho
      have e1 : a.eval (.tmp 17) = .agg #[.int .i64 x, .int .i64 y, .int .i64 z, .int .i64 u] := hd ⟨0, .data⟩ (by simp) rfl 17 rfl
      have ef : a.eval (.func 6) = .func (.func 6) #[] #[] := rfl
      refine step_call (f := 6) (args := #[.agg #[.int .i64 x, .int .i64 y, .int .i64 z, .int .i64 u]]) (R := fun v w' => v = .agg #[.int .i64 x, .int .i64 y, .int .i64 z, .int .i64 u] ∧ Below V.heap.size V w') ?_ ((toPlan_any _ _ _ _ _).mono (fun e w' h => ⟨_, h.1, rfl, h.2⟩)) (fun v w' h => hK v w' h.1 h.2 (fun h => by cases h))
      generalize a.eval = ev at *
      go_simp
    | 2, ho =>
      obtain rfl := Option.some.inj ho
      have e1 : a.eval (.tmp 3) = .pointer (some ⟨w.heap.size + 1, 0, none⟩) := hn 3 rfl
      refine step_value (v := .agg #[.int .i64 A.camera, .slice a0 A.slots.length c0, .slice a1 A.guides.length c1, .slice a2 A.nodes.length c2, .slice a3 A.vers.length c3]) (w' := V) ?_ (hK _ _ rfl (Below.refl _ _) (fun h => by cases h))
      generalize a.eval = ev at *
      go_simp
    | 3, ho =>
      obtain rfl := Option.some.inj ho
      have e1 : a.eval (.tmp 19) = .agg #[.int .i64 A.camera, .slice a0 A.slots.length c0, .slice a1 A.guides.length c1, .slice a2 A.nodes.length c2, .slice a3 A.vers.length c3] := hd ⟨2, .data⟩ (by simp) rfl 19 rfl
      have ef : a.eval (.func 7) = .func (.func 7) #[] #[] := rfl
      refine step_call (f := 7) (args := #[.agg #[.int .i64 A.camera, .slice a0 A.slots.length c0, .slice a1 A.guides.length c1, .slice a2 A.nodes.length c2, .slice a3 A.vers.length c3]]) (R := fun v w' => (∃ p0 p1 p2 p3, v = .agg #[.int .i64 A.camera, .slice (some ⟨p0, 0, none⟩) A.slots.length A.slots.length, .slice (some ⟨p1, 0, none⟩) A.guides.length A.guides.length, .slice (some ⟨p2, 0, none⟩) A.nodes.length A.nodes.length, .slice (some ⟨p3, 0, none⟩) A.vers.length A.vers.length] ∧ ArenaIs w'.heap.size w' (.slice (some ⟨p0, 0, none⟩) A.slots.length A.slots.length) (.slice (some ⟨p1, 0, none⟩) A.guides.length A.guides.length) (.slice (some ⟨p2, 0, none⟩) A.nodes.length A.nodes.length) (.slice (some ⟨p3, 0, none⟩) A.vers.length A.vers.length) A) ∧ Below V.heap.size V w') ?_ ((toArena_at hb (by omega) hA I1).mono (fun e w' h => by obtain ⟨p0, p1, p2, p3, e1, J, bJ⟩ := h; exact ⟨_, e1, ⟨p0, p1, p2, p3, rfl, J⟩, bJ⟩)) (fun v w' h => hK v w' h.1 h.2 (fun h => by cases h))
      generalize a.eval = ev at *
      go_simp
    | 4, ho =>
      obtain rfl := Option.some.inj ho
      have e0 : a.eval (.tmp 18) = .agg #[.int .i64 x, .int .i64 y, .int .i64 z, .int .i64 u] := hd ⟨1, .data⟩ (by simp) rfl 18 rfl
      obtain ⟨p0, p1, p2, p3, eA, J⟩ := (show ∃ p0 p1 p2 p3, a.eval (.tmp 20) = .agg #[.int .i64 A.camera, .slice (some ⟨p0, 0, none⟩) A.slots.length A.slots.length, .slice (some ⟨p1, 0, none⟩) A.guides.length A.guides.length, .slice (some ⟨p2, 0, none⟩) A.nodes.length A.nodes.length, .slice (some ⟨p3, 0, none⟩) A.vers.length A.vers.length] ∧ ArenaIs V.heap.size V (.slice (some ⟨p0, 0, none⟩) A.slots.length A.slots.length) (.slice (some ⟨p1, 0, none⟩) A.guides.length A.guides.length) (.slice (some ⟨p2, 0, none⟩) A.nodes.length A.nodes.length) (.slice (some ⟨p3, 0, none⟩) A.vers.length A.vers.length) A from hd ⟨3, .data⟩ (by simp) rfl 20 rfl)
      have ef : a.eval (.func 5) = .func (.func 5) #[] #[] := rfl
      refine step_call (f := 5) (args := #[.agg #[.int .i64 x, .int .i64 y, .int .i64 z, .int .i64 u], .agg #[.int .i64 A.camera, .slice (some ⟨p0, 0, none⟩) A.slots.length A.slots.length, .slice (some ⟨p1, 0, none⟩) A.guides.length A.guides.length, .slice (some ⟨p2, 0, none⟩) A.nodes.length A.nodes.length, .slice (some ⟨p3, 0, none⟩) A.vers.length A.vers.length]]) (R := fun v w' => v = .tuple #[.int .i64 n1, .int .i64 n2] ∧ Below V.heap.size V w') ?_ ((specRoomIn_any _ A x y z u _ _ _ _ _ _ _ _ _ (Nat.le_refl _) hA J).mono (fun e w' h => ⟨_, h.1, by rw [hn1.out, hn2.out], h.2⟩)) (fun v w' h => hK v w' h.1 h.2 (fun h => by cases h))
      generalize a.eval = ev at *
      go_simp
    | 5, ho =>
      obtain rfl := Option.some.inj ho
      have e1 : a.eval (.tmp 21) = .tuple #[.int .i64 n1, .int .i64 n2] := hd ⟨4, .data⟩ (by simp) rfl 21 rfl
      refine step_value (v := .tuple #[.int .i64 n1, .int .i64 n2]) (w' := V) ?_ (hK _ _ rfl (Below.refl _ _) (fun h => by cases h))
      generalize a.eval = ev at *
      go_simp
    | 6, ho =>
      obtain rfl := Option.some.inj ho
      have e1 : a.eval (.tmp 16) = .tuple #[.int .i64 n1, .int .i64 n2] := hd ⟨5, .data⟩ (by simp) rfl 16 rfl
      refine step_value (v := .int .i64 n1) (w' := V) ?_ (hK _ _ rfl (Below.refl _ _) (fun h => by cases h))
      generalize a.eval = ev at *
      go_simp
    | 7, ho =>
      obtain rfl := Option.some.inj ho
      have e1 : a.eval (.tmp 16) = .tuple #[.int .i64 n1, .int .i64 n2] := hd ⟨5, .data⟩ (by simp) rfl 16 rfl
      refine step_value (v := .int .i64 n2) (w' := V) ?_ (hK _ _ rfl (Below.refl _ _) (fun h => by cases h))
      generalize a.eval = ev at *
      go_simp
    | n + 8, ho => omega
  case final5 =>
    intro vs5 V5 hb hG _
    have g0 : vs5 6 = .int .i64 n1 := hG 6 (by decide)
    have g1 : vs5 7 = .int .i64 n2 := hG 7 (by decide)
    generalize hl : laid _ vs5 _ _ _ = A'
    have hA'' : A' = { tmps := #[.agg #[.int .i64 x, .int .i64 y, .int .i64 z, .int .i64 u], .agg #[.int .i64 A.camera, .slice a0 A.slots.length c0, .slice a1 A.guides.length c1, .slice a2 A.nodes.length c2, .slice a3 A.vers.length c3], .pointer (some ⟨w.heap.size, 0, none⟩), .pointer (some ⟨w.heap.size + 1, 0, none⟩), .bool false, .int .i64 (1048576 - (A.slots.length : Int) - (A.guides.length : Int) - (A.nodes.length : Int) - (A.vers.length : Int)), undef, undef, undef, undef, undef, .agg #[.int .i64 A.camera, .slice a0 A.slots.length c0, .slice a1 A.guides.length c1, .slice a2 A.nodes.length c2, .slice a3 A.vers.length c3], .int .i64 1048576, .int .i64 (1048576 - (A.slots.length : Int) - (A.guides.length : Int) - (A.nodes.length : Int) - (A.vers.length : Int)), .int .i64 (1048576 - (A.slots.length : Int) - (A.guides.length : Int) - (A.nodes.length : Int) - (A.vers.length : Int)), .bool (decide ((1048576 - (A.slots.length : Int) - (A.guides.length : Int) - (A.nodes.length : Int) - (A.vers.length : Int)) < 0)), vs5 5, vs5 0, vs5 1, vs5 2, vs5 3, vs5 4, vs5 6, vs5 7, undef, undef, undef, undef, undef, undef, undef, undef, undef, undef, undef, undef, undef, undef, undef, undef, undef, undef, undef, undef, undef, undef], defers := [] } := by
      rw [← hl]
      kernel_rfl
    subst hA''
    rw [g0, g1]
    clear hl hG g0 g1
    simp only [List.drop_succ_cons, List.drop_zero]
    have P2 := rangeAt_below P1 hb (by omega)
    have X2 := rangeAt_below X1 hb (by omega)
    have K2 := K1.trans (hb.mono (by omega))
    have I2 := I1.below (hb.mono (by omega))
    have hz2 : w.heap.size + 1 < V5.heap.size := Nat.lt_of_lt_of_le hz1 hb.size
    clear P1 X1 K1 I1 hb
    obtain ⟨x0', x1', x2', x3', x4'⟩ := row5 X2
    go_wp2_with fail
    refine (toArena_at (Below.refl V5.heap.size V5) (by omega) hA I2).mono ?_
    rintro e w4 ⟨q0, q1, q2, q3, rfl, J4, b4⟩
    have al := (Below.refl w4.heap.size w4).alloc (Nat.le_refl _) (.cells #[.int .i64 A.camera, .slice (some ⟨q0, 0, none⟩) A.slots.length A.slots.length, .slice (some ⟨q1, 0, none⟩) A.guides.length A.guides.length, .slice (some ⟨q2, 0, none⟩) A.nodes.length A.nodes.length, .slice (some ⟨q3, 0, none⟩) A.vers.length A.vers.length] 37)
    have b6 := b4.trans (al.mono b4.size)
    have P6 := rangeAt_below P2 b6 (by omega)
    have X6 := rangeAt_below X2 b6 (by omega)
    have Z6 := rangeAt_new w4 [.int .i64 A.camera, .slice (some ⟨q0, 0, none⟩) A.slots.length A.slots.length, .slice (some ⟨q1, 0, none⟩) A.guides.length A.guides.length, .slice (some ⟨q2, 0, none⟩) A.nodes.length A.nodes.length, .slice (some ⟨q3, 0, none⟩) A.vers.length A.vers.length] 37
    have K6 := K2.trans (b6.mono (by omega))
    have I6 := I2.below (b6.mono (by omega))
    have J5 := (J4.below al).weaken al.size
    have hx6 : w4.heap.size < (w4.alloc (.cells #[.int .i64 A.camera, .slice (some ⟨q0, 0, none⟩) A.slots.length A.slots.length, .slice (some ⟨q1, 0, none⟩) A.guides.length A.guides.length, .slice (some ⟨q2, 0, none⟩) A.nodes.length A.nodes.length, .slice (some ⟨q3, 0, none⟩) A.vers.length A.vers.length] 37)).heap.size := by simp
    have hz6 : w.heap.size + 1 < (w4.alloc (.cells #[.int .i64 A.camera, .slice (some ⟨q0, 0, none⟩) A.slots.length A.slots.length, .slice (some ⟨q1, 0, none⟩) A.guides.length A.guides.length, .slice (some ⟨q2, 0, none⟩) A.nodes.length A.nodes.length, .slice (some ⟨q3, 0, none⟩) A.vers.length A.vers.length] 37)).heap.size := Nat.lt_of_lt_of_le hz2 b6.size
    clear P2 X2 K2 I2 J4 al b4 b6 x0' x1' x2' x3' x4'
    go_upto_region 7 with fail
    generalize hw6 : w4.alloc (.cells #[.int .i64 A.camera, .slice (some ⟨q0, 0, none⟩) A.slots.length A.slots.length, .slice (some ⟨q1, 0, none⟩) A.guides.length A.guides.length, .slice (some ⟨q2, 0, none⟩) A.nodes.length A.nodes.length, .slice (some ⟨q3, 0, none⟩) A.vers.length A.vers.length] 37) = w6 at *
    clear hw6
    obtain ⟨xb, hxb⟩ : ∃ xb, xb = w4.heap.size := ⟨_, rfl⟩
    rw [← hxb] at Z6 hx6 ⊢
    clear hxb
    refine any_order_floatT 7 6 (by decide) (by kernel_rfl) (roomInG7 x y z u A n1 n2 q0 q1 q2 q3 a0 a1 a2 a3 c0 c1 c2 c3) (fun _ => false) (by kernel_rfl) (by kernel_rfl) (by kernel_rfl) (by kernel_rfl) (by kernel_rfl) (by rfl) (fun i v' w w' _ hq hb => roomInG7_kept i v' w w' hq hb) (fun _ _ _ _ h => by cases h) ?step7 (fun _ _ _ _ h => h) ?float7 ?final7
    case float7 =>
      intro o ho a V hd
      obtain rfl := Option.some.inj ho
      have e1 : a.eval (.tmp 26) = .tuple #[.int .i64 n1, .int .i64 n2] := hd ⟨4, .data⟩ (by simp) rfl 26 rfl
      refine ⟨.int .i64 n2, fun w' => ?_, rfl, rfl⟩
      generalize a.eval = ev at *
      go_simp
    case step7 =>
      intro i o hik ho a V hb hn hd K hK
      have PW := rangeAt_below P6 hb (by omega)
      obtain ⟨x0', x1', x2', x3', x4'⟩ := row5 (rangeAt_below X6 hb (by omega))
      obtain ⟨y0', y1', y2', y3', y4'⟩ := row5 (rangeAt_below Z6 hb (by omega))
      match i, ho with
      | 0, ho =>
        obtain rfl := Option.some.inj ho
        exact step_load 23 (.tmp 2) rfl (w.heap.size) 0 (hn 2 rfl) [.int .i64 x, .int .i64 y, .int .i64 z, .int .i64 u] _ PW Try.underlying23 rfl sizeRPlan (hK _ _ rfl (Below.refl _ _) (fun h => by cases h))
      | 1, ho =>
        obtain rfl := Option.some.inj ho
        have e1 : a.eval (.tmp 27) = .agg #[.int .i64 x, .int .i64 y, .int .i64 z, .int .i64 u] := hd ⟨0, .data⟩ (by simp) rfl 27 rfl
        have ef : a.eval (.func 6) = .func (.func 6) #[] #[] := rfl
        refine step_call (f := 6) (args := #[.agg #[.int .i64 x, .int .i64 y, .int .i64 z, .int .i64 u]]) (R := fun v w' => v = .agg #[.int .i64 x, .int .i64 y, .int .i64 z, .int .i64 u] ∧ Below V.heap.size V w') ?_ ((toPlan_any _ _ _ _ _).mono (fun e w' h => ⟨_, h.1, rfl, h.2⟩)) (fun v w' h => hK v w' h.1 h.2 (fun h => by cases h))
        generalize a.eval = ev at *
        go_simp
      | 2, ho =>
        obtain rfl := Option.some.inj ho
        have e1 : a.eval (.tmp 8) = .pointer (some ⟨xb, 0, none⟩) := hn 8 rfl
        refine step_value (v := .agg #[.int .i64 A.camera, .slice (some ⟨q0, 0, none⟩) A.slots.length A.slots.length, .slice (some ⟨q1, 0, none⟩) A.guides.length A.guides.length, .slice (some ⟨q2, 0, none⟩) A.nodes.length A.nodes.length, .slice (some ⟨q3, 0, none⟩) A.vers.length A.vers.length]) (w' := V) ?_ (hK _ _ rfl (Below.refl _ _) (fun h => by cases h))
        generalize a.eval = ev at *
        go_simp
      | 3, ho =>
        obtain rfl := Option.some.inj ho
        have e0 : a.eval (.tmp 28) = .agg #[.int .i64 x, .int .i64 y, .int .i64 z, .int .i64 u] := hd ⟨1, .data⟩ (by simp) rfl 28 rfl
        have eA : a.eval (.tmp 29) = .agg #[.int .i64 A.camera, .slice (some ⟨q0, 0, none⟩) A.slots.length A.slots.length, .slice (some ⟨q1, 0, none⟩) A.guides.length A.guides.length, .slice (some ⟨q2, 0, none⟩) A.nodes.length A.nodes.length, .slice (some ⟨q3, 0, none⟩) A.vers.length A.vers.length] := hd ⟨2, .data⟩ (by simp) rfl 29 rfl
        have J := (J5.below hb).weaken hb.size
        have ef : a.eval (.func 8) = .func (.func 8) #[] #[] := rfl
        refine step_call (f := 8) (args := #[.agg #[.int .i64 x, .int .i64 y, .int .i64 z, .int .i64 u], .agg #[.int .i64 A.camera, .slice (some ⟨q0, 0, none⟩) A.slots.length A.slots.length, .slice (some ⟨q1, 0, none⟩) A.guides.length A.guides.length, .slice (some ⟨q2, 0, none⟩) A.nodes.length A.nodes.length, .slice (some ⟨q3, 0, none⟩) A.vers.length A.vers.length]]) (R := fun v w' => v = .tuple #[.int .i64 n1, .int .i64 n2] ∧ Below V.heap.size V w') ?_ ((roomIn_any _ A x y z u _ _ _ _ _ _ _ _ _ (Nat.le_refl _) hA J).mono (fun e w' h => ⟨_, h.1, by rw [hn1.out, hn2.out], h.2⟩)) (fun v w' h => hK v w' h.1 h.2 (fun h => by cases h))
        generalize a.eval = ev at *
        go_simp
      | 4, ho =>
        obtain rfl := Option.some.inj ho
        have e1 : a.eval (.tmp 30) = .tuple #[.int .i64 n1, .int .i64 n2] := hd ⟨3, .data⟩ (by simp) rfl 30 rfl
        refine step_value (v := .tuple #[.int .i64 n1, .int .i64 n2]) (w' := V) ?_ (hK _ _ rfl (Below.refl _ _) (fun h => by cases h))
        generalize a.eval = ev at *
        go_simp
      | 5, ho =>
        obtain rfl := Option.some.inj ho
        have e1 : a.eval (.tmp 26) = .tuple #[.int .i64 n1, .int .i64 n2] := hd ⟨4, .data⟩ (by simp) rfl 26 rfl
        refine step_value (v := .int .i64 n1) (w' := V) ?_ (hK _ _ rfl (Below.refl _ _) (fun h => by cases h))
        generalize a.eval = ev at *
        go_simp
      | 6, ho =>
        obtain rfl := Option.some.inj ho
        have e1 : a.eval (.tmp 26) = .tuple #[.int .i64 n1, .int .i64 n2] := hd ⟨4, .data⟩ (by simp) rfl 26 rfl
        refine step_value (v := .int .i64 n2) (w' := V) ?_ (hK _ _ rfl (Below.refl _ _) (fun h => by cases h))
        generalize a.eval = ev at *
        go_simp
      | n + 7, ho => omega
    case final7 =>
      intro vs7 V7 hb hG _
      have g0 : vs7 5 = .int .i64 n1 := hG 5 (by decide)
      have g1 : vs7 6 = .int .i64 n2 := hG 6 (by decide)
      generalize hl : laid _ vs7 _ _ _ = A'
      have hA'' : A' = { tmps := #[.agg #[.int .i64 x, .int .i64 y, .int .i64 z, .int .i64 u], .agg #[.int .i64 A.camera, .slice a0 A.slots.length c0, .slice a1 A.guides.length c1, .slice a2 A.nodes.length c2, .slice a3 A.vers.length c3], .pointer (some ⟨w.heap.size, 0, none⟩), .pointer (some ⟨w.heap.size + 1, 0, none⟩), .bool false, .int .i64 (1048576 - (A.slots.length : Int) - (A.guides.length : Int) - (A.nodes.length : Int) - (A.vers.length : Int)), .int .i64 n1, .int .i64 n2, .pointer (some ⟨xb, 0, none⟩), undef, undef, .agg #[.int .i64 A.camera, .slice a0 A.slots.length c0, .slice a1 A.guides.length c1, .slice a2 A.nodes.length c2, .slice a3 A.vers.length c3], .int .i64 1048576, .int .i64 (1048576 - (A.slots.length : Int) - (A.guides.length : Int) - (A.nodes.length : Int) - (A.vers.length : Int)), .int .i64 (1048576 - (A.slots.length : Int) - (A.guides.length : Int) - (A.nodes.length : Int) - (A.vers.length : Int)), .bool (decide ((1048576 - (A.slots.length : Int) - (A.guides.length : Int) - (A.nodes.length : Int) - (A.vers.length : Int)) < 0)), vs5 5, vs5 0, vs5 1, vs5 2, vs5 3, vs5 4, .int .i64 n1, .int .i64 n2, .agg #[.int .i64 A.camera, .slice a0 A.slots.length c0, .slice a1 A.guides.length c1, .slice a2 A.nodes.length c2, .slice a3 A.vers.length c3], .agg #[.int .i64 A.camera, .slice (some ⟨q0, 0, none⟩) A.slots.length A.slots.length, .slice (some ⟨q1, 0, none⟩) A.guides.length A.guides.length, .slice (some ⟨q2, 0, none⟩) A.nodes.length A.nodes.length, .slice (some ⟨q3, 0, none⟩) A.vers.length A.vers.length], vs7 4, vs7 0, vs7 1, vs7 2, vs7 3, vs7 5, vs7 6, undef, undef, undef, undef, undef, undef, undef, undef, undef, undef, undef, undef, undef], defers := [] } := by
        rw [← hl]
        kernel_rfl
      subst hA''
      rw [g0, g1]
      clear hl hG g0 g1
      simp only [List.drop_succ_cons, List.drop_zero]
      have X8 := rangeAt_below X6 hb (by omega)
      have Z8 := rangeAt_below Z6 hb (by omega)
      have K8 := K6.trans (hb.mono (by omega))
      have I8 := I6.below (hb.mono (by omega))
      have J8 := (J5.below hb).weaken hb.size
      have hzA : w.heap.size + 1 < V7.heap.size := Nat.lt_of_lt_of_le hz6 hb.size
      have hx8 : xb < V7.heap.size := Nat.lt_of_lt_of_le hx6 hb.size
      have hzp : w.heap.size ≤ V7.heap.size := by omega
      clear P6 X6 Z6 K6 I6 J5 hb
      have hc1 : (n1 != n1) = false := by simp
      have hc2 : (n2 != n2) = false := by simp
      have BB := Below.refl V7.heap.size V7
      obtain ⟨x0', x1', x2', x3', x4'⟩ := row5 X8
      obtain ⟨y0', y1', y2', y3', y4'⟩ := row5 Z8
      go_wp2_with fail
      go_region_held3 (fun w' => w'.cell? ⟨xb, 0, none⟩ = some (.int .i64 A.camera) ∧ w'.cell? ⟨xb, 1, none⟩ = some (.slice (some ⟨q0, 0, none⟩) A.slots.length A.slots.length) ∧ w'.cell? ⟨xb, 2, none⟩ = some (.slice (some ⟨q1, 0, none⟩) A.guides.length A.guides.length) ∧ w'.cell? ⟨xb, 3, none⟩ = some (.slice (some ⟨q2, 0, none⟩) A.nodes.length A.nodes.length) ∧ w'.cell? ⟨xb, 4, none⟩ = some (.slice (some ⟨q3, 0, none⟩) A.vers.length A.vers.length) ∧ w'.cell? ⟨w.heap.size + 1, 0, none⟩ = some (.int .i64 A.camera) ∧ w'.cell? ⟨w.heap.size + 1, 1, none⟩ = some (.slice a0 A.slots.length c0) ∧ w'.cell? ⟨w.heap.size + 1, 2, none⟩ = some (.slice a1 A.guides.length c1) ∧ w'.cell? ⟨w.heap.size + 1, 3, none⟩ = some (.slice a2 A.nodes.length c2) ∧ w'.cell? ⟨w.heap.size + 1, 4, none⟩ = some (.slice a3 A.vers.length c3)) (go_keep) (first | (go_at_call 7; refine (toArena_at BB.drew hzp hA I8).mono ?_; rintro e wi ⟨r0, r1, r2, r3, rfl, J6, bi⟩; replace BB : Below V7.heap.size V7 wi := (by first | exact BB.drew.trans (bi.mono (by exact BB.size)) | exact BB.trans (bi.mono (by exact BB.size))); obtain ⟨x0', x1', x2', x3', x4'⟩ := row5 (rangeAt_below X8 BB hzA); obtain ⟨y0', y1', y2', y3', y4'⟩ := row5 (rangeAt_below Z8 BB hx8)) | (go_at_call 9; refine (eqArena_any _ A _ _ _ _ _ _ _ _ _ (Nat.le_refl _) hA ((J8.below BB).weaken BB.size) J6).mono ?_; rintro e wi ⟨rfl, bi⟩; replace BB : Below V7.heap.size V7 wi := (by first | exact BB.drew.trans (bi.mono (by exact BB.size)) | exact BB.trans (bi.mono (by exact BB.size))); obtain ⟨x0', x1', x2', x3', x4'⟩ := row5 (rangeAt_below X8 BB hzA); obtain ⟨y0', y1', y2', y3', y4'⟩ := row5 (rangeAt_below Z8 BB hx8)))
      go_wp2
      go_ret
      exact ⟨rfl, K8.trans (BB.mono hzp)⟩

set_option maxRecDepth 100000 in
theorem roomIn_lifted (os : Os) (started : os.Started) (H : Type) (enc : TypeId × Value → H) :
    ReturnsInHanded {} Try.checked os 3 .any (Rows.fnExactRoomInSpec.pre6 enc Try.prog Try.f3 Rows.fnExactRoomInRow.domain false) (Rows.fnExactRoomInSpec.post enc Try.prog Try.f3 false true false false) := by
  refine returnsInHanded_of_change (C := Try.checked) own started (by kernel_rfl) Try.func3
    (ChangeSpec.witness6 (enc := enc) (C := Try.checked) false ⟨#[], #[.agg #[.int .i64 0, .int .i64 0, .int .i64 0, .int .i64 0], .agg #[.int .i64 0, .slice none 0 0, .slice none 0 0, .slice none 0 0, .slice none 0 0]], []⟩ 8 (by kernel_rfl) (by kernel_rfl) (by kernel_rfl) (by kernel_rfl)) ?_
  intro W base args ds gs before hval0 hW hcnd _
  have hval : ∀ (j : Nat) t v, Try.f3.params[j]? = some t → args[j]? = some v → Value.okWide Try.prog W .any base t v := hval0
  have hW' := hW
  obtain ⟨p, q, hA0, hV, rfl, hfz, hnd⟩ := hW
  have hA : DataW.TrodAll enc Try.prog W 0 (fun _ => true) true Try.f3.params.toList args.toList ds p := hA0
  rw [Try.params3] at hA hval
  obtain ⟨v0, vs0, d0, ds0, p0, q0, hargs, rfl, rfl, h0, r0⟩ := trodAll_cons hA
  obtain ⟨v1, vs1, d1, ds1, p1, q1, rfl, rfl, rfl, h1, r1⟩ := trodAll_cons r0
  obtain ⟨rfl, rfl, rfl⟩ := trodAll_nil r1
  obtain rfl : args = #[v0, v1] := by cases args; simp_all
  obtain ⟨rfl, rfl⟩ := trodVars_none hV
  have k0 := h0
  have lt0 : ∀ x ∈ p0, x.block < W.heap.size := by obtain ⟨m, hm⟩ := k0; exact DataW.trod_lt m _ _ _ hm
  obtain ⟨x0, y0, z0, u0, hv0, wx0, wy0, wz0, wu0⟩ := open_plan (hval 0 23 v0 rfl rfl) h0
  subst hv0
  have k1 := h1
  have lt1 : ∀ x ∈ p1, x.block < W.heap.size := by obtain ⟨m, hm⟩ := k1; exact DataW.trod_lt m _ _ _ hm
  obtain ⟨A1, a10, a11, a12, a13, c10, c11, c12, c13, hv1, I1, m10, m11, m12, m13⟩ := open_arena (hval 1 28 v1 rfl rfl) h1
  subst hv1
  clear hA0 hval0
  refine (roomIn_walk x0 y0 z0 u0 wx0 wy0 wz0 wu0 A1 a10 a11 a12 a13 c10 c11 c12 c13 W I1 m10 m11 m12 m13).mono fun e W' ⟨he, bel⟩ => ?_
  subst he
  exact ⟨_, rfl, _, _, _, [], _, [], hW', trodAll_mk1 (shut_bool Try.underlying4 _), (trodAll_cons_mk (Below.trod laidOut (by kernel_rfl) (of_decide_eq_true (by kernel_rfl)) k0 bel lt0) (trodAll_cons_mk (Below.trod laidOut (by kernel_rfl) (of_decide_eq_true (by kernel_rfl)) k1 bel lt1) trodAll_mk0)), rfl, bel.frame _, fun h => by cases h⟩

/-- The given statement. -/
theorem roomIn_holds : Rows.FnExactRoomInSaid :=
  OpenClaim.holds_of_wide 3 Try.f3 rfl rfl rfl rfl rfl rfl rfl ⟨rfl, rfl, rfl, rfl, rfl⟩ rfl rfl rfl rfl rfl (by kernel_rfl) Try.func3 (by kernel_rfl)
    (of_decide_eq_true (by kernel_rfl)) (by unfold Func.isWrapper; first | (rw [if_pos (by decide +kernel)]; kernel_rfl) | (rw [if_neg (by decide +kernel)]; exact ⟨rfl, rfl⟩))
    (fun os started H enc _ => roomIn_lifted os started H enc)
#print axioms roomIn_holds

end Go.Proofs.Ytknncnaikeinbaa
