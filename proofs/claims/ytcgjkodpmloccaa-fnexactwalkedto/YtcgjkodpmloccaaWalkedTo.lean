/-
  WalkedTo answers as the document's model does: at every Plan, Arena and Hand and number the law of WalkedTo returns true and leaves its arguments as they were. No condition.
-/
import Derived.Test.YtcgjkodpmloccaaSame
import Derived.Test.YtcgjkodpmloccaaArgs
import Derived.Test.YtcgjkodpmloccaaHandArgs
import Derived.Test.YtcgjkodpmloccaaLawRows
import Derived.Test.YtcgjkodpmloccaaSpecWent
import Derived.Test.YtcgjkodpmloccaaImplWent
import Derived.Test.YtcgjkodpmloccaaTail3
import Derived.Test.YtcgjkodpmloccaaOnly
import Derived.Deep.Cut
namespace Go.Proofs.Ytcgjkodpmloccaa
open Go.ChangeShapes Go.WideShapes Go.ChangeAt Go.RowKit
set_option linter.unusedVariables false
attribute [local go_sem ↓] Go.wp_at_zero Go.wp_at_succ

/-- What each operation of the region leaves. -/
def walkedToG5 (lo : Nat) (x y z u : Int) (A : Ar) (h R : Hd) (bb : Bool) (n : Int) (q0 q1 q2 q3 : Nat) (a0 a1 a2 a3 : Option Addr) (c0 c1 c2 c3 : Nat) : Nat → Value → World → Prop
  | 0, v', _ => v' = .agg #[.int .i64 x, .int .i64 y, .int .i64 z, .int .i64 u]
  | 1, v', _ => v' = .agg #[.int .i64 x, .int .i64 y, .int .i64 z, .int .i64 u]
  | 2, v', _ => v' = .agg #[.int .i64 A.camera, .slice a0 A.slots.length c0, .slice a1 A.guides.length c1, .slice a2 A.nodes.length c2, .slice a3 A.vers.length c3]
  | 3, v', w => ∃ p0 p1 p2 p3, v' = .agg #[.int .i64 A.camera, .slice (some ⟨p0, 0, none⟩) A.slots.length A.slots.length, .slice (some ⟨p1, 0, none⟩) A.guides.length A.guides.length, .slice (some ⟨p2, 0, none⟩) A.nodes.length A.nodes.length, .slice (some ⟨p3, 0, none⟩) A.vers.length A.vers.length] ∧ ArenaIs w.heap.size w (.slice (some ⟨p0, 0, none⟩) A.slots.length A.slots.length) (.slice (some ⟨p1, 0, none⟩) A.guides.length A.guides.length) (.slice (some ⟨p2, 0, none⟩) A.nodes.length A.nodes.length) (.slice (some ⟨p3, 0, none⟩) A.vers.length A.vers.length) A
  | 4, v', _ => v' = .agg (hdC h).toArray
  | 5, v', _ => v' = .agg (hdC h).toArray
  | 6, v', _ => v' = .int .i64 n
  | 7, v', _ => v' = .tuple #[.agg (hdC R).toArray, .bool bb]
  | 8, v', _ => v' = .tuple #[.agg (hdC R).toArray, .bool bb]
  | 9, v', _ => v' = .agg (hdC R).toArray
  | 10, v', _ => v' = .bool bb
  | 11, v', w => ∃ b, v' = .pointer (some ⟨b, 0, none⟩) ∧ lo ≤ b ∧ b < w.heap.size ∧ w.there b 0 22
  | _, _, _ => True
theorem walkedToG5_kept {lo : Nat} {x y z u : Int} {A : Ar} {h R : Hd} {bb : Bool} {n : Int} {q0 q1 q2 q3 : Nat} {a0 a1 a2 a3 : Option Addr} {c0 c1 c2 c3 : Nat} (i : Nat) (v' : Value) (w w' : World) (hq : walkedToG5 lo x y z u A h R bb n q0 q1 q2 q3 a0 a1 a2 a3 c0 c1 c2 c3 i v' w) (hb : Below w.heap.size w w') : walkedToG5 lo x y z u A h R bb n q0 q1 q2 q3 a0 a1 a2 a3 c0 c1 c2 c3 i v' w' := by
  match i, hq with
  | 0, h | 1, h | 2, h | 4, h | 5, h | 6, h | 7, h | 8, h | 9, h | 10, h => exact h
  | 3, h =>
    obtain ⟨p0, p1, p2, p3, e, J⟩ := h
    exact ⟨p0, p1, p2, p3, e, (J.below hb).weaken hb.size⟩
  | 11, h =>
    obtain ⟨b, e, h1, h2, h3⟩ := h
    exact ⟨b, e, h1, Nat.lt_of_lt_of_le h2 hb.size, there_below h3 hb h2⟩
  | n + 12, h => exact trivial

/-- What each operation of the region leaves. -/
def walkedToG7 (lo : Nat) (x y z u : Int) (A : Ar) (h R : Hd) (bb : Bool) (n : Int) (q0 q1 q2 q3 : Nat) (a0 a1 a2 a3 : Option Addr) (c0 c1 c2 c3 : Nat) : Nat → Value → World → Prop
  | 0, v', _ => v' = .agg #[.int .i64 x, .int .i64 y, .int .i64 z, .int .i64 u]
  | 1, v', _ => v' = .agg #[.int .i64 x, .int .i64 y, .int .i64 z, .int .i64 u]
  | 2, v', _ => v' = .agg #[.int .i64 A.camera, .slice (some ⟨q0, 0, none⟩) A.slots.length A.slots.length, .slice (some ⟨q1, 0, none⟩) A.guides.length A.guides.length, .slice (some ⟨q2, 0, none⟩) A.nodes.length A.nodes.length, .slice (some ⟨q3, 0, none⟩) A.vers.length A.vers.length]
  | 3, v', _ => v' = .agg (hdC h).toArray
  | 4, v', _ => v' = .agg (hdC h).toArray
  | 5, v', _ => v' = .int .i64 n
  | 6, v', _ => v' = .tuple #[.agg (hdC R).toArray, .bool bb]
  | 7, v', _ => v' = .tuple #[.agg (hdC R).toArray, .bool bb]
  | 8, v', _ => v' = .agg (hdC R).toArray
  | 9, v', _ => v' = .bool bb
  | 10, v', w => ∃ b, v' = .pointer (some ⟨b, 0, none⟩) ∧ lo ≤ b ∧ b < w.heap.size ∧ w.there b 0 22
  | _, _, _ => True
theorem walkedToG7_kept {lo : Nat} {x y z u : Int} {A : Ar} {h R : Hd} {bb : Bool} {n : Int} {q0 q1 q2 q3 : Nat} {a0 a1 a2 a3 : Option Addr} {c0 c1 c2 c3 : Nat} (i : Nat) (v' : Value) (w w' : World) (hq : walkedToG7 lo x y z u A h R bb n q0 q1 q2 q3 a0 a1 a2 a3 c0 c1 c2 c3 i v' w) (hb : Below w.heap.size w w') : walkedToG7 lo x y z u A h R bb n q0 q1 q2 q3 a0 a1 a2 a3 c0 c1 c2 c3 i v' w' := by
  match i, hq with
  | 0, h | 1, h | 2, h | 3, h | 4, h | 5, h | 6, h | 7, h | 8, h | 9, h => exact h
  | 10, h =>
    obtain ⟨b, e, h1, h2, h3⟩ := h
    exact ⟨b, e, h1, Nat.lt_of_lt_of_le h2 hb.size, there_below h3 hb h2⟩
  | n + 11, h => exact trivial

set_option maxRecDepth 100000 in
set_option maxHeartbeats 8000000 in
theorem walkedTo_walk (x y z u : Int) (wx : (Lit.int .i64 x).wf = true) (wy : (Lit.int .i64 y).wf = true) (wz : (Lit.int .i64 z).wf = true) (wu : (Lit.int .i64 u).wf = true) (A : Ar) (a0 a1 a2 a3 : Option Addr) (c0 c1 c2 c3 : Nat) (h : Hd) (n : Int) (wn : (Lit.int .i64 n).wf = true) (w : World)
    (I : ArenaIs w.heap.size w (.slice a0 A.slots.length c0) (.slice a1 A.guides.length c1) (.slice a2 A.nodes.length c2) (.slice a3 A.vers.length c3) A) (m0 : A.slots.length ≤ maxLen) (m1 : A.guides.length ≤ maxLen) (m2 : A.nodes.length ≤ maxLen) (m3 : A.vers.length ≤ maxLen) :
    Calls Try.prog 6 #[.agg #[.int .i64 x, .int .i64 y, .int .i64 z, .int .i64 u], .agg #[.int .i64 A.camera, .slice a0 A.slots.length c0, .slice a1 A.guides.length c1, .slice a2 A.nodes.length c2, .slice a3 A.vers.length c3], .agg (hdC h).toArray, .int .i64 n] w fun e w' => e = .returned (.bool true) ∧ Below w.heap.size w w' := by
  unfold maxLen at m0 m1 m2 m3
  clear wx wy wz wu wn
  have P0 := World.rangeAt_alloc (World.rangeAt_alloc (rangeAt_new w [.int .i64 x, .int .i64 y, .int .i64 z, .int .i64 u] 23) (.cells #[.int .i64 A.camera, .slice a0 A.slots.length c0, .slice a1 A.guides.length c1, .slice a2 A.nodes.length c2, .slice a3 A.vers.length c3] 48)) (.cells (hdC h).toArray 36)
  have X0 := World.rangeAt_alloc (rangeAt_new (w.alloc (.cells #[.int .i64 x, .int .i64 y, .int .i64 z, .int .i64 u] 23)) [.int .i64 A.camera, .slice a0 A.slots.length c0, .slice a1 A.guides.length c1, .slice a2 A.nodes.length c2, .slice a3 A.vers.length c3] 48) (.cells (hdC h).toArray 36)
  have H0 := rangeAt_new ((w.alloc (.cells #[.int .i64 x, .int .i64 y, .int .i64 z, .int .i64 u] 23)).alloc (.cells #[.int .i64 A.camera, .slice a0 A.slots.length c0, .slice a1 A.guides.length c1, .slice a2 A.nodes.length c2, .slice a3 A.vers.length c3] 48)) (hdC h) 36
  have K0 := (((Below.refl w.heap.size w).alloc (Nat.le_refl _) (.cells #[.int .i64 x, .int .i64 y, .int .i64 z, .int .i64 u] 23)).alloc (by simp) (.cells #[.int .i64 A.camera, .slice a0 A.slots.length c0, .slice a1 A.guides.length c1, .slice a2 A.nodes.length c2, .slice a3 A.vers.length c3] 48)).alloc (by simp; omega) (.cells (hdC h).toArray 36)
  have hz0 : w.heap.size + 1 + 1 < (((w.alloc (.cells #[.int .i64 x, .int .i64 y, .int .i64 z, .int .i64 u] 23)).alloc (.cells #[.int .i64 A.camera, .slice a0 A.slots.length c0, .slice a1 A.guides.length c1, .slice a2 A.nodes.length c2, .slice a3 A.vers.length c3] 48)).alloc (.cells (hdC h).toArray 36)).heap.size := by simp
  simp only [World.size_alloc] at X0 H0
  by_cases hA : A.size ≤ 1048576
  case neg =>
    unfold Ar.size at hA
    go_enter Try.func6, Try.ntmps6
    go_wp2_with fail
    refine (szArena_not _ _ _ _ _ _ _ _ _ _ _ _ _ _ (by omega) (by omega) (by omega) (by omega) (by omega)).mono ?_
    rintro e w1 ⟨rfl, b1⟩
    go_wp2
    go_ret
    exact ⟨rfl, K0.trans (b1.mono (by omega))⟩
  have hA' : A.slots.length + A.guides.length + A.nodes.length + A.vers.length ≤ 1048576 := hA
  go_enter Try.func6, Try.ntmps6
  go_wp2_with fail
  refine (szArena_fit _ _ _ _ _ _ _ _ _ _ _ _ _ _ hA').mono ?_
  rintro e w1 ⟨rfl, b1⟩
  have P1 := rangeAt_below P0 b1 (by omega)
  have X1 := rangeAt_below X0 b1 (by omega)
  have H1 := rangeAt_below H0 b1 (by omega)
  have K1 := K0.trans (b1.mono (by omega))
  have I1 := I.below K1
  have hz1 : w.heap.size + 1 + 1 < w1.heap.size := Nat.lt_of_lt_of_le hz0 b1.size
  clear P0 X0 H0 K0 I b1 hz0
  obtain ⟨bb, hBB⟩ : ∃ bb, Hid (walkedToB x y z u A h n = bb) := ⟨_, rfl⟩
  obtain ⟨R, hR⟩ : ∃ R, Hid (walkedToH x y z u A h n = R) := ⟨_, rfl⟩
  go_wp2_with fail
  refine any_order_floatT 12 10 (by decide) (by kernel_rfl) (walkedToG5 w1.heap.size x y z u A h R bb n 0 0 0 0 a0 a1 a2 a3 c0 c1 c2 c3) (fun _ => false) (by kernel_rfl) (by kernel_rfl) (by kernel_rfl) (by kernel_rfl) (by kernel_rfl) (by rfl) (fun i v' w w' _ hq hb => walkedToG5_kept i v' w w' hq hb) (fun _ _ _ _ h => by cases h) ?step5 (fun _ _ _ _ h => h) ?float5 ?final5
  case float5 =>
    intro o ho a V hd
    obtain rfl := Option.some.inj ho
    have e1 : a.eval (.tmp 20) = .tuple #[.agg (hdC R).toArray, .bool bb] := hd ⟨8, .data⟩ (by simp) rfl 20 rfl
    refine ⟨.bool bb, fun w' => ?_, rfl, rfl⟩
    generalize a.eval = ev at *
    go_simp
  case step5 =>
    intro i o hik ho a V hb hn hd K hK
    have PW := rangeAt_below P1 hb (by omega)
    have XW := rangeAt_below X1 hb (by omega)
    have HW := rangeAt_below H1 hb (by omega)
    obtain ⟨x0', x1', x2', x3', x4'⟩ := row5 XW
    match i, ho with
    | 0, ho =>
      obtain rfl := Option.some.inj ho
      exact step_load 23 (.tmp 4) rfl (w.heap.size) 0 (hn 4 rfl) [.int .i64 x, .int .i64 y, .int .i64 z, .int .i64 u] _ PW Try.underlying23 rfl sizeLPlan (hK _ _ rfl (Below.refl _ _) (fun h => by cases h))
    | 1, ho =>
      obtain rfl := Option.some.inj ho
      have e1 : a.eval (.tmp 21) = .agg #[.int .i64 x, .int .i64 y, .int .i64 z, .int .i64 u] := hd ⟨0, .data⟩ (by simp) rfl 21 rfl
      have ef : a.eval (.func 10) = .func (.func 10) #[] #[] := rfl
      refine step_call (f := 10) (args := #[.agg #[.int .i64 x, .int .i64 y, .int .i64 z, .int .i64 u]]) (R := fun v w' => v = .agg #[.int .i64 x, .int .i64 y, .int .i64 z, .int .i64 u] ∧ Below V.heap.size V w') ?_ ((toPlan_any _ _ _ _ _).mono (fun e w' h => ⟨_, h.1, rfl, h.2⟩)) (fun v w' h => hK v w' h.1 h.2 (fun h => by cases h))
      generalize a.eval = ev at *
      go_simp
    | 2, ho =>
      obtain rfl := Option.some.inj ho
      have e1 : a.eval (.tmp 5) = .pointer (some ⟨w.heap.size + 1, 0, none⟩) := hn 5 rfl
      refine step_value (v := .agg #[.int .i64 A.camera, .slice a0 A.slots.length c0, .slice a1 A.guides.length c1, .slice a2 A.nodes.length c2, .slice a3 A.vers.length c3]) (w' := V) ?_ (hK _ _ rfl (Below.refl _ _) (fun h => by cases h))
      generalize a.eval = ev at *
      go_simp
    | 3, ho =>
      obtain rfl := Option.some.inj ho
      have e1 : a.eval (.tmp 23) = .agg #[.int .i64 A.camera, .slice a0 A.slots.length c0, .slice a1 A.guides.length c1, .slice a2 A.nodes.length c2, .slice a3 A.vers.length c3] := hd ⟨2, .data⟩ (by simp) rfl 23 rfl
      have ef : a.eval (.func 23) = .func (.func 23) #[] #[] := rfl
      refine step_call (f := 23) (args := #[.agg #[.int .i64 A.camera, .slice a0 A.slots.length c0, .slice a1 A.guides.length c1, .slice a2 A.nodes.length c2, .slice a3 A.vers.length c3]]) (R := fun v w' => (∃ p0 p1 p2 p3, v = .agg #[.int .i64 A.camera, .slice (some ⟨p0, 0, none⟩) A.slots.length A.slots.length, .slice (some ⟨p1, 0, none⟩) A.guides.length A.guides.length, .slice (some ⟨p2, 0, none⟩) A.nodes.length A.nodes.length, .slice (some ⟨p3, 0, none⟩) A.vers.length A.vers.length] ∧ ArenaIs w'.heap.size w' (.slice (some ⟨p0, 0, none⟩) A.slots.length A.slots.length) (.slice (some ⟨p1, 0, none⟩) A.guides.length A.guides.length) (.slice (some ⟨p2, 0, none⟩) A.nodes.length A.nodes.length) (.slice (some ⟨p3, 0, none⟩) A.vers.length A.vers.length) A) ∧ Below V.heap.size V w') ?_ ((toArena_at hb (by omega) hA I1).mono (fun e w' h => by obtain ⟨p0, p1, p2, p3, e1, J, bJ⟩ := h; exact ⟨_, e1, ⟨p0, p1, p2, p3, rfl, J⟩, bJ⟩)) (fun v w' h => hK v w' h.1 h.2 (fun h => by cases h))
      generalize a.eval = ev at *
      go_simp
    | 4, ho =>
      obtain rfl := Option.some.inj ho
      exact step_load 36 (.tmp 6) rfl (w.heap.size + 1 + 1) 0 (hn 6 rfl) (hdC h) _ HW Try.underlying36 rfl (sizeLHand h) (hK _ _ rfl (Below.refl _ _) (fun h => by cases h))
    | 5, ho =>
      obtain rfl := Option.some.inj ho
      have e1 : a.eval (.tmp 25) = .agg (hdC h).toArray := hd ⟨4, .data⟩ (by simp) rfl 25 rfl
      have ef : a.eval (.func 16) = .func (.func 16) #[] #[] := rfl
      refine step_call (f := 16) (args := #[.agg (hdC h).toArray]) (R := fun v w' => v = .agg (hdC h).toArray ∧ Below V.heap.size V w') ?_ ((toHand_any h _).mono (fun e w' h => ⟨_, h.1, rfl, h.2⟩)) (fun v w' h => hK v w' h.1 h.2 (fun h => by cases h))
      generalize a.eval = ev at *
      go_simp
    | 6, ho =>
      obtain rfl := Option.some.inj ho
      have e1 : a.eval (.tmp 3) = .int .i64 n := hn 3 rfl
      refine step_value (v := .int .i64 n) (w' := V) ?_ (hK _ _ rfl (Below.refl _ _) (fun h => by cases h))
      generalize a.eval = ev at *
      go_simp
    | 7, ho =>
      obtain rfl := Option.some.inj ho
      have e0 : a.eval (.tmp 22) = .agg #[.int .i64 x, .int .i64 y, .int .i64 z, .int .i64 u] := hd ⟨1, .data⟩ (by simp) rfl 22 rfl
      obtain ⟨p0, p1, p2, p3, eA, J⟩ := (show ∃ p0 p1 p2 p3, a.eval (.tmp 24) = .agg #[.int .i64 A.camera, .slice (some ⟨p0, 0, none⟩) A.slots.length A.slots.length, .slice (some ⟨p1, 0, none⟩) A.guides.length A.guides.length, .slice (some ⟨p2, 0, none⟩) A.nodes.length A.nodes.length, .slice (some ⟨p3, 0, none⟩) A.vers.length A.vers.length] ∧ ArenaIs V.heap.size V (.slice (some ⟨p0, 0, none⟩) A.slots.length A.slots.length) (.slice (some ⟨p1, 0, none⟩) A.guides.length A.guides.length) (.slice (some ⟨p2, 0, none⟩) A.nodes.length A.nodes.length) (.slice (some ⟨p3, 0, none⟩) A.vers.length A.vers.length) A from hd ⟨3, .data⟩ (by simp) rfl 24 rfl)
      have e2 : a.eval (.tmp 26) = .agg (hdC h).toArray := hd ⟨5, .data⟩ (by simp) rfl 26 rfl
      have e3 : a.eval (.tmp 27) = .int .i64 n := hd ⟨6, .data⟩ (by simp) rfl 27 rfl
      have ef : a.eval (.func 22) = .func (.func 22) #[] #[] := rfl
      refine step_call (f := 22) (args := #[.agg #[.int .i64 x, .int .i64 y, .int .i64 z, .int .i64 u], .agg #[.int .i64 A.camera, .slice (some ⟨p0, 0, none⟩) A.slots.length A.slots.length, .slice (some ⟨p1, 0, none⟩) A.guides.length A.guides.length, .slice (some ⟨p2, 0, none⟩) A.nodes.length A.nodes.length, .slice (some ⟨p3, 0, none⟩) A.vers.length A.vers.length], .agg (hdC h).toArray, .int .i64 n]) (R := fun v w' => v = .tuple #[.agg (hdC R).toArray, .bool bb] ∧ Below V.heap.size V w') ?_ ((specWalkedTo_any _ A x y z u h n _ _ _ _ _ _ _ _ _ (Nat.le_refl _) hA J).mono (fun e w' h => ⟨_, h.1, by rw [hR.out, hBB.out], h.2⟩)) (fun v w' h => hK v w' h.1 h.2 (fun h => by cases h))
      generalize a.eval = ev at *
      go_simp
    | 8, ho =>
      obtain rfl := Option.some.inj ho
      have e1 : a.eval (.tmp 28) = .tuple #[.agg (hdC R).toArray, .bool bb] := hd ⟨7, .data⟩ (by simp) rfl 28 rfl
      refine step_value (v := .tuple #[.agg (hdC R).toArray, .bool bb]) (w' := V) ?_ (hK _ _ rfl (Below.refl _ _) (fun h => by cases h))
      generalize a.eval = ev at *
      go_simp
    | 9, ho =>
      obtain rfl := Option.some.inj ho
      have e1 : a.eval (.tmp 20) = .tuple #[.agg (hdC R).toArray, .bool bb] := hd ⟨8, .data⟩ (by simp) rfl 20 rfl
      refine step_value (v := .agg (hdC R).toArray) (w' := V) ?_ (hK _ _ rfl (Below.refl _ _) (fun h => by cases h))
      generalize a.eval = ev at *
      go_simp
    | 10, ho =>
      obtain rfl := Option.some.inj ho
      have e1 : a.eval (.tmp 20) = .tuple #[.agg (hdC R).toArray, .bool bb] := hd ⟨8, .data⟩ (by simp) rfl 20 rfl
      refine step_value (v := .bool bb) (w' := V) ?_ (hK _ _ rfl (Below.refl _ _) (fun h => by cases h))
      generalize a.eval = ev at *
      go_simp
    | 11, ho =>
      obtain rfl := Option.some.inj ho
      refine step_value (v := .pointer (some ⟨V.heap.size, 0, none⟩)) (w' := V.alloc (.cells #[.int .i64 0, .int .i64 0, .int .i64 0, .int .i64 0, .int .i64 0, .int .i64 0, .int .i64 0, .int .i64 0, .int .i64 0, .int .i64 0, .int .i64 0, .int .i64 0, .int .i64 0, .int .i64 0, .int .i64 0, .int .i64 0, .int .i64 0, .int .i64 0, .int .i64 0, .int .i64 0, .int .i64 0, .int .i64 0] 38)) ?_ (hK _ _ ⟨V.heap.size, rfl, hb.size, by simp, there_new V #[.int .i64 0, .int .i64 0, .int .i64 0, .int .i64 0, .int .i64 0, .int .i64 0, .int .i64 0, .int .i64 0, .int .i64 0, .int .i64 0, .int .i64 0, .int .i64 0, .int .i64 0, .int .i64 0, .int .i64 0, .int .i64 0, .int .i64 0, .int .i64 0, .int .i64 0, .int .i64 0, .int .i64 0, .int .i64 0] 38 22 (by decide)⟩ ((Below.refl _ _).alloc (Nat.le_refl _) _) (fun h => by cases h))
      generalize a.eval = ev at *
      go_simp
    | n + 12, ho => omega
  case final5 =>
    intro vs5 V5 hb hG _
    have g0 : vs5 9 = .agg (hdC R).toArray := hG 9 (by decide)
    have g1 : vs5 10 = .bool bb := hG 10 (by decide)
    obtain ⟨b5, g2, lb5, ub5, T5⟩ := (show ∃ b, vs5 11 = .pointer (some ⟨b, 0, none⟩) ∧ w1.heap.size ≤ b ∧ b < V5.heap.size ∧ V5.there b 0 22 from hG 11 (by decide))
    generalize hl : laid _ vs5 _ _ _ = A'
    have hA'' : A' = { tmps := #[.agg #[.int .i64 x, .int .i64 y, .int .i64 z, .int .i64 u], .agg #[.int .i64 A.camera, .slice a0 A.slots.length c0, .slice a1 A.guides.length c1, .slice a2 A.nodes.length c2, .slice a3 A.vers.length c3], .agg (hdC h).toArray, .int .i64 n, .pointer (some ⟨w.heap.size, 0, none⟩), .pointer (some ⟨w.heap.size + 1, 0, none⟩), .pointer (some ⟨w.heap.size + 1 + 1, 0, none⟩), undef, .bool false, .int .i64 (1048576 - (A.slots.length : Int) - (A.guides.length : Int) - (A.nodes.length : Int) - (A.vers.length : Int)), vs5 11, undef, undef, undef, undef, .agg #[.int .i64 A.camera, .slice a0 A.slots.length c0, .slice a1 A.guides.length c1, .slice a2 A.nodes.length c2, .slice a3 A.vers.length c3], .int .i64 1048576, .int .i64 (1048576 - (A.slots.length : Int) - (A.guides.length : Int) - (A.nodes.length : Int) - (A.vers.length : Int)), .int .i64 (1048576 - (A.slots.length : Int) - (A.guides.length : Int) - (A.nodes.length : Int) - (A.vers.length : Int)), .bool (decide ((1048576 - (A.slots.length : Int) - (A.guides.length : Int) - (A.nodes.length : Int) - (A.vers.length : Int)) < 0)), vs5 8, vs5 0, vs5 1, vs5 2, vs5 3, vs5 4, vs5 5, vs5 6, vs5 7, vs5 9, vs5 10, undef, undef, undef, undef, undef, undef, undef, undef, undef, undef, undef, undef, undef, undef, undef, undef, undef, undef, undef, undef, undef, undef, undef, undef, undef, undef], defers := [] } := by
      rw [← hl]
      kernel_rfl
    subst hA''
    rw [g0, g1, g2]
    clear hl hG g0 g1 g2
    have Hb5 := hb.trans ((only_setCells b5 (hdC R) 0 V5).below lb5 hb.size)
    have Y5 : (V5.setCells b5 0 (hdC R)).rangeAt b5 0 (hdC R) := World.rangeAt_setCells_same V5 b5 0 (hdC R) T5
    have hy5 : b5 < (V5.setCells b5 0 (hdC R)).heap.size := Nat.lt_of_lt_of_le ub5 (only_setCells b5 (hdC R) 0 V5).size
    simp only [List.drop_succ_cons, List.drop_zero]
    refine wpList_store_mid rfl 38 (.tmp 10) (.tmp 29) rfl b5 0 (hdC R).toArray ?sx5 ?sy5 ?st5 (sizeHand R) (oneHand R) ?_
    case sx5 => rfl
    case sy5 => rfl
    case st5 => exact T5
    rw [List.toList_toArray]
    go_upto_region 6 with fail
    clear hb T5 ub5
    generalize V5.setCells b5 0 (hdC R) = w2 at *
    have P2 := rangeAt_below P1 Hb5 (by omega)
    have X2 := rangeAt_below X1 Hb5 (by omega)
    have H2 := rangeAt_below H1 Hb5 (by omega)
    have K2 := K1.trans (Hb5.mono (by omega))
    have I2 := I1.below (Hb5.mono (by omega))
    have hz2 : w.heap.size + 1 + 1 < w2.heap.size := Nat.lt_of_lt_of_le hz1 Hb5.size
    clear P1 X1 H1 K1 I1 
    obtain ⟨x0', x1', x2', x3', x4'⟩ := row5 X2
    go_wp2_with fail
    refine (toArena_at (Below.refl w2.heap.size w2) (by omega) hA I2).mono ?_
    rintro e w4 ⟨q0, q1, q2, q3, rfl, J4, b4⟩
    have P4 := rangeAt_below P2 b4 (by omega)
    have X4 := rangeAt_below X2 b4 (by omega)
    have H4 := rangeAt_below H2 b4 (by omega)
    have Y4 := rangeAt_below Y5 b4 (by omega)
    have K4 := K2.trans (b4.mono (by omega))
    have I4 := I2.below (b4.mono (by omega))
    have hz4 : w.heap.size + 1 + 1 < w4.heap.size := Nat.lt_of_lt_of_le hz2 b4.size
    have hy4 : b5 < w4.heap.size := Nat.lt_of_lt_of_le hy5 b4.size
    clear P2 X2 H2 K2 I2 hz2 b4 x0' x1' x2' x3' x4' Y5 hy5
    have al := (Below.refl w4.heap.size w4).alloc (Nat.le_refl _) (.cells #[.int .i64 A.camera, .slice (some ⟨q0, 0, none⟩) A.slots.length A.slots.length, .slice (some ⟨q1, 0, none⟩) A.guides.length A.guides.length, .slice (some ⟨q2, 0, none⟩) A.nodes.length A.nodes.length, .slice (some ⟨q3, 0, none⟩) A.vers.length A.vers.length] 28)
    have P6 := rangeAt_below P4 al (by omega)
    have X6 := rangeAt_below X4 al (by omega)
    have H6 := rangeAt_below H4 al (by omega)
    have Y6 := rangeAt_below Y4 al (by omega)
    have Z6 := rangeAt_new w4 [.int .i64 A.camera, .slice (some ⟨q0, 0, none⟩) A.slots.length A.slots.length, .slice (some ⟨q1, 0, none⟩) A.guides.length A.guides.length, .slice (some ⟨q2, 0, none⟩) A.nodes.length A.nodes.length, .slice (some ⟨q3, 0, none⟩) A.vers.length A.vers.length] 28
    have K6 := K4.trans (al.mono (by omega))
    have I6 := I4.below (al.mono (by omega))
    have J5 := (J4.below al).weaken al.size
    have hz6 : w.heap.size + 1 + 1 < (w4.alloc (.cells #[.int .i64 A.camera, .slice (some ⟨q0, 0, none⟩) A.slots.length A.slots.length, .slice (some ⟨q1, 0, none⟩) A.guides.length A.guides.length, .slice (some ⟨q2, 0, none⟩) A.nodes.length A.nodes.length, .slice (some ⟨q3, 0, none⟩) A.vers.length A.vers.length] 28)).heap.size := Nat.lt_of_lt_of_le hz4 al.size
    have hy6 : b5 < (w4.alloc (.cells #[.int .i64 A.camera, .slice (some ⟨q0, 0, none⟩) A.slots.length A.slots.length, .slice (some ⟨q1, 0, none⟩) A.guides.length A.guides.length, .slice (some ⟨q2, 0, none⟩) A.nodes.length A.nodes.length, .slice (some ⟨q3, 0, none⟩) A.vers.length A.vers.length] 28)).heap.size := Nat.lt_of_lt_of_le hy4 al.size
    have hx6 : w4.heap.size < (w4.alloc (.cells #[.int .i64 A.camera, .slice (some ⟨q0, 0, none⟩) A.slots.length A.slots.length, .slice (some ⟨q1, 0, none⟩) A.guides.length A.guides.length, .slice (some ⟨q2, 0, none⟩) A.nodes.length A.nodes.length, .slice (some ⟨q3, 0, none⟩) A.vers.length A.vers.length] 28)).heap.size := by simp
    clear P4 X4 H4 Y4 K4 I4 J4 al
    go_upto_region 7 with fail
    generalize hw6 : w4.alloc (.cells #[.int .i64 A.camera, .slice (some ⟨q0, 0, none⟩) A.slots.length A.slots.length, .slice (some ⟨q1, 0, none⟩) A.guides.length A.guides.length, .slice (some ⟨q2, 0, none⟩) A.nodes.length A.nodes.length, .slice (some ⟨q3, 0, none⟩) A.vers.length A.vers.length] 28) = w6 at *
    clear hw6
    obtain ⟨xb, hxb⟩ : ∃ xb, xb = w4.heap.size := ⟨_, rfl⟩
    rw [← hxb] at Z6 hx6 ⊢
    clear hxb hz4 hy4
    refine any_order_floatT 11 9 (by decide) (by kernel_rfl) (walkedToG7 w6.heap.size x y z u A h R bb n q0 q1 q2 q3 a0 a1 a2 a3 c0 c1 c2 c3) (fun _ => false) (by kernel_rfl) (by kernel_rfl) (by kernel_rfl) (by kernel_rfl) (by kernel_rfl) (by rfl) (fun i v' w w' _ hq hb => walkedToG7_kept i v' w w' hq hb) (fun _ _ _ _ h => by cases h) ?step7 (fun _ _ _ _ h => h) ?float7 ?final7
    case float7 =>
      intro o ho a V hd
      obtain rfl := Option.some.inj ho
      have e1 : a.eval (.tmp 33) = .tuple #[.agg (hdC R).toArray, .bool bb] := hd ⟨7, .data⟩ (by simp) rfl 33 rfl
      refine ⟨.bool bb, fun w' => ?_, rfl, rfl⟩
      generalize a.eval = ev at *
      go_simp
    case step7 =>
      intro i o hik ho a V hb hn hd K hK
      have PW := rangeAt_below P6 hb (by omega)
      have XW := rangeAt_below X6 hb (by omega)
      have HW := rangeAt_below H6 hb (by omega)
      have YW := rangeAt_below Z6 hb (by omega)
      obtain ⟨y0', y1', y2', y3', y4'⟩ := row5 YW
      obtain ⟨x0', x1', x2', x3', x4'⟩ := row5 XW
      match i, ho with
      | 0, ho =>
        obtain rfl := Option.some.inj ho
        exact step_load 23 (.tmp 4) rfl (w.heap.size) 0 (hn 4 rfl) [.int .i64 x, .int .i64 y, .int .i64 z, .int .i64 u] _ PW Try.underlying23 rfl sizeLPlan (hK _ _ rfl (Below.refl _ _) (fun h => by cases h))
      | 1, ho =>
        obtain rfl := Option.some.inj ho
        have e1 : a.eval (.tmp 34) = .agg #[.int .i64 x, .int .i64 y, .int .i64 z, .int .i64 u] := hd ⟨0, .data⟩ (by simp) rfl 34 rfl
        have ef : a.eval (.func 10) = .func (.func 10) #[] #[] := rfl
        refine step_call (f := 10) (args := #[.agg #[.int .i64 x, .int .i64 y, .int .i64 z, .int .i64 u]]) (R := fun v w' => v = .agg #[.int .i64 x, .int .i64 y, .int .i64 z, .int .i64 u] ∧ Below V.heap.size V w') ?_ ((toPlan_any _ _ _ _ _).mono (fun e w' h => ⟨_, h.1, rfl, h.2⟩)) (fun v w' h => hK v w' h.1 h.2 (fun h => by cases h))
        generalize a.eval = ev at *
        go_simp
      | 2, ho =>
        obtain rfl := Option.some.inj ho
        have e1 : a.eval (.tmp 12) = .pointer (some ⟨xb, 0, none⟩) := hn 12 rfl
        refine step_value (v := .agg #[.int .i64 A.camera, .slice (some ⟨q0, 0, none⟩) A.slots.length A.slots.length, .slice (some ⟨q1, 0, none⟩) A.guides.length A.guides.length, .slice (some ⟨q2, 0, none⟩) A.nodes.length A.nodes.length, .slice (some ⟨q3, 0, none⟩) A.vers.length A.vers.length]) (w' := V) ?_ (hK _ _ rfl (Below.refl _ _) (fun h => by cases h))
        generalize a.eval = ev at *
        go_simp
      | 3, ho =>
        obtain rfl := Option.some.inj ho
        exact step_load 36 (.tmp 6) rfl (w.heap.size + 1 + 1) 0 (hn 6 rfl) (hdC h) _ HW Try.underlying36 rfl (sizeLHand h) (hK _ _ rfl (Below.refl _ _) (fun h => by cases h))
      | 4, ho =>
        obtain rfl := Option.some.inj ho
        have e1 : a.eval (.tmp 37) = .agg (hdC h).toArray := hd ⟨3, .data⟩ (by simp) rfl 37 rfl
        have ef : a.eval (.func 16) = .func (.func 16) #[] #[] := rfl
        refine step_call (f := 16) (args := #[.agg (hdC h).toArray]) (R := fun v w' => v = .agg (hdC h).toArray ∧ Below V.heap.size V w') ?_ ((toHand_any h _).mono (fun e w' h => ⟨_, h.1, rfl, h.2⟩)) (fun v w' h => hK v w' h.1 h.2 (fun h => by cases h))
        generalize a.eval = ev at *
        go_simp
      | 5, ho =>
        obtain rfl := Option.some.inj ho
        have e1 : a.eval (.tmp 3) = .int .i64 n := hn 3 rfl
        refine step_value (v := .int .i64 n) (w' := V) ?_ (hK _ _ rfl (Below.refl _ _) (fun h => by cases h))
        generalize a.eval = ev at *
        go_simp
      | 6, ho =>
        obtain rfl := Option.some.inj ho
        have e0 : a.eval (.tmp 35) = .agg #[.int .i64 x, .int .i64 y, .int .i64 z, .int .i64 u] := hd ⟨1, .data⟩ (by simp) rfl 35 rfl
        have eA : a.eval (.tmp 36) = .agg #[.int .i64 A.camera, .slice (some ⟨q0, 0, none⟩) A.slots.length A.slots.length, .slice (some ⟨q1, 0, none⟩) A.guides.length A.guides.length, .slice (some ⟨q2, 0, none⟩) A.nodes.length A.nodes.length, .slice (some ⟨q3, 0, none⟩) A.vers.length A.vers.length] := hd ⟨2, .data⟩ (by simp) rfl 36 rfl
        have J := (J5.below hb).weaken hb.size
        have e2 : a.eval (.tmp 38) = .agg (hdC h).toArray := hd ⟨4, .data⟩ (by simp) rfl 38 rfl
        have e3 : a.eval (.tmp 39) = .int .i64 n := hd ⟨5, .data⟩ (by simp) rfl 39 rfl
        have ef : a.eval (.func 24) = .func (.func 24) #[] #[] := rfl
        refine step_call (f := 24) (args := #[.agg #[.int .i64 x, .int .i64 y, .int .i64 z, .int .i64 u], .agg #[.int .i64 A.camera, .slice (some ⟨q0, 0, none⟩) A.slots.length A.slots.length, .slice (some ⟨q1, 0, none⟩) A.guides.length A.guides.length, .slice (some ⟨q2, 0, none⟩) A.nodes.length A.nodes.length, .slice (some ⟨q3, 0, none⟩) A.vers.length A.vers.length], .agg (hdC h).toArray, .int .i64 n]) (R := fun v w' => v = .tuple #[.agg (hdC R).toArray, .bool bb] ∧ Below V.heap.size V w') ?_ ((walkedTo_any _ A x y z u h n _ _ _ _ _ _ _ _ _ (Nat.le_refl _) hA J).mono (fun e w' h => ⟨_, h.1, by rw [hR.out, hBB.out], h.2⟩)) (fun v w' h => hK v w' h.1 h.2 (fun h => by cases h))
        generalize a.eval = ev at *
        go_simp
      | 7, ho =>
        obtain rfl := Option.some.inj ho
        have e1 : a.eval (.tmp 40) = .tuple #[.agg (hdC R).toArray, .bool bb] := hd ⟨6, .data⟩ (by simp) rfl 40 rfl
        refine step_value (v := .tuple #[.agg (hdC R).toArray, .bool bb]) (w' := V) ?_ (hK _ _ rfl (Below.refl _ _) (fun h => by cases h))
        generalize a.eval = ev at *
        go_simp
      | 8, ho =>
        obtain rfl := Option.some.inj ho
        have e1 : a.eval (.tmp 33) = .tuple #[.agg (hdC R).toArray, .bool bb] := hd ⟨7, .data⟩ (by simp) rfl 33 rfl
        refine step_value (v := .agg (hdC R).toArray) (w' := V) ?_ (hK _ _ rfl (Below.refl _ _) (fun h => by cases h))
        generalize a.eval = ev at *
        go_simp
      | 9, ho =>
        obtain rfl := Option.some.inj ho
        have e1 : a.eval (.tmp 33) = .tuple #[.agg (hdC R).toArray, .bool bb] := hd ⟨7, .data⟩ (by simp) rfl 33 rfl
        refine step_value (v := .bool bb) (w' := V) ?_ (hK _ _ rfl (Below.refl _ _) (fun h => by cases h))
        generalize a.eval = ev at *
        go_simp
      | 10, ho =>
        obtain rfl := Option.some.inj ho
        refine step_value (v := .pointer (some ⟨V.heap.size, 0, none⟩)) (w' := V.alloc (.cells #[.int .i64 0, .int .i64 0, .int .i64 0, .int .i64 0, .int .i64 0, .int .i64 0, .int .i64 0, .int .i64 0, .int .i64 0, .int .i64 0, .int .i64 0, .int .i64 0, .int .i64 0, .int .i64 0, .int .i64 0, .int .i64 0, .int .i64 0, .int .i64 0, .int .i64 0, .int .i64 0, .int .i64 0, .int .i64 0] 38)) ?_ (hK _ _ ⟨V.heap.size, rfl, hb.size, by simp, there_new V #[.int .i64 0, .int .i64 0, .int .i64 0, .int .i64 0, .int .i64 0, .int .i64 0, .int .i64 0, .int .i64 0, .int .i64 0, .int .i64 0, .int .i64 0, .int .i64 0, .int .i64 0, .int .i64 0, .int .i64 0, .int .i64 0, .int .i64 0, .int .i64 0, .int .i64 0, .int .i64 0, .int .i64 0, .int .i64 0] 38 22 (by decide)⟩ ((Below.refl _ _).alloc (Nat.le_refl _) _) (fun h => by cases h))
        generalize a.eval = ev at *
        go_simp
      | n + 11, ho => omega
    case final7 =>
      intro vs7 V7 hb hG _
      have g0 : vs7 8 = .agg (hdC R).toArray := hG 8 (by decide)
      have g1 : vs7 9 = .bool bb := hG 9 (by decide)
      obtain ⟨b7, g2, lb7, ub7, T7⟩ := (show ∃ b, vs7 10 = .pointer (some ⟨b, 0, none⟩) ∧ w6.heap.size ≤ b ∧ b < V7.heap.size ∧ V7.there b 0 22 from hG 10 (by decide))
      generalize hl : laid _ vs7 _ _ _ = A'
      have hA'' : A' = { tmps := #[.agg #[.int .i64 x, .int .i64 y, .int .i64 z, .int .i64 u], .agg #[.int .i64 A.camera, .slice a0 A.slots.length c0, .slice a1 A.guides.length c1, .slice a2 A.nodes.length c2, .slice a3 A.vers.length c3], .agg (hdC h).toArray, .int .i64 n, .pointer (some ⟨w.heap.size, 0, none⟩), .pointer (some ⟨w.heap.size + 1, 0, none⟩), .pointer (some ⟨w.heap.size + 1 + 1, 0, none⟩), undef, .bool false, .int .i64 (1048576 - (A.slots.length : Int) - (A.guides.length : Int) - (A.nodes.length : Int) - (A.vers.length : Int)), .pointer (some ⟨b5, 0, none⟩), .bool bb, .pointer (some ⟨xb, 0, none⟩), vs7 10, undef, .agg #[.int .i64 A.camera, .slice a0 A.slots.length c0, .slice a1 A.guides.length c1, .slice a2 A.nodes.length c2, .slice a3 A.vers.length c3], .int .i64 1048576, .int .i64 (1048576 - (A.slots.length : Int) - (A.guides.length : Int) - (A.nodes.length : Int) - (A.vers.length : Int)), .int .i64 (1048576 - (A.slots.length : Int) - (A.guides.length : Int) - (A.nodes.length : Int) - (A.vers.length : Int)), .bool (decide ((1048576 - (A.slots.length : Int) - (A.guides.length : Int) - (A.nodes.length : Int) - (A.vers.length : Int)) < 0)), vs5 8, vs5 0, vs5 1, vs5 2, vs5 3, vs5 4, vs5 5, vs5 6, vs5 7, .agg (hdC R).toArray, .bool bb, .agg #[.int .i64 A.camera, .slice a0 A.slots.length c0, .slice a1 A.guides.length c1, .slice a2 A.nodes.length c2, .slice a3 A.vers.length c3], .agg #[.int .i64 A.camera, .slice (some ⟨q0, 0, none⟩) A.slots.length A.slots.length, .slice (some ⟨q1, 0, none⟩) A.guides.length A.guides.length, .slice (some ⟨q2, 0, none⟩) A.nodes.length A.nodes.length, .slice (some ⟨q3, 0, none⟩) A.vers.length A.vers.length], vs7 7, vs7 0, vs7 1, vs7 2, vs7 3, vs7 4, vs7 5, vs7 6, vs7 8, vs7 9, undef, undef, undef, undef, undef, undef, undef, undef, undef, undef, undef, undef, undef, undef], defers := [] } := by
        rw [← hl]
        kernel_rfl
      subst hA''
      rw [g0, g1, g2]
      clear hl hG g0 g1 g2
      have Hb7 := hb.trans ((only_setCells b7 (hdC R) 0 V7).below lb7 hb.size)
      have Y7 : (V7.setCells b7 0 (hdC R)).rangeAt b7 0 (hdC R) := World.rangeAt_setCells_same V7 b7 0 (hdC R) T7
      have hy7 : b7 < (V7.setCells b7 0 (hdC R)).heap.size := Nat.lt_of_lt_of_le ub7 (only_setCells b7 (hdC R) 0 V7).size
      simp only [List.drop_succ_cons, List.drop_zero]
      refine wpList_store_mid rfl 38 (.tmp 13) (.tmp 41) rfl b7 0 (hdC R).toArray ?sx7 ?sy7 ?st7 (sizeHand R) (oneHand R) ?_
      case sx7 => rfl
      case sy7 => rfl
      case st7 => exact T7
      rw [List.toList_toArray]
      go_upto_region 8 with fail
      clear hb T7 ub7
      generalize V7.setCells b7 0 (hdC R) = w8 at *
      have X8 := rangeAt_below X6 Hb7 (by omega)
      have Y8 := rangeAt_below Y6 Hb7 (by omega)
      have Z8 := rangeAt_below Z6 Hb7 (by omega)
      have K8 := K6.trans (Hb7.mono (by omega))
      have I8 := I6.below (Hb7.mono (by omega))
      have J8 := (J5.below Hb7).weaken Hb7.size
      have hz8 : w.heap.size + 1 + 1 < w8.heap.size := Nat.lt_of_lt_of_le hz6 Hb7.size
      have hx8 : xb < w8.heap.size := Nat.lt_of_lt_of_le hx6 Hb7.size
      clear P6 X6 H6 Y6 Z6 K6 I6 J5
      have hcc : (bb != bb) = false := by simp
      go_wp2_with (first | (refine wpList_load_mid rfl 38 (.tmp 13) rfl b7 0 ?lx1 (hdC R) _ ?lc1 Try.underlying38 rfl (sizeHandL R) ?_) | (refine wpList_load_mid rfl 38 (.tmp 10) rfl b5 0 ?lx2 (hdC R) _ ?lc2 Try.underlying38 rfl (sizeHandL R) ?_))
      try (case lx1 => rfl)
      try (case lc1 => exact Y7)
      try (case lx2 => rfl)
      try (case lc2 => exact Y8)
      refine (eqHand_any R _).mono ?_
      rintro e w9 ⟨rfl, b9⟩
      have X9 := rangeAt_below X8 b9 (by omega)
      have Z9 := rangeAt_below Z8 b9 (by omega)
      have K9 := K8.trans (b9.mono (by omega))
      have I9 := I8.below (b9.mono (by omega))
      have J9 := (J8.below b9).weaken b9.size
      have hz9 : w.heap.size + 1 + 1 < w9.heap.size := Nat.lt_of_lt_of_le hz8 b9.size
      have hx9 : xb < w9.heap.size := Nat.lt_of_lt_of_le hx8 b9.size
      clear X8 Z8 K8 I8 J8 hz8 hx8 b9 Y7 Y8
      have hzA : w.heap.size + 1 < w9.heap.size := by omega
      have hzp : w.heap.size ≤ w9.heap.size := by omega
      have BB := Below.refl w9.heap.size w9
      obtain ⟨x0', x1', x2', x3', x4'⟩ := row5 X9
      obtain ⟨y0', y1', y2', y3', y4'⟩ := row5 Z9
      go_wp2_with fail
      go_region_held3 (fun w' => w'.cell? ⟨xb, 0, none⟩ = some (.int .i64 A.camera) ∧ w'.cell? ⟨xb, 1, none⟩ = some (.slice (some ⟨q0, 0, none⟩) A.slots.length A.slots.length) ∧ w'.cell? ⟨xb, 2, none⟩ = some (.slice (some ⟨q1, 0, none⟩) A.guides.length A.guides.length) ∧ w'.cell? ⟨xb, 3, none⟩ = some (.slice (some ⟨q2, 0, none⟩) A.nodes.length A.nodes.length) ∧ w'.cell? ⟨xb, 4, none⟩ = some (.slice (some ⟨q3, 0, none⟩) A.vers.length A.vers.length) ∧ w'.cell? ⟨w.heap.size + 1, 0, none⟩ = some (.int .i64 A.camera) ∧ w'.cell? ⟨w.heap.size + 1, 1, none⟩ = some (.slice a0 A.slots.length c0) ∧ w'.cell? ⟨w.heap.size + 1, 2, none⟩ = some (.slice a1 A.guides.length c1) ∧ w'.cell? ⟨w.heap.size + 1, 3, none⟩ = some (.slice a2 A.nodes.length c2) ∧ w'.cell? ⟨w.heap.size + 1, 4, none⟩ = some (.slice a3 A.vers.length c3)) (go_keep) (first | (go_at_call 23; refine (toArena_at BB.drew hzp hA I9).mono ?_; rintro e wi ⟨r0, r1, r2, r3, rfl, J6, bi⟩; replace BB : Below w9.heap.size w9 wi := (by first | exact BB.drew.trans (bi.mono (by exact BB.size)) | exact BB.trans (bi.mono (by exact BB.size))); obtain ⟨x0', x1', x2', x3', x4'⟩ := row5 (rangeAt_below X9 BB hzA); obtain ⟨y0', y1', y2', y3', y4'⟩ := row5 (rangeAt_below Z9 BB hx9)) | (go_at_call 12; refine (eqArena_any _ A _ _ _ _ _ _ _ _ _ (Nat.le_refl _) hA ((J9.below BB).weaken BB.size) J6).mono ?_; rintro e wi ⟨rfl, bi⟩; replace BB : Below w9.heap.size w9 wi := (by first | exact BB.drew.trans (bi.mono (by exact BB.size)) | exact BB.trans (bi.mono (by exact BB.size))); obtain ⟨x0', x1', x2', x3', x4'⟩ := row5 (rangeAt_below X9 BB hzA); obtain ⟨y0', y1', y2', y3', y4'⟩ := row5 (rangeAt_below Z9 BB hx9)))
      go_wp2
      go_ret
      exact ⟨rfl, K9.trans (BB.mono hzp)⟩

set_option maxRecDepth 100000 in
theorem walkedTo_lifted (os : Os) (started : os.Started) (H : Type) (enc : TypeId × Value → H) :
    ReturnsInHanded {} Try.checked os 6 .any (Rows.fnExactWalkedToSpec.pre6 enc Try.prog Try.f6 Rows.fnExactWalkedToRow.domain false) (Rows.fnExactWalkedToSpec.post enc Try.prog Try.f6 false true false false) := by
  refine returnsInHanded_of_change (C := Try.checked) own started (by kernel_rfl) Try.func6
    (ChangeSpec.witness6 (enc := enc) (C := Try.checked) false ⟨#[], #[.agg #[.int .i64 0, .int .i64 0, .int .i64 0, .int .i64 0], .agg #[.int .i64 0, .slice none 0 0, .slice none 0 0, .slice none 0 0, .slice none 0 0], .agg #[.int .i64 0, .int .i64 0, .int .i64 0, .int .i64 0, .int .i64 0, .int .i64 0, .int .i64 0, .int .i64 0, .int .i64 0, .int .i64 0, .int .i64 0, .int .i64 0, .int .i64 0, .int .i64 0, .int .i64 0, .int .i64 0, .int .i64 0, .int .i64 0, .int .i64 0, .int .i64 0, .int .i64 0, .int .i64 0], .int .i64 0], []⟩ 8 (by kernel_rfl) (by kernel_rfl) (by kernel_rfl) (by kernel_rfl)) ?_
  intro W base args ds gs before hval0 hW hcnd _
  have hval : ∀ (j : Nat) t v, Try.f6.params[j]? = some t → args[j]? = some v → Value.okWide Try.prog W .any base t v := hval0
  have hW' := hW
  obtain ⟨p, q, hA0, hV, rfl, hfz, hnd⟩ := hW
  have hA : DataW.TrodAll enc Try.prog W 0 (fun _ => true) true Try.f6.params.toList args.toList ds p := hA0
  rw [Try.params6] at hA hval
  obtain ⟨v0, vs0, d0, ds0, p0, q0, hargs, rfl, rfl, h0, r0⟩ := trodAll_cons hA
  obtain ⟨v1, vs1, d1, ds1, p1, q1, rfl, rfl, rfl, h1, r1⟩ := trodAll_cons r0
  obtain ⟨v2, vs2, d2, ds2, p2, q2, rfl, rfl, rfl, h2, r2⟩ := trodAll_cons r1
  obtain ⟨v3, vs3, d3, ds3, p3, q3, rfl, rfl, rfl, h3, r3⟩ := trodAll_cons r2
  obtain ⟨rfl, rfl, rfl⟩ := trodAll_nil r3
  obtain rfl : args = #[v0, v1, v2, v3] := by cases args; simp_all
  obtain ⟨rfl, rfl⟩ := trodVars_none hV
  have k0 := h0
  have lt0 : ∀ x ∈ p0, x.block < W.heap.size := by obtain ⟨m, hm⟩ := k0; exact DataW.trod_lt m _ _ _ hm
  obtain ⟨x0, y0, z0, u0, hv0, wx0, wy0, wz0, wu0⟩ := open_plan (hval 0 23 v0 rfl rfl) h0
  subst hv0
  have k1 := h1
  have lt1 : ∀ x ∈ p1, x.block < W.heap.size := by obtain ⟨m, hm⟩ := k1; exact DataW.trod_lt m _ _ _ hm
  obtain ⟨A1, a10, a11, a12, a13, c10, c11, c12, c13, hv1, I1, m10, m11, m12, m13⟩ := open_arena (hval 1 48 v1 rfl rfl) h1
  subst hv1
  have k2 := h2
  have lt2 : ∀ x ∈ p2, x.block < W.heap.size := by obtain ⟨m, hm⟩ := k2; exact DataW.trod_lt m _ _ _ hm
  obtain ⟨hd2, hv2⟩ := open_hand (hval 2 36 v2 rfl rfl) h2
  subst hv2
  have k3 := h3
  have lt3 : ∀ x ∈ p3, x.block < W.heap.size := by obtain ⟨m, hm⟩ := k3; exact DataW.trod_lt m _ _ _ hm
  obtain ⟨x3, hv3, wx3⟩ : ∃ x, v3 = .int .i64 x ∧ (Lit.int .i64 x).wf = true := by
    obtain ⟨x, e1, _, _, wx⟩ := open_int Try.underlying2 (hval 3 2 v3 rfl rfl) h3
    exact ⟨x, e1, wx⟩
  subst hv3
  clear hA0 hval0
  refine (walkedTo_walk x0 y0 z0 u0 wx0 wy0 wz0 wu0 A1 a10 a11 a12 a13 c10 c11 c12 c13 hd2 x3 wx3 W I1 m10 m11 m12 m13).mono fun e W' ⟨he, bel⟩ => ?_
  subst he
  exact ⟨_, rfl, _, _, _, [], _, [], hW', trodAll_mk1 (shut_bool Try.underlying4 _), (trodAll_cons_mk (Below.trod laidOut (by kernel_rfl) (of_decide_eq_true (by kernel_rfl)) k0 bel lt0) (trodAll_cons_mk (Below.trod laidOut (by kernel_rfl) (of_decide_eq_true (by kernel_rfl)) k1 bel lt1) (trodAll_cons_mk (Below.trod laidOut (by kernel_rfl) (of_decide_eq_true (by kernel_rfl)) k2 bel lt2) (trodAll_cons_mk (Below.trod laidOut (by kernel_rfl) (of_decide_eq_true (by kernel_rfl)) k3 bel lt3) trodAll_mk0)))), rfl, bel.frame _, fun h => by cases h⟩

/-- The given statement. -/
theorem walkedTo_holds : Rows.FnExactWalkedToSaid :=
  OpenClaim.holds_of_wide 6 Try.f6 rfl rfl rfl rfl rfl rfl rfl ⟨rfl, rfl, rfl, rfl, rfl⟩ rfl rfl rfl rfl rfl (by kernel_rfl) Try.func6 (by kernel_rfl)
    (of_decide_eq_true (by kernel_rfl)) (by unfold Func.isWrapper; first | (rw [if_pos (by decide +kernel)]; kernel_rfl) | (rw [if_neg (by decide +kernel)]; exact ⟨rfl, rfl⟩))
    (fun os started H enc _ => walkedTo_lifted os started H enc)
#print axioms walkedTo_holds

end Go.Proofs.Ytcgjkodpmloccaa
