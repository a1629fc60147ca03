/-
  What the law's proof goes by, part 1.
-/
import Derived.Test.YtlfjhcdjgoeafaaDoorRows
import Derived.WalkKit
import Derived.ProofKit
import Derived.OpenShut
import Derived.ShutString
import Derived.ChangeOld
import Derived.Below
import Derived.Lib.SmallJoins
import Derived.Deep.MidRow
namespace Go.Proofs.YtlfjhcdjgoeafaaDoor
open Go.ChangeShapes Go.WideShapes Go.ChangeAt Go.RowKit
set_option linter.unusedVariables false
set_option linter.unusedSimpArgs false
set_option linter.unnecessarySimpa false
set_option linter.unusedSectionVars false
section
theorem own : ownKnob Tryd.prog.godebug = none := by kernel_rfl
theorem laidOut : laidOutB Tryd.prog = true := by kernel_rfl
def inB (n lo hi : Int) : Bool := decide (lo ≤ n) && decide (n ≤ hi)
theorem inB_iff (n lo hi : Int) : inB n lo hi = true ↔ lo ≤ n ∧ n ≤ hi := by simp [inB]
theorem inB_yes {n lo hi : Int} (h1 : lo ≤ n) (h2 : n ≤ hi) : inB n lo hi = true := (inB_iff n lo hi).2 ⟨h1, h2⟩
theorem inB_no {n lo hi : Int} (h : ¬ (lo ≤ n ∧ n ≤ hi)) : inB n lo hi = false := by
 cases e : inB n lo hi
 ·rfl
 ·exact absurd ((inB_iff n lo hi).1 e) h
theorem within_any (n lo hi : Int) (w : World) :
  Calls Tryd.prog 53 #[.int .i64 n, .int .i64 lo, .int .i64 hi] w fun e w' => e = .returned (.bool (inB n lo hi)) ∧ w' = w := by
 by_cases h1 : lo ≤ n
 ·by_cases h2 : n ≤ hi
  ·go_enter Tryd.func53, Tryd.ntmps53
   go_wp2
   go_ret
   exact ⟨by rw [inB_yes h1 h2]; rfl, rfl⟩
  ·go_enter Tryd.func53, Tryd.ntmps53
   go_wp2
   go_ret
   exact ⟨by rw [inB_no (by omega)]; rfl, rfl⟩
 ·go_enter Tryd.func53, Tryd.ntmps53
  go_wp2
  go_ret
  exact ⟨by rw [inB_no (by omega)]; rfl, rfl⟩
theorem l1In_any (n lo hi : Int) (w : World) :
  Calls Tryd.prog 48 #[.int .i64 n, .int .i64 lo, .int .i64 hi] w fun e w' => e = .returned (.bool (inB n lo hi)) ∧ w' = w := by
 by_cases h1 : lo ≤ n
 ·by_cases h2 : n ≤ hi
  ·go_enter Tryd.func48, Tryd.ntmps48
   go_wp2
   go_ret
   exact ⟨by rw [inB_yes h1 h2]; rfl, rfl⟩
  ·go_enter Tryd.func48, Tryd.ntmps48
   go_wp2
   go_ret
   exact ⟨by rw [inB_no (by omega)]; rfl, rfl⟩
 ·go_enter Tryd.func48, Tryd.ntmps48
  go_wp2
  go_ret
  exact ⟨by rw [inB_no (by omega)]; rfl, rfl⟩
theorem keyOk_any (n : Int) (w : World) :
  Calls Tryd.prog 42 #[.int .i64 n] w fun e w' => e = .returned (.bool (inB n 0 63)) ∧ w' = w := by
 go_enter Tryd.func42, Tryd.ntmps42
 go_wp2_with (go_at_call 53; refine (within_any _ _ _ _).mono ?_; rintro e w' ⟨rfl, rfl⟩)
 go_ret
 exact ⟨rfl, rfl⟩
theorem specKeyOk_any (n : Int) (w : World) :
  Calls Tryd.prog 39 #[.int .i64 n] w fun e w' => e = .returned (.bool (inB n 0 63)) ∧ w' = w := by
 go_enter Tryd.func39, Tryd.ntmps39
 go_wp2_with (go_at_call 48; refine (l1In_any _ _ _ _).mono ?_; rintro e w' ⟨rfl, rfl⟩)
 go_ret
 exact ⟨rfl, rfl⟩
def planB (a b c d : Int) : Bool := inB a 1 8 && inB b 1 60 && inB c 1 400 && inB d 1 8
theorem planB_iff (a b c d : Int) : planB a b c d = true ↔ (1 ≤ a ∧ a ≤ 8) ∧ (1 ≤ b ∧ b ≤ 60) ∧ (1 ≤ c ∧ c ≤ 400) ∧ (1 ≤ d ∧ d ≤ 8) := by
 unfold planB
 simp only [Bool.and_eq_true, inB_iff]
 constructor
 ·rintro ⟨⟨⟨h1, h2⟩, h3⟩, h4⟩
  exact ⟨h1, h2, h3, h4⟩
 ·rintro ⟨h1, h2, h3, h4⟩
  exact ⟨⟨⟨h1, h2⟩, h3⟩, h4⟩
set_option maxHeartbeats 400000 in
theorem right_any (a b c d : Int) (w : World) :
  Calls Tryd.prog 65 #[.agg #[.int .i64 a, .int .i64 b, .int .i64 c, .int .i64 d]] w fun e w' => e = .returned (.bool (planB a b c d)) ∧ Below w.heap.size w w' := by
 cases h1 : inB a 1 8
 ·have hp : planB a b c d = false := by simp [planB, h1]
  go_enter Tryd.func65, Tryd.ntmps65
  go_wp2_with (go_at_call 53; refine (within_any _ _ _ _).mono ?_; rintro e w' ⟨rfl, rfl⟩)
  go_ret
  exact ⟨by rw [hp]; rfl, (Below.refl _ _).alloc (Nat.le_refl _) _⟩
 ·cases h2 : inB b 1 60
  ·have hp : planB a b c d = false := by simp [planB, h1, h2]
   go_enter Tryd.func65, Tryd.ntmps65
   go_wp2_with (go_at_call 53; refine (within_any _ _ _ _).mono ?_; rintro e w' ⟨rfl, rfl⟩)
   go_ret
   exact ⟨by rw [hp]; rfl, (Below.refl _ _).alloc (Nat.le_refl _) _⟩
  ·cases h3 : inB c 1 400
   ·have hp : planB a b c d = false := by simp [planB, h1, h2, h3]
    go_enter Tryd.func65, Tryd.ntmps65
    go_wp2_with (go_at_call 53; refine (within_any _ _ _ _).mono ?_; rintro e w' ⟨rfl, rfl⟩)
    go_ret
    exact ⟨by rw [hp]; rfl, (Below.refl _ _).alloc (Nat.le_refl _) _⟩
   ·cases h4 : inB d 1 8
    ·have hp : planB a b c d = false := by simp [planB, h1, h2, h3, h4]
     go_enter Tryd.func65, Tryd.ntmps65
     go_wp2_with (go_at_call 53; refine (within_any _ _ _ _).mono ?_; rintro e w' ⟨rfl, rfl⟩)
     go_ret
     exact ⟨by rw [hp]; rfl, (Below.refl _ _).alloc (Nat.le_refl _) _⟩
    ·have hp : planB a b c d = true := by simp [planB, h1, h2, h3, h4]
     go_enter Tryd.func65, Tryd.ntmps65
     go_wp2_with (go_at_call 53; refine (within_any _ _ _ _).mono ?_; rintro e w' ⟨rfl, rfl⟩)
     go_ret
     exact ⟨by rw [hp]; rfl, (Below.refl _ _).alloc (Nat.le_refl _) _⟩
set_option maxHeartbeats 400000 in
theorem specPlanOk_any (a b c d : Int) (w : World) :
  Calls Tryd.prog 46 #[.agg #[.int .i64 a, .int .i64 b, .int .i64 c, .int .i64 d]] w fun e w' => e = .returned (.bool (planB a b c d)) ∧ Below w.heap.size w w' := by
 cases h1 : inB a 1 8
 ·have hp : planB a b c d = false := by simp [planB, h1]
  go_enter Tryd.func46, Tryd.ntmps46
  go_wp2_with (go_at_call 48; refine (l1In_any _ _ _ _).mono ?_; rintro e w' ⟨rfl, rfl⟩)
  go_ret
  exact ⟨by rw [hp]; rfl, (Below.refl _ _).alloc (Nat.le_refl _) _⟩
 ·cases h2 : inB b 1 60
  ·have hp : planB a b c d = false := by simp [planB, h1, h2]
   go_enter Tryd.func46, Tryd.ntmps46
   go_wp2_with (go_at_call 48; refine (l1In_any _ _ _ _).mono ?_; rintro e w' ⟨rfl, rfl⟩)
   go_ret
   exact ⟨by rw [hp]; rfl, (Below.refl _ _).alloc (Nat.le_refl _) _⟩
  ·cases h3 : inB c 1 400
   ·have hp : planB a b c d = false := by simp [planB, h1, h2, h3]
    go_enter Tryd.func46, Tryd.ntmps46
    go_wp2_with (go_at_call 48; refine (l1In_any _ _ _ _).mono ?_; rintro e w' ⟨rfl, rfl⟩)
    go_ret
    exact ⟨by rw [hp]; rfl, (Below.refl _ _).alloc (Nat.le_refl _) _⟩
   ·cases h4 : inB d 1 8
    ·have hp : planB a b c d = false := by simp [planB, h1, h2, h3, h4]
     go_enter Tryd.func46, Tryd.ntmps46
     go_wp2_with (go_at_call 48; refine (l1In_any _ _ _ _).mono ?_; rintro e w' ⟨rfl, rfl⟩)
     go_ret
     exact ⟨by rw [hp]; rfl, (Below.refl _ _).alloc (Nat.le_refl _) _⟩
    ·have hp : planB a b c d = true := by simp [planB, h1, h2, h3, h4]
     go_enter Tryd.func46, Tryd.ntmps46
     go_wp2_with (go_at_call 48; refine (l1In_any _ _ _ _).mono ?_; rintro e w' ⟨rfl, rfl⟩)
     go_ret
     exact ⟨by rw [hp]; rfl, (Below.refl _ _).alloc (Nat.le_refl _) _⟩
theorem toPlan_any (a b c d : Int) (w : World) :
  Calls Tryd.prog 7 #[.agg #[.int .i64 a, .int .i64 b, .int .i64 c, .int .i64 d]] w fun e w' => e = .returned (.agg #[.int .i64 a, .int .i64 b, .int .i64 c, .int .i64 d]) ∧ Below w.heap.size w w' := by
 go_enter Tryd.func7, Tryd.ntmps7
 go_wp2
 exact bodyPost_ret (v := .agg #[.int .i64 a, .int .i64 b, .int .i64 c, .int .i64 d]) (by simp [results, Tryd.results7, go_sem]) rfl ⟨rfl, (((Below.refl _ _).alloc (Nat.le_refl _) _).alloc (by simp) _).alloc (by simp; omega) _⟩
theorem bcell {W w1 : World} (hb : Below W.heap.size W w1) : (∀ b o, b < W.heap.size → w1.cell? ⟨b, o, none⟩ = W.cell? ⟨b, o, none⟩) ∧ (∀ b o, b < W.heap.size → w1.frozen? ⟨b, o, none⟩ = W.frozen? ⟨b, o, none⟩) :=
 ⟨fun b o h => hb.cell (p := ⟨b, o, none⟩) h, fun b o h => hb.frozen (p := ⟨b, o, none⟩) h⟩
def PlanAt (W : World) (b : Nat) (x y z u : Int) : Prop :=
 W.cell? ⟨b, 0, none⟩ = some (.int .i64 x) ∧ W.cell? ⟨b, 1, none⟩ = some (.int .i64 y) ∧ W.cell? ⟨b, 2, none⟩ = some (.int .i64 z) ∧ W.cell? ⟨b, 3, none⟩ = some (.int .i64 u)
theorem planAt_alloc (w : World) (x y z u : Int) (T : TypeId) : PlanAt (w.alloc (.cells #[.int .i64 x, .int .i64 y, .int .i64 z, .int .i64 u] T)) w.heap.size x y z u := by
 refine ⟨?_, ?_, ?_, ?_⟩ <;> simp
theorem PlanAt.below {W w1 : World} {b : Nat} {x y z u : Int} (h : PlanAt W b x y z u) (hb : Below W.heap.size W w1) (hlt : b < W.heap.size) : PlanAt w1 b x y z u := by
 obtain ⟨hc, _⟩ := bcell hb
 obtain ⟨h0, h1, h2, h3⟩ := h
 exact ⟨(hc b 0 hlt).trans h0, (hc b 1 hlt).trans h1, (hc b 2 hlt).trans h2, (hc b 3 hlt).trans h3⟩
set_option maxRecDepth 100000 in
theorem open_plan {H : Type} {enc : TypeId × Value → H} {W : World} {r : Reach} {b0 base : Nat} {spare : Nat → Bool} {held : Bool} {v : Value} {d : DataW H} {p : List MemPlace} (hv : Value.okWide Tryd.prog W r b0 23 v) (h : DataW.Trod enc Tryd.prog W base spare held 23 v d p) :
  ∃ x y z u : Int, v = .agg #[.int .i64 x, .int .i64 y, .int .i64 z, .int .i64 u] ∧ (Lit.int .i64 x).wf = true ∧ (Lit.int .i64 y).wf = true ∧ (Lit.int .i64 z).wf = true ∧ (Lit.int .i64 u).wf = true := by
 obtain ⟨c0, c1, c2, c3, y0, y1, y2, y3, n, rfl, _, _, h0, h1, h2, h3⟩ := Go.Joins.open_agg4 Tryd.underlying23 (by kernel_rfl) (by kernel_rfl) hv h
 obtain ⟨x, e0, _, wx⟩ := DataW.trod_int Tryd.underlying2 h0
 obtain ⟨y, e1, _, wy⟩ := DataW.trod_int Tryd.underlying2 h1
 obtain ⟨z, e2, _, wz⟩ := DataW.trod_int Tryd.underlying2 h2
 obtain ⟨u, e3, _, wu⟩ := DataW.trod_int Tryd.underlying2 h3
 simp at e0 e1 e2 e3
 subst e0 e1 e2 e3
 exact ⟨x, y, z, u, rfl, wx, wy, wz, wu⟩
theorem mul_bd {k u : Int} (h0 : 0 ≤ k) (h1 : k ≤ 63) (h2 : 1 ≤ u) (h3 : u ≤ 8) : 0 ≤ k * u ∧ k * u ≤ 504 := by
 constructor
 ·exact Int.mul_nonneg h0 (by omega)
 ·have a : k * u ≤ 63 * u := Int.mul_le_mul_of_nonneg_right h1 (by omega)
  omega
def pointI (x y z u k : Int) : Int := if planB x y z u && inB k 0 63 then k * u / 64 else -1
def guideI (x y z u k : Int) : Int := if planB x y z u && inB k 0 63 then k * u / 64 - 1 else -1
theorem point_yes {x y z u k : Int} (h1 : planB x y z u = true) (h2 : inB k 0 63 = true) : pointI x y z u k = k * u / 64 := by simp [pointI, h1, h2]
theorem guide_yes {x y z u k : Int} (h1 : planB x y z u = true) (h2 : inB k 0 63 = true) : guideI x y z u k = k * u / 64 - 1 := by simp [guideI, h1, h2]
theorem point_no {x y z u k : Int} (h : (planB x y z u && inB k 0 63) = false) : pointI x y z u k = -1 := by simp only [pointI, h]; rfl
theorem guide_no {x y z u k : Int} (h : (planB x y z u && inB k 0 63) = false) : guideI x y z u k = -1 := by simp only [guideI, h]; rfl
theorem bounds_of {x y z u k : Int} (h1 : planB x y z u = true) (h2 : inB k 0 63 = true) : 0 ≤ k ∧ k ≤ 63 ∧ 1 ≤ u ∧ u ≤ 8 := by
 have a := (planB_iff x y z u).1 h1
 have b := (inB_iff k 0 63).1 h2
 exact ⟨b.1, b.2, a.2.2.2.1, a.2.2.2.2⟩
theorem pointing_any (x y z u k : Int) (w : World) (h0 : 0 ≤ k) (h1 : k ≤ 63) (h2 : 1 ≤ u) (h3 : u ≤ 8) :
  Calls Tryd.prog 93 #[.agg #[.int .i64 x, .int .i64 y, .int .i64 z, .int .i64 u], .int .i64 k] w fun e w' => e = .returned (.int .i64 (k * u / 64)) ∧ Below w.heap.size w w' := by
 obtain ⟨m0, m1⟩ := mul_bd h0 h1 h2 h3
 go_enter Tryd.func93, Tryd.ntmps93
 go_wp2
 go_ret
 exact ⟨rfl, (Below.refl _ _).alloc (Nat.le_refl _) _⟩
theorem asked_any (x y z u k : Int) (w : World) (h0 : 0 ≤ k) (h1 : k ≤ 63) (h2 : 1 ≤ u) (h3 : u ≤ 8) :
  Calls Tryd.prog 89 #[.agg #[.int .i64 x, .int .i64 y, .int .i64 z, .int .i64 u], .int .i64 k] w fun e w' => e = .returned (.int .i64 (k * u / 64 - 1)) ∧ Below w.heap.size w w' := by
 obtain ⟨m0, m1⟩ := mul_bd h0 h1 h2 h3
 go_enter Tryd.func89, Tryd.ntmps89
 go_wp2_with fail
 refine (pointing_any _ _ _ _ _ _ (by omega) (by omega) (by omega) (by omega)).mono ?_
 rintro e w1 ⟨rfl, hb1⟩
 go_wp2
 go_ret
 exact ⟨rfl, ((Below.refl _ _).alloc (Nat.le_refl _) _).trans (hb1.mono (by simp))⟩
set_option maxHeartbeats 400000 in
theorem toldAsked_any (x y z u k : Int) (w : World) :
  Calls Tryd.prog 88 #[.agg #[.int .i64 x, .int .i64 y, .int .i64 z, .int .i64 u], .int .i64 k, .func (Fn.func 89) #[.agg #[.int .i64 x, .int .i64 y, .int .i64 z, .int .i64 u]] #[]] w fun e w' => e = .returned (.int .i64 (guideI x y z u k)) ∧ Below w.heap.size w w' := by
 cases h1 : planB x y z u
 ·have hv : guideI x y z u k = -1 := guide_no (by simp [h1])
  go_enter Tryd.func88, Tryd.ntmps88
  go_wp2_with fail
  refine (right_any _ _ _ _ _).mono ?_
  rintro e w1 ⟨rfl, hb1⟩
  go_wp2
  go_ret
  exact ⟨by rw [hv]; rfl, ((Below.refl _ _).alloc (Nat.le_refl _) _).trans (hb1.mono (by simp))⟩
 ·cases h2 : inB k 0 63
  ·have hv : guideI x y z u k = -1 := guide_no (by simp [h2])
   go_enter Tryd.func88, Tryd.ntmps88
   go_wp2_with fail
   refine (right_any _ _ _ _ _).mono ?_
   rintro e w1 ⟨rfl, hb1⟩
   go_wp2_with (go_at_call 42; refine (keyOk_any _ _).mono ?_; rintro e w' ⟨rfl, rfl⟩)
   go_ret
   exact ⟨by rw [hv]; rfl, ((Below.refl _ _).alloc (Nat.le_refl _) _).trans (hb1.mono (by simp))⟩
  ·obtain ⟨b0, b1, b2, b3⟩ := bounds_of h1 h2
   have Hv : Hid (guideI x y z u k = k * u / 64 - 1) := guide_yes h1 h2
   go_enter Tryd.func88, Tryd.ntmps88
   go_wp2_with fail
   refine (right_any _ _ _ _ _).mono ?_
   rintro e w1 ⟨rfl, hb1⟩
   have hz1 := hb1.size
   simp at hz1
   go_wp2_with (go_at_call 42; refine (keyOk_any _ _).mono ?_; rintro e w' ⟨rfl, rfl⟩)
   refine (asked_any _ _ _ _ _ _ (by omega) (by omega) (by omega) (by omega)).mono ?_
   rintro e w2 ⟨rfl, hb2⟩
   go_wp2
   go_ret
   exact ⟨by rw [Hv.out]; rfl, (((Below.refl _ _).alloc (Nat.le_refl _) _).trans (hb1.mono (by simp))).trans (hb2.mono (by omega))⟩
theorem guideOf_any (x y z u k : Int) (w : World) :
  Calls Tryd.prog 73 #[.agg #[.int .i64 x, .int .i64 y, .int .i64 z, .int .i64 u], .int .i64 k] w fun e w' => e = .returned (.int .i64 (guideI x y z u k)) ∧ Below w.heap.size w w' := by
 go_enter Tryd.func73, Tryd.ntmps73
 go_wp2_with fail
 refine (toldAsked_any _ _ _ _ _ _).mono ?_
 rintro e w1 ⟨rfl, hb1⟩
 go_wp2
 go_ret
 exact ⟨rfl, ((Below.refl _ _).alloc (Nat.le_refl _) _).trans (hb1.mono (by simp))⟩
set_option maxHeartbeats 400000 in
theorem specPointOf_any (x y z u k : Int) (w : World) :
  Calls Tryd.prog 84 #[.agg #[.int .i64 x, .int .i64 y, .int .i64 z, .int .i64 u], .int .i64 k] w fun e w' => e = .returned (.int .i64 (pointI x y z u k)) ∧ Below w.heap.size w w' := by
 have P0 := planAt_alloc w x y z u 36
 cases h1 : planB x y z u
 ·have hv : pointI x y z u k = -1 := point_no (by simp [h1])
  go_enter Tryd.func84, Tryd.ntmps84
  go_wp2_with fail
  refine (specPlanOk_any _ _ _ _ _).mono ?_
  rintro e w1 ⟨rfl, hb1⟩
  go_wp2
  go_ret
  exact ⟨by rw [hv]; rfl, ((Below.refl _ _).alloc (Nat.le_refl _) _).trans (hb1.mono (by simp))⟩
 ·cases h2 : inB k 0 63
  ·have hv : pointI x y z u k = -1 := point_no (by simp [h2])
   go_enter Tryd.func84, Tryd.ntmps84
   go_wp2_with fail
   refine (specPlanOk_any _ _ _ _ _).mono ?_
   rintro e w1 ⟨rfl, hb1⟩
   go_wp2_with (go_at_call 39; refine (specKeyOk_any _ _).mono ?_; rintro e w' ⟨rfl, rfl⟩)
   go_ret
   exact ⟨by rw [hv]; rfl, ((Below.refl _ _).alloc (Nat.le_refl _) _).trans (hb1.mono (by simp))⟩
  ·obtain ⟨b0, b1, b2, b3⟩ := bounds_of h1 h2
   obtain ⟨m0, m1⟩ := mul_bd b0 b1 b2 b3
   have Hv : Hid (pointI x y z u k = k * u / 64) := point_yes h1 h2
   go_enter Tryd.func84, Tryd.ntmps84
   go_wp2_with fail
   refine (specPlanOk_any _ _ _ _ _).mono ?_
   rintro e w1 ⟨rfl, hb1⟩
   have hz1 := hb1.size
   simp at hz1
   obtain ⟨c0, c1, c2, c3⟩ := P0.below hb1 (by simp)
   go_wp2_with (go_at_call 39; refine (specKeyOk_any _ _).mono ?_; rintro e w' ⟨rfl, rfl⟩)
   go_ret
   exact ⟨by rw [Hv.out]; rfl, ((Below.refl _ _).alloc (Nat.le_refl _) _).trans (hb1.mono (by simp))⟩
set_option maxHeartbeats 400000 in
theorem specGuideOf_any (x y z u k : Int) (w : World) :
  Calls Tryd.prog 64 #[.agg #[.int .i64 x, .int .i64 y, .int .i64 z, .int .i64 u], .int .i64 k] w fun e w' => e = .returned (.int .i64 (guideI x y z u k)) ∧ Below w.heap.size w w' := by
 have P0 := planAt_alloc w x y z u 36
 cases h1 : planB x y z u
 ·have hv : guideI x y z u k = -1 := guide_no (by simp [h1])
  go_enter Tryd.func64, Tryd.ntmps64
  go_wp2_with fail
  refine (specPlanOk_any _ _ _ _ _).mono ?_
  rintro e w1 ⟨rfl, hb1⟩
  go_wp2
  go_ret
  exact ⟨by rw [hv]; rfl, ((Below.refl _ _).alloc (Nat.le_refl _) _).trans (hb1.mono (by simp))⟩
 ·cases h2 : inB k 0 63
  ·have hv : guideI x y z u k = -1 := guide_no (by simp [h2])
   go_enter Tryd.func64, Tryd.ntmps64
   go_wp2_with fail
   refine (specPlanOk_any _ _ _ _ _).mono ?_
   rintro e w1 ⟨rfl, hb1⟩
   go_wp2_with (go_at_call 39; refine (specKeyOk_any _ _).mono ?_; rintro e w' ⟨rfl, rfl⟩)
   go_ret
   exact ⟨by rw [hv]; rfl, ((Below.refl _ _).alloc (Nat.le_refl _) _).trans (hb1.mono (by simp))⟩
  ·obtain ⟨b0, b1, b2, b3⟩ := bounds_of h1 h2
   obtain ⟨m0, m1⟩ := mul_bd b0 b1 b2 b3
   have Hv : Hid (guideI x y z u k = k * u / 64 - 1) := guide_yes h1 h2
   go_enter Tryd.func64, Tryd.ntmps64
   go_wp2_with fail
   refine (specPlanOk_any _ _ _ _ _).mono ?_
   rintro e w1 ⟨rfl, hb1⟩
   have hz1 := hb1.size
   simp at hz1
   obtain ⟨c0, c1, c2, c3⟩ := P0.below hb1 (by simp)
   go_wp2_with (go_at_call 39; refine (specKeyOk_any _ _).mono ?_; rintro e w' ⟨rfl, rfl⟩)
   refine (specPointOf_any _ _ _ _ _ _).mono ?_
   rintro e w2 ⟨rfl, hb2⟩
   rw [point_yes h1 h2]
   go_wp2
   go_ret
   exact ⟨by rw [Hv.out]; rfl, (((Below.refl _ _).alloc (Nat.le_refl _) _).trans (hb1.mono (by simp))).trans (hb2.mono (by omega))⟩
end
section
open Go.RowKit
theorem there_new (w : World) (C : Array Value) (T : TypeId) (n : Nat) (h : n ≤ C.size) : (w.alloc (.cells C T)).there w.heap.size 0 n := by
 intro j hj
 rw [Nat.zero_add, World.cell?_alloc_new]
 refine ⟨?_, by simp⟩
 rw [Array.getElem?_eq_getElem (by omega)]
 rfl
theorem rangeAt_new (w : World) (cs : List Value) (T : TypeId) : (w.alloc (.cells cs.toArray T)).rangeAt w.heap.size 0 cs := by
 intro j v hv
 rw [Nat.zero_add, World.cell?_alloc_new]
 simpa using hv
theorem rangeAt_below {w w' : World} {B b o : Nat} {cs : List Value} (h : w.rangeAt b o cs) (hb : Below B w w') (hB : b < B) : w'.rangeAt b o cs :=
 fun j v hv => (hb.cell (p := ⟨b, o + j, none⟩) hB).trans (h j v hv)
theorem there_below {w w' : World} {B b o n : Nat} (h : w.there b o n) (hb : Below B w w') (hB : b < B) : w'.there b o n :=
 fun j hj => by rw [hb.cell (p := ⟨b, o + j, none⟩) hB, hb.frozen (p := ⟨b, o + j, none⟩) hB]; exact h j hj
theorem setCells_size (b : Nat) : ∀ (vs : List Value) (o : Nat) (w : World), (w.setCells b o vs).heap.size = w.heap.size
 | [], _, _ => rfl
 | v :: vs, o, w => by
  show ((w.setCell ⟨b, o, none⟩ v).setCells b (o + 1) vs).heap.size = _
  rw [setCells_size b vs (o + 1), World.size_setCell]
theorem Below.setCells {B b : Nat} {a : World} (hB : B ≤ b) : ∀ (vs : List Value) (o : Nat) (w : World), Below B a w → Below B a (w.setCells b o vs)
 | [], _, _, h => h
 | v :: vs, o, w, h => Below.setCells hB vs (o + 1) (w.setCell ⟨b, o, none⟩ v) (h.setCell hB v)
theorem there_setCell {w : World} {b o n : Nat} (h : w.there b o n) (a : Addr) (v : Value) : (w.setCell a v).there b o n := by
 intro j hj
 refine ⟨?_, (World.frozen?_setCell _ _ _ _).trans (h j hj).2⟩
 by_cases e : a = ⟨b, o + j, none⟩
 ·subst e
  obtain ⟨u, hu⟩ := Option.isSome_iff_exists.1 (h j hj).1
  rw [World.cell?_setCell_same _ _ _ hu]
  rfl
 ·rw [World.cell?_setCell_other _ _ _ _ e]
  exact (h j hj).1
theorem results_row {P : Program} {fn : Func} {p : Tmp} {ty : TypeId} (h : fn.results = #[.cell p ty]) (tmps : Array Value) (w : World) (b o : Nat) (hp : tmps.getD p undef = .pointer (some ⟨b, o, none⟩))
  (cs : List Value) (d : TypeDesc) (hc : w.rangeAt b o cs) (hu : P.underlying ty = some d) (hd : d.isRow = true) (hi : (P.info? ty).map (·.size) = some cs.length) : (results fn tmps).run P w = .ok (.agg cs.toArray) w := by
 have hl := run_loadVar_mid (P := P) w b o ty cs d hc hu hd hi
 rw [Array.getD_eq_getD_getElem?] at hp
 simp [results, h, hp, asAddr, hl]
end
end Go.Proofs.YtlfjhcdjgoeafaaDoor
