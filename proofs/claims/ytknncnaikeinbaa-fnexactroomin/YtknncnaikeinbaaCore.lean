/-
  What the functions of chapter 1 answer, of the program and of the model, each as a contract over the one translation: whether a number lies within two bounds, whether a plan is right, whether a number is a key. For every argument.
-/
import Derived.Test.YtknncnaikeinbaaRows
import Derived.WalkKit
import Derived.ProofKit
import Derived.OpenShut
import Derived.ShutString
import Derived.ChangeOld
import Derived.Below
import Derived.Lib.SmallJoins
namespace Go.Proofs.Ytknncnaikeinbaa
open Go.ChangeShapes Go.WideShapes Go.ChangeAt Go.RowKit
set_option linter.unusedVariables false

theorem own : ownKnob Try.prog.godebug = none := by kernel_rfl
theorem laidOut : laidOutB Try.prog = true := by kernel_rfl

/-- Is n from lo to hi? -/
def inB (n lo hi : Int) : Bool := decide (lo ≤ n) && decide (n ≤ hi)

theorem inB_iff (n lo hi : Int) : inB n lo hi = true ↔ lo ≤ n ∧ n ≤ hi := by simp [inB]
theorem inB_yes {n lo hi : Int} (h1 : lo ≤ n) (h2 : n ≤ hi) : inB n lo hi = true := (inB_iff n lo hi).2 ⟨h1, h2⟩
theorem inB_no {n lo hi : Int} (h : ¬ (lo ≤ n ∧ n ≤ hi)) : inB n lo hi = false := by
  cases e : inB n lo hi
  · rfl
  · exact absurd ((inB_iff n lo hi).1 e) h

theorem within_any (n lo hi : Int) (w : World) :
    Calls Try.prog 31 #[.int .i64 n, .int .i64 lo, .int .i64 hi] w fun e w' => e = .returned (.bool (inB n lo hi)) ∧ w' = w := by
  by_cases h1 : lo ≤ n
  · by_cases h2 : n ≤ hi
    · go_enter Try.func31, Try.ntmps31
      go_wp2
      go_ret
      exact ⟨by rw [inB_yes h1 h2]; rfl, rfl⟩
    · go_enter Try.func31, Try.ntmps31
      go_wp2
      go_ret
      exact ⟨by rw [inB_no (by omega)]; rfl, rfl⟩
  · go_enter Try.func31, Try.ntmps31
    go_wp2
    go_ret
    exact ⟨by rw [inB_no (by omega)]; rfl, rfl⟩

theorem l1In_any (n lo hi : Int) (w : World) :
    Calls Try.prog 23 #[.int .i64 n, .int .i64 lo, .int .i64 hi] w fun e w' => e = .returned (.bool (inB n lo hi)) ∧ w' = w := by
  by_cases h1 : lo ≤ n
  · by_cases h2 : n ≤ hi
    · go_enter Try.func23, Try.ntmps23
      go_wp2
      go_ret
      exact ⟨by rw [inB_yes h1 h2]; rfl, rfl⟩
    · go_enter Try.func23, Try.ntmps23
      go_wp2
      go_ret
      exact ⟨by rw [inB_no (by omega)]; rfl, rfl⟩
  · go_enter Try.func23, Try.ntmps23
    go_wp2
    go_ret
    exact ⟨by rw [inB_no (by omega)]; rfl, rfl⟩

theorem keyOk_any (n : Int) (w : World) :
    Calls Try.prog 42 #[.int .i64 n] w fun e w' => e = .returned (.bool (inB n 0 63)) ∧ w' = w := by
  go_enter Try.func42, Try.ntmps42
  go_wp2_with (go_at_call 31; refine (within_any _ _ _ _).mono ?_; rintro e w' ⟨rfl, rfl⟩)
  go_ret
  exact ⟨rfl, rfl⟩

theorem specKeyOk_any (n : Int) (w : World) :
    Calls Try.prog 39 #[.int .i64 n] w fun e w' => e = .returned (.bool (inB n 0 63)) ∧ w' = w := by
  go_enter Try.func39, Try.ntmps39
  go_wp2_with (go_at_call 23; refine (l1In_any _ _ _ _).mono ?_; rintro e w' ⟨rfl, rfl⟩)
  go_ret
  exact ⟨rfl, rfl⟩

/-- Is a plan of these four numbers right? -/
def planB (a b c d : Int) : Bool := inB a 1 8 && inB b 1 60 && inB c 1 400 && inB d 1 8

theorem planB_iff (a b c d : Int) : planB a b c d = true ↔ (1 ≤ a ∧ a ≤ 8) ∧ (1 ≤ b ∧ b ≤ 60) ∧ (1 ≤ c ∧ c ≤ 400) ∧ (1 ≤ d ∧ d ≤ 8) := by
  unfold planB
  simp only [Bool.and_eq_true, inB_iff]
  constructor
  · rintro ⟨⟨⟨h1, h2⟩, h3⟩, h4⟩
    exact ⟨h1, h2, h3, h4⟩
  · rintro ⟨h1, h2, h3, h4⟩
    exact ⟨⟨⟨h1, h2⟩, h3⟩, h4⟩

set_option maxHeartbeats 400000 in
theorem right_any (a b c d : Int) (w : World) :
    Calls Try.prog 29 #[.agg #[.int .i64 a, .int .i64 b, .int .i64 c, .int .i64 d]] w fun e w' => e = .returned (.bool (planB a b c d)) ∧ Below w.heap.size w w' := by
  cases h1 : inB a 1 8
  · have hp : planB a b c d = false := by simp [planB, h1]
    go_enter Try.func29, Try.ntmps29
    go_wp2_with (go_at_call 31; refine (within_any _ _ _ _).mono ?_; rintro e w' ⟨rfl, rfl⟩)
    go_ret
    exact ⟨by rw [hp]; rfl, (Below.refl _ _).alloc (Nat.le_refl _) _⟩
  · cases h2 : inB b 1 60
    · have hp : planB a b c d = false := by simp [planB, h1, h2]
      go_enter Try.func29, Try.ntmps29
      go_wp2_with (go_at_call 31; refine (within_any _ _ _ _).mono ?_; rintro e w' ⟨rfl, rfl⟩)
      go_ret
      exact ⟨by rw [hp]; rfl, (Below.refl _ _).alloc (Nat.le_refl _) _⟩
    · cases h3 : inB c 1 400
      · have hp : planB a b c d = false := by simp [planB, h1, h2, h3]
        go_enter Try.func29, Try.ntmps29
        go_wp2_with (go_at_call 31; refine (within_any _ _ _ _).mono ?_; rintro e w' ⟨rfl, rfl⟩)
        go_ret
        exact ⟨by rw [hp]; rfl, (Below.refl _ _).alloc (Nat.le_refl _) _⟩
      · cases h4 : inB d 1 8
        · have hp : planB a b c d = false := by simp [planB, h1, h2, h3, h4]
          go_enter Try.func29, Try.ntmps29
          go_wp2_with (go_at_call 31; refine (within_any _ _ _ _).mono ?_; rintro e w' ⟨rfl, rfl⟩)
          go_ret
          exact ⟨by rw [hp]; rfl, (Below.refl _ _).alloc (Nat.le_refl _) _⟩
        · have hp : planB a b c d = true := by simp [planB, h1, h2, h3, h4]
          go_enter Try.func29, Try.ntmps29
          go_wp2_with (go_at_call 31; refine (within_any _ _ _ _).mono ?_; rintro e w' ⟨rfl, rfl⟩)
          go_ret
          exact ⟨by rw [hp]; rfl, (Below.refl _ _).alloc (Nat.le_refl _) _⟩

set_option maxHeartbeats 400000 in
theorem specPlanOk_any (a b c d : Int) (w : World) :
    Calls Try.prog 21 #[.agg #[.int .i64 a, .int .i64 b, .int .i64 c, .int .i64 d]] w fun e w' => e = .returned (.bool (planB a b c d)) ∧ Below w.heap.size w w' := by
  cases h1 : inB a 1 8
  · have hp : planB a b c d = false := by simp [planB, h1]
    go_enter Try.func21, Try.ntmps21
    go_wp2_with (go_at_call 23; refine (l1In_any _ _ _ _).mono ?_; rintro e w' ⟨rfl, rfl⟩)
    go_ret
    exact ⟨by rw [hp]; rfl, (Below.refl _ _).alloc (Nat.le_refl _) _⟩
  · cases h2 : inB b 1 60
    · have hp : planB a b c d = false := by simp [planB, h1, h2]
      go_enter Try.func21, Try.ntmps21
      go_wp2_with (go_at_call 23; refine (l1In_any _ _ _ _).mono ?_; rintro e w' ⟨rfl, rfl⟩)
      go_ret
      exact ⟨by rw [hp]; rfl, (Below.refl _ _).alloc (Nat.le_refl _) _⟩
    · cases h3 : inB c 1 400
      · have hp : planB a b c d = false := by simp [planB, h1, h2, h3]
        go_enter Try.func21, Try.ntmps21
        go_wp2_with (go_at_call 23; refine (l1In_any _ _ _ _).mono ?_; rintro e w' ⟨rfl, rfl⟩)
        go_ret
        exact ⟨by rw [hp]; rfl, (Below.refl _ _).alloc (Nat.le_refl _) _⟩
      · cases h4 : inB d 1 8
        · have hp : planB a b c d = false := by simp [planB, h1, h2, h3, h4]
          go_enter Try.func21, Try.ntmps21
          go_wp2_with (go_at_call 23; refine (l1In_any _ _ _ _).mono ?_; rintro e w' ⟨rfl, rfl⟩)
          go_ret
          exact ⟨by rw [hp]; rfl, (Below.refl _ _).alloc (Nat.le_refl _) _⟩
        · have hp : planB a b c d = true := by simp [planB, h1, h2, h3, h4]
          go_enter Try.func21, Try.ntmps21
          go_wp2_with (go_at_call 23; refine (l1In_any _ _ _ _).mono ?_; rintro e w' ⟨rfl, rfl⟩)
          go_ret
          exact ⟨by rw [hp]; rfl, (Below.refl _ _).alloc (Nat.le_refl _) _⟩

theorem toPlan_any (a b c d : Int) (w : World) :
    Calls Try.prog 6 #[.agg #[.int .i64 a, .int .i64 b, .int .i64 c, .int .i64 d]] w fun e w' => e = .returned (.agg #[.int .i64 a, .int .i64 b, .int .i64 c, .int .i64 d]) ∧ Below w.heap.size w w' := by
  go_enter Try.func6, Try.ntmps6
  go_wp2
  exact bodyPost_ret (v := .agg #[.int .i64 a, .int .i64 b, .int .i64 c, .int .i64 d]) (by simp [results, Try.results6, go_sem]) rfl ⟨rfl, (((Below.refl _ _).alloc (Nat.le_refl _) _).alloc (by simp) _).alloc (by simp; omega) _⟩

/-- Behind a call that only makes memory each old cell reads as it did, and is frozen as it was. -/
theorem bcell {W w1 : World} (hb : Below W.heap.size W w1) : (∀ b o, b < W.heap.size → w1.cell? ⟨b, o, none⟩ = W.cell? ⟨b, o, none⟩) ∧ (∀ b o, b < W.heap.size → w1.frozen? ⟨b, o, none⟩ = W.frozen? ⟨b, o, none⟩) :=
  ⟨fun b o h => hb.cell (p := ⟨b, o, none⟩) h, fun b o h => hb.frozen (p := ⟨b, o, none⟩) h⟩

/-- The four numbers of a Plan lie at block b. -/
def PlanAt (W : World) (b : Nat) (x y z u : Int) : Prop :=
  W.cell? ⟨b, 0, none⟩ = some (.int .i64 x) ∧ W.cell? ⟨b, 1, none⟩ = some (.int .i64 y) ∧ W.cell? ⟨b, 2, none⟩ = some (.int .i64 z) ∧ W.cell? ⟨b, 3, none⟩ = some (.int .i64 u)

theorem planAt_alloc (w : World) (x y z u : Int) (T : TypeId) : PlanAt (w.alloc (.cells #[.int .i64 x, .int .i64 y, .int .i64 z, .int .i64 u] T)) w.heap.size x y z u := by
  refine ⟨?_, ?_, ?_, ?_⟩ <;> simp

theorem PlanAt.below {W w1 : World} {b : Nat} {x y z u : Int} (h : PlanAt W b x y z u) (hb : Below W.heap.size W w1) (hlt : b < W.heap.size) : PlanAt w1 b x y z u := by
  obtain ⟨hc, _⟩ := bcell hb
  obtain ⟨h0, h1, h2, h3⟩ := h
  exact ⟨(hc b 0 hlt).trans h0, (hc b 1 hlt).trans h1, (hc b 2 hlt).trans h2, (hc b 3 hlt).trans h3⟩

set_option maxRecDepth 100000 in
/-- A Plan that came in: four numbers, each an int64. -/
theorem open_plan {H : Type} {enc : TypeId × Value → H} {W : World} {r : Reach} {b0 base : Nat} {spare : Nat → Bool} {held : Bool} {v : Value} {d : DataW H} {p : List MemPlace} (hv : Value.okWide Try.prog W r b0 23 v) (h : DataW.Trod enc Try.prog W base spare held 23 v d p) :
    ∃ x y z u : Int, v = .agg #[.int .i64 x, .int .i64 y, .int .i64 z, .int .i64 u] ∧ (Lit.int .i64 x).wf = true ∧ (Lit.int .i64 y).wf = true ∧ (Lit.int .i64 z).wf = true ∧ (Lit.int .i64 u).wf = true := by
  obtain ⟨c0, c1, c2, c3, y0, y1, y2, y3, n, rfl, _, _, h0, h1, h2, h3⟩ := Go.Joins.open_agg4 Try.underlying23 (by kernel_rfl) (by kernel_rfl) hv h
  obtain ⟨x, e0, _, wx⟩ := DataW.trod_int Try.underlying2 h0
  obtain ⟨y, e1, _, wy⟩ := DataW.trod_int Try.underlying2 h1
  obtain ⟨z, e2, _, wz⟩ := DataW.trod_int Try.underlying2 h2
  obtain ⟨u, e3, _, wu⟩ := DataW.trod_int Try.underlying2 h3
  simp at e0 e1 e2 e3
  subst e0 e1 e2 e3
  exact ⟨x, y, z, u, rfl, wx, wy, wz, wu⟩

/-- Is the plan right, and n the number of a process? -/
def procB (a b c d n : Int) : Bool := planB a b c d && inB n 0 (a - 1)

theorem mul_bd {k u : Int} (h0 : 0 ≤ k) (h1 : k ≤ 63) (h2 : 1 ≤ u) (h3 : u ≤ 8) : 0 ≤ k * u ∧ k * u ≤ 504 := by
  constructor
  · exact Int.mul_nonneg h0 (by omega)
  · have a : k * u ≤ 63 * u := Int.mul_le_mul_of_nonneg_right h1 (by omega)
    omega

/-- Which guide points to a key. -/
def pointI (x y z u k : Int) : Int := if planB x y z u && inB k 0 63 then k * u / 64 else -1
/-- Which guide is asked for a key. -/
def guideI (x y z u k : Int) : Int := if planB x y z u && inB k 0 63 then k * u / 64 - 1 else -1

theorem point_yes {x y z u k : Int} (h1 : planB x y z u = true) (h2 : inB k 0 63 = true) : pointI x y z u k = k * u / 64 := by simp [pointI, h1, h2]
theorem guide_yes {x y z u k : Int} (h1 : planB x y z u = true) (h2 : inB k 0 63 = true) : guideI x y z u k = k * u / 64 - 1 := by simp [guideI, h1, h2]
theorem point_no {x y z u k : Int} (h : (planB x y z u && inB k 0 63) = false) : pointI x y z u k = -1 := by simp only [pointI, h]; rfl
theorem guide_no {x y z u k : Int} (h : (planB x y z u && inB k 0 63) = false) : guideI x y z u k = -1 := by simp only [guideI, h]; rfl
theorem bounds_of {x y z u k : Int} (h1 : planB x y z u = true) (h2 : inB k 0 63 = true) : 0 ≤ k ∧ k ≤ 63 ∧ 1 ≤ u ∧ u ≤ 8 := by
  have a := (planB_iff x y z u).1 h1
  have b := (inB_iff k 0 63).1 h2
  exact ⟨b.1, b.2, a.2.2.2.1, a.2.2.2.2⟩

/-- The number that stands in the answer, told by an equation. -/
theorem ret_int {k : IntKind} {a b : Int} (h : a = b) : Ending.returned (.int k a) = .returned (.int k b) := by rw [h]

end Go.Proofs.Ytknncnaikeinbaa
