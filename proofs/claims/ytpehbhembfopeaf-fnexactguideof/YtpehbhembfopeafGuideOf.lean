/-
  GuideOf answers as the document's model does: at every Plan of four int64 and every int64 the law of GuideOf returns true and leaves its arguments as they were. No condition.
-/
import Derived.Test.YtpehbhembfopeafCore
namespace Go.Proofs.Ytpehbhembfopeaf
open Go.ChangeShapes Go.WideShapes Go.ChangeAt Go.RowKit
set_option linter.unusedVariables false

theorem mul_bd {k u : Int} (h0 : 0 ≤ k) (h1 : k ≤ 63) (h2 : 1 ≤ u) (h3 : u ≤ 8) : 0 ≤ k * u ∧ k * u ≤ 504 := by
  constructor
  · exact Int.mul_nonneg h0 (by omega)
  · have a : k * u ≤ 63 * u := Int.mul_le_mul_of_nonneg_right h1 (by omega)
    omega

/-- Which guide points to a key. -/
def pointI (x y z u k : Int) : Int := if planB x y z u && inB k 0 63 then k * u / 64 else -1
/-- Which guide is asked for a key. -/
def guideI (x y z u k : Int) : Int := if planB x y z u && inB k 0 63 then k * u / 64 - 1 else -1

theorem point_yes {x y z u k : Int} (h1 : planB x y z u = true) (h2 : inB k 0 63 = true) : pointI x y z u k = k * u / 64 := by simp [pointI, h1, h2]
theorem guide_yes {x y z u k : Int} (h1 : planB x y z u = true) (h2 : inB k 0 63 = true) : guideI x y z u k = k * u / 64 - 1 := by simp [guideI, h1, h2]
theorem point_no {x y z u k : Int} (h : (planB x y z u && inB k 0 63) = false) : pointI x y z u k = -1 := by simp only [pointI, h]; rfl
theorem guide_no {x y z u k : Int} (h : (planB x y z u && inB k 0 63) = false) : guideI x y z u k = -1 := by simp only [guideI, h]; rfl
theorem bounds_of {x y z u k : Int} (h1 : planB x y z u = true) (h2 : inB k 0 63 = true) : 0 ≤ k ∧ k ≤ 63 ∧ 1 ≤ u ∧ u ≤ 8 := by
  have a := (planB_iff x y z u).1 h1
  have b := (inB_iff k 0 63).1 h2
  exact ⟨b.1, b.2, a.2.2.2.1, a.2.2.2.2⟩

/-- The number that stands in the answer, told by an equation. -/
theorem ret_int {k : IntKind} {a b : Int} (h : a = b) : Ending.returned (.int k a) = .returned (.int k b) := by rw [h]

theorem pointing_any (x y z u k : Int) (w : World) (h0 : 0 ≤ k) (h1 : k ≤ 63) (h2 : 1 ≤ u) (h3 : u ≤ 8) :
    Calls Try.prog 22 #[.agg #[.int .i64 x, .int .i64 y, .int .i64 z, .int .i64 u], .int .i64 k] w fun e w' => e = .returned (.int .i64 (k * u / 64)) ∧ Below w.heap.size w w' := by
  obtain ⟨m0, m1⟩ := mul_bd h0 h1 h2 h3
  go_enter Try.func22, Try.ntmps22
  go_wp2
  go_ret
  exact ⟨rfl, (Below.refl _ _).alloc (Nat.le_refl _) _⟩

theorem asked_any (x y z u k : Int) (w : World) (h0 : 0 ≤ k) (h1 : k ≤ 63) (h2 : 1 ≤ u) (h3 : u ≤ 8) :
    Calls Try.prog 21 #[.agg #[.int .i64 x, .int .i64 y, .int .i64 z, .int .i64 u], .int .i64 k] w fun e w' => e = .returned (.int .i64 (k * u / 64 - 1)) ∧ Below w.heap.size w w' := by
  obtain ⟨m0, m1⟩ := mul_bd h0 h1 h2 h3
  go_enter Try.func21, Try.ntmps21
  go_wp2_with fail
  refine (pointing_any _ _ _ _ _ _ (by omega) (by omega) (by omega) (by omega)).mono ?_
  rintro e w1 ⟨rfl, hb1⟩
  go_wp2
  go_ret
  exact ⟨rfl, ((Below.refl _ _).alloc (Nat.le_refl _) _).trans (hb1.mono (by simp))⟩

set_option maxHeartbeats 400000 in
theorem toldAsked_any (x y z u k : Int) (w : World) :
    Calls Try.prog 20 #[.agg #[.int .i64 x, .int .i64 y, .int .i64 z, .int .i64 u], .int .i64 k, .func (Fn.func 21) #[.agg #[.int .i64 x, .int .i64 y, .int .i64 z, .int .i64 u]] #[]] w fun e w' => e = .returned (.int .i64 (guideI x y z u k)) ∧ Below w.heap.size w w' := by
  cases h1 : planB x y z u
  · have hv : guideI x y z u k = -1 := guide_no (by simp [h1])
    go_enter Try.func20, Try.ntmps20
    go_wp2_with fail
    refine (right_any _ _ _ _ _).mono ?_
    rintro e w1 ⟨rfl, hb1⟩
    go_wp2
    go_ret
    exact ⟨by rw [hv]; rfl, ((Below.refl _ _).alloc (Nat.le_refl _) _).trans (hb1.mono (by simp))⟩
  · cases h2 : inB k 0 63
    · have hv : guideI x y z u k = -1 := guide_no (by simp [h2])
      go_enter Try.func20, Try.ntmps20
      go_wp2_with fail
      refine (right_any _ _ _ _ _).mono ?_
      rintro e w1 ⟨rfl, hb1⟩
      go_wp2_with (go_at_call 11; refine (keyOk_any _ _).mono ?_; rintro e w' ⟨rfl, rfl⟩)
      go_ret
      exact ⟨by rw [hv]; rfl, ((Below.refl _ _).alloc (Nat.le_refl _) _).trans (hb1.mono (by simp))⟩
    · obtain ⟨b0, b1, b2, b3⟩ := bounds_of h1 h2
      have Hv : Hid (guideI x y z u k = k * u / 64 - 1) := guide_yes h1 h2
      go_enter Try.func20, Try.ntmps20
      go_wp2_with fail
      refine (right_any _ _ _ _ _).mono ?_
      rintro e w1 ⟨rfl, hb1⟩
      have hz1 := hb1.size
      simp at hz1
      go_wp2_with (go_at_call 11; refine (keyOk_any _ _).mono ?_; rintro e w' ⟨rfl, rfl⟩)
      refine (asked_any _ _ _ _ _ _ (by omega) (by omega) (by omega) (by omega)).mono ?_
      rintro e w2 ⟨rfl, hb2⟩
      go_wp2
      go_ret
      exact ⟨by rw [Hv.out]; rfl, (((Below.refl _ _).alloc (Nat.le_refl _) _).trans (hb1.mono (by simp))).trans (hb2.mono (by omega))⟩

theorem guideOf_any (x y z u k : Int) (w : World) :
    Calls Try.prog 15 #[.agg #[.int .i64 x, .int .i64 y, .int .i64 z, .int .i64 u], .int .i64 k] w fun e w' => e = .returned (.int .i64 (guideI x y z u k)) ∧ Below w.heap.size w w' := by
  go_enter Try.func15, Try.ntmps15
  go_wp2_with fail
  refine (toldAsked_any _ _ _ _ _ _).mono ?_
  rintro e w1 ⟨rfl, hb1⟩
  go_wp2
  go_ret
  exact ⟨rfl, ((Below.refl _ _).alloc (Nat.le_refl _) _).trans (hb1.mono (by simp))⟩

set_option maxHeartbeats 400000 in
theorem specPointOf_any (x y z u k : Int) (w : World) :
    Calls Try.prog 19 #[.agg #[.int .i64 x, .int .i64 y, .int .i64 z, .int .i64 u], .int .i64 k] w fun e w' => e = .returned (.int .i64 (pointI x y z u k)) ∧ Below w.heap.size w w' := by
  have P0 := planAt_alloc w x y z u 25
  cases h1 : planB x y z u
  · have hv : pointI x y z u k = -1 := point_no (by simp [h1])
    go_enter Try.func19, Try.ntmps19
    go_wp2_with fail
    refine (specPlanOk_any _ _ _ _ _).mono ?_
    rintro e w1 ⟨rfl, hb1⟩
    go_wp2
    go_ret
    exact ⟨by rw [hv]; rfl, ((Below.refl _ _).alloc (Nat.le_refl _) _).trans (hb1.mono (by simp))⟩
  · cases h2 : inB k 0 63
    · have hv : pointI x y z u k = -1 := point_no (by simp [h2])
      go_enter Try.func19, Try.ntmps19
      go_wp2_with fail
      refine (specPlanOk_any _ _ _ _ _).mono ?_
      rintro e w1 ⟨rfl, hb1⟩
      go_wp2_with (go_at_call 10; refine (specKeyOk_any _ _).mono ?_; rintro e w' ⟨rfl, rfl⟩)
      go_ret
      exact ⟨by rw [hv]; rfl, ((Below.refl _ _).alloc (Nat.le_refl _) _).trans (hb1.mono (by simp))⟩
    · obtain ⟨b0, b1, b2, b3⟩ := bounds_of h1 h2
      obtain ⟨m0, m1⟩ := mul_bd b0 b1 b2 b3
      have Hv : Hid (pointI x y z u k = k * u / 64) := point_yes h1 h2
      go_enter Try.func19, Try.ntmps19
      go_wp2_with fail
      refine (specPlanOk_any _ _ _ _ _).mono ?_
      rintro e w1 ⟨rfl, hb1⟩
      have hz1 := hb1.size
      simp at hz1
      obtain ⟨c0, c1, c2, c3⟩ := P0.below hb1 (by simp)
      go_wp2_with (go_at_call 10; refine (specKeyOk_any _ _).mono ?_; rintro e w' ⟨rfl, rfl⟩)
      go_ret
      exact ⟨by rw [Hv.out]; rfl, ((Below.refl _ _).alloc (Nat.le_refl _) _).trans (hb1.mono (by simp))⟩

set_option maxHeartbeats 400000 in
theorem specGuideOf_any (x y z u k : Int) (w : World) :
    Calls Try.prog 14 #[.agg #[.int .i64 x, .int .i64 y, .int .i64 z, .int .i64 u], .int .i64 k] w fun e w' => e = .returned (.int .i64 (guideI x y z u k)) ∧ Below w.heap.size w w' := by
  have P0 := planAt_alloc w x y z u 25
  cases h1 : planB x y z u
  · have hv : guideI x y z u k = -1 := guide_no (by simp [h1])
    go_enter Try.func14, Try.ntmps14
    go_wp2_with fail
    refine (specPlanOk_any _ _ _ _ _).mono ?_
    rintro e w1 ⟨rfl, hb1⟩
    go_wp2
    go_ret
    exact ⟨by rw [hv]; rfl, ((Below.refl _ _).alloc (Nat.le_refl _) _).trans (hb1.mono (by simp))⟩
  · cases h2 : inB k 0 63
    · have hv : guideI x y z u k = -1 := guide_no (by simp [h2])
      go_enter Try.func14, Try.ntmps14
      go_wp2_with fail
      refine (specPlanOk_any _ _ _ _ _).mono ?_
      rintro e w1 ⟨rfl, hb1⟩
      go_wp2_with (go_at_call 10; refine (specKeyOk_any _ _).mono ?_; rintro e w' ⟨rfl, rfl⟩)
      go_ret
      exact ⟨by rw [hv]; rfl, ((Below.refl _ _).alloc (Nat.le_refl _) _).trans (hb1.mono (by simp))⟩
    · obtain ⟨b0, b1, b2, b3⟩ := bounds_of h1 h2
      obtain ⟨m0, m1⟩ := mul_bd b0 b1 b2 b3
      have Hv : Hid (guideI x y z u k = k * u / 64 - 1) := guide_yes h1 h2
      go_enter Try.func14, Try.ntmps14
      go_wp2_with fail
      refine (specPlanOk_any _ _ _ _ _).mono ?_
      rintro e w1 ⟨rfl, hb1⟩
      have hz1 := hb1.size
      simp at hz1
      obtain ⟨c0, c1, c2, c3⟩ := P0.below hb1 (by simp)
      go_wp2_with (go_at_call 10; refine (specKeyOk_any _ _).mono ?_; rintro e w' ⟨rfl, rfl⟩)
      refine (specPointOf_any _ _ _ _ _ _).mono ?_
      rintro e w2 ⟨rfl, hb2⟩
      rw [point_yes h1 h2]
      go_wp2
      go_ret
      exact ⟨by rw [Hv.out]; rfl, (((Below.refl _ _).alloc (Nat.le_refl _) _).trans (hb1.mono (by simp))).trans (hb2.mono (by omega))⟩

set_option maxHeartbeats 400000 in
theorem guideOf_walk (x y z u : Int) (wx : (Lit.int .i64 x).wf = true) (wy : (Lit.int .i64 y).wf = true) (wz : (Lit.int .i64 z).wf = true) (wu : (Lit.int .i64 u).wf = true) (k : Int) (wk : (Lit.int .i64 k).wf = true) (w : World) :
    Calls Try.prog 6 #[.agg #[.int .i64 x, .int .i64 y, .int .i64 z, .int .i64 u], .int .i64 k] w fun e w' => e = .returned (.bool true) ∧ Below w.heap.size w w' := by
  clear wx wy wz wu wk
  have P0 := planAt_alloc w x y z u 23
  go_enter Try.func6, Try.ntmps6
  go_wp2_with fail
  refine (toPlan_any _ _ _ _ _).mono ?_
  rintro e w1 ⟨rfl, hb1⟩
  have P1 := P0.below hb1 (by simp)
  have hz1 := hb1.size
  simp at hz1
  go_wp2_with fail
  refine (specGuideOf_any _ _ _ _ _ _).mono ?_
  rintro e w2 ⟨rfl, hb2⟩
  obtain ⟨c0, c1, c2, c3⟩ := P1.below hb2 (by omega)
  have hz2 := hb2.size
  go_wp2_with fail
  refine (toPlan_any _ _ _ _ _).mono ?_
  rintro e w3 ⟨rfl, hb3⟩
  have hz3 := hb3.size
  go_wp2_with fail
  refine (guideOf_any _ _ _ _ _ _).mono ?_
  rintro e w4 ⟨rfl, hb4⟩
  go_wp2
  go_ret
  refine ⟨rfl, ?_⟩
  have hb0 := (Below.refl w.heap.size w).alloc (Nat.le_refl _) (Obj.cells #[.int .i64 x, .int .i64 y, .int .i64 z, .int .i64 u] 23)
  exact (((hb0.trans (hb1.mono (by simp))).trans (hb2.mono (by omega))).trans (hb3.mono (by omega))).trans (hb4.mono (by omega))

set_option maxRecDepth 100000 in
theorem guideOf_lifted (os : Os) (started : os.Started) (H : Type) (enc : TypeId × Value → H) :
    ReturnsInHanded {} Try.checked os 6 .any (Rows.fnExactGuideOfSpec.pre6 enc Try.prog Try.f6 Rows.fnExactGuideOfRow.domain false) (Rows.fnExactGuideOfSpec.post enc Try.prog Try.f6 false true false false) := by
  refine returnsInHanded_of_change (C := Try.checked) own started (by kernel_rfl) Try.func6
    (ChangeSpec.witness6 (enc := enc) (C := Try.checked) false ⟨#[], #[.agg #[.int .i64 0, .int .i64 0, .int .i64 0, .int .i64 0], .int .i64 0], []⟩ 8 (by kernel_rfl) (by kernel_rfl) (by kernel_rfl) (by kernel_rfl)) ?_
  intro W base args ds gs before hval0 hW hcnd _
  have hval : ∀ (j : Nat) t v, Try.f6.params[j]? = some t → args[j]? = some v → Value.okWide Try.prog W .any base t v := hval0
  have hW' := hW
  obtain ⟨p, q, hA0, hV, rfl, hfz, hnd⟩ := hW
  have hA : DataW.TrodAll enc Try.prog W 0 (fun _ => true) true Try.f6.params.toList args.toList ds p := hA0
  rw [Try.params6] at hA hval
  obtain ⟨v0, vs0, d0, ds0, p0, q0, hargs, rfl, rfl, h0, r0⟩ := trodAll_cons hA
  obtain ⟨v1, vs1, d1, ds1, p1, q1, rfl, rfl, rfl, h1, r1⟩ := trodAll_cons r0
  obtain ⟨rfl, rfl, rfl⟩ := trodAll_nil r1
  obtain rfl : args = #[v0, v1] := by cases args; simp_all
  obtain ⟨rfl, rfl⟩ := trodVars_none hV
  have k0 := h0
  have lt0 : ∀ x ∈ p0, x.block < W.heap.size := by obtain ⟨m, hm⟩ := k0; exact DataW.trod_lt m _ _ _ hm
  obtain ⟨x0, y0, z0, u0, hv0, wx0, wy0, wz0, wu0⟩ := open_plan (hval 0 23 v0 rfl rfl) h0
  subst hv0
  have k1 := h1
  have lt1 : ∀ x ∈ p1, x.block < W.heap.size := by obtain ⟨m, hm⟩ := k1; exact DataW.trod_lt m _ _ _ hm
  obtain ⟨x1, hv1, wx1⟩ : ∃ x, v1 = .int .i64 x ∧ (Lit.int .i64 x).wf = true := by
    obtain ⟨x, e1, _, _, wx⟩ := open_int Try.underlying2 (hval 1 2 v1 rfl rfl) h1
    exact ⟨x, e1, wx⟩
  subst hv1
  clear hA0 hval0
  refine (guideOf_walk x0 y0 z0 u0 wx0 wy0 wz0 wu0 x1 wx1 W ).mono fun e W' ⟨he, bel⟩ => ?_
  subst he
  exact ⟨_, rfl, _, _, _, [], _, [], hW', trodAll_mk1 (shut_bool Try.underlying4 _), (trodAll_cons_mk (Below.trod laidOut (by kernel_rfl) (of_decide_eq_true (by kernel_rfl)) k0 bel lt0) (trodAll_cons_mk (Below.trod laidOut (by kernel_rfl) (of_decide_eq_true (by kernel_rfl)) k1 bel lt1) trodAll_mk0)), rfl, bel.frame _, fun h => by cases h⟩

/-- The given statement. -/
theorem guideOf_holds : Rows.FnExactGuideOfSaid :=
  OpenClaim.holds_of_wide 6 Try.f6 rfl rfl rfl rfl rfl rfl rfl ⟨rfl, rfl, rfl, rfl, rfl⟩ rfl rfl rfl rfl rfl (by kernel_rfl) Try.func6 (by kernel_rfl)
    (of_decide_eq_true (by kernel_rfl)) (by unfold Func.isWrapper; first | (rw [if_pos (by decide +kernel)]; kernel_rfl) | (rw [if_neg (by decide +kernel)]; exact ⟨rfl, rfl⟩))
    (fun os started H enc _ => guideOf_lifted os started H enc)
#print axioms guideOf_holds
end Go.Proofs.Ytpehbhembfopeaf
