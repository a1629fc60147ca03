/-
  WalkedTo and WentOn of the model (chapter 7), as contracts. For every plan and hand, and every arena of at most 1048576 elements.
-/
import Derived.Test.YtcgjkodpmloccaaWent
namespace Go.Proofs.Ytcgjkodpmloccaa
open Go.ChangeShapes Go.WideShapes Go.ChangeAt Go.RowKit
set_option linter.unusedVariables false
set_option linter.unusedSimpArgs false
attribute [local go_sem ↓] Go.wp_at_zero Go.wp_at_succ

set_option maxRecDepth 100000 in
set_option maxHeartbeats 4000000 in
theorem specWalkedTo_any (B : Nat) (A : Ar) (x y z u : Int) (h : Hd) (n : Int) (a0 a1 a2 a3 : Option Addr) (c0 c1 c2 c3 : Nat) (w : World) (hB : B ≤ w.heap.size) (hA : A.size ≤ 1048576) (I : ArenaIs B w (.slice a0 A.slots.length c0) (.slice a1 A.guides.length c1) (.slice a2 A.nodes.length c2) (.slice a3 A.vers.length c3) A) :
    Calls Try.prog 22 #[.agg #[.int .i64 x, .int .i64 y, .int .i64 z, .int .i64 u], .agg #[.int .i64 A.camera, .slice a0 A.slots.length c0, .slice a1 A.guides.length c1, .slice a2 A.nodes.length c2, .slice a3 A.vers.length c3], .agg (hdC h).toArray, .int .i64 n] w fun e w' => e = .returned (.tuple #[.agg (hdC (walkedToH x y z u A h n)).toArray, .bool (walkedToB x y z u A h n)]) ∧ Below w.heap.size w w' := by
  have hA' := hA
  unfold Ar.size at hA
  have P0 := World.rangeAt_alloc (World.rangeAt_alloc (World.rangeAt_alloc (rangeAt_new w [.int .i64 x, .int .i64 y, .int .i64 z, .int .i64 u] 30) (.cells #[.int .i64 A.camera, .slice a0 A.slots.length c0, .slice a1 A.guides.length c1, .slice a2 A.nodes.length c2, .slice a3 A.vers.length c3] 28)) (.cells (hdC h).toArray 38)) (.cells #[.int .i64 0, .int .i64 0, .int .i64 0, .int .i64 0, .int .i64 0, .int .i64 0, .int .i64 0, .int .i64 0, .int .i64 0, .int .i64 0, .int .i64 0, .int .i64 0, .int .i64 0, .int .i64 0, .int .i64 0, .int .i64 0, .int .i64 0, .int .i64 0, .int .i64 0, .int .i64 0, .int .i64 0, .int .i64 0] 38)
  have X0 := World.rangeAt_alloc (World.rangeAt_alloc (rangeAt_new (w.alloc (.cells #[.int .i64 x, .int .i64 y, .int .i64 z, .int .i64 u] 30)) [.int .i64 A.camera, .slice a0 A.slots.length c0, .slice a1 A.guides.length c1, .slice a2 A.nodes.length c2, .slice a3 A.vers.length c3] 28) (.cells (hdC h).toArray 38)) (.cells #[.int .i64 0, .int .i64 0, .int .i64 0, .int .i64 0, .int .i64 0, .int .i64 0, .int .i64 0, .int .i64 0, .int .i64 0, .int .i64 0, .int .i64 0, .int .i64 0, .int .i64 0, .int .i64 0, .int .i64 0, .int .i64 0, .int .i64 0, .int .i64 0, .int .i64 0, .int .i64 0, .int .i64 0, .int .i64 0] 38)
  have H0 := World.rangeAt_alloc (rangeAt_new ((w.alloc (.cells #[.int .i64 x, .int .i64 y, .int .i64 z, .int .i64 u] 30)).alloc (.cells #[.int .i64 A.camera, .slice a0 A.slots.length c0, .slice a1 A.guides.length c1, .slice a2 A.nodes.length c2, .slice a3 A.vers.length c3] 28)) (hdC h) 38) (.cells #[.int .i64 0, .int .i64 0, .int .i64 0, .int .i64 0, .int .i64 0, .int .i64 0, .int .i64 0, .int .i64 0, .int .i64 0, .int .i64 0, .int .i64 0, .int .i64 0, .int .i64 0, .int .i64 0, .int .i64 0, .int .i64 0, .int .i64 0, .int .i64 0, .int .i64 0, .int .i64 0, .int .i64 0, .int .i64 0] 38)
  have F0 := there_new (((w.alloc (.cells #[.int .i64 x, .int .i64 y, .int .i64 z, .int .i64 u] 30)).alloc (.cells #[.int .i64 A.camera, .slice a0 A.slots.length c0, .slice a1 A.guides.length c1, .slice a2 A.nodes.length c2, .slice a3 A.vers.length c3] 28)).alloc (.cells (hdC h).toArray 38)) #[.int .i64 0, .int .i64 0, .int .i64 0, .int .i64 0, .int .i64 0, .int .i64 0, .int .i64 0, .int .i64 0, .int .i64 0, .int .i64 0, .int .i64 0, .int .i64 0, .int .i64 0, .int .i64 0, .int .i64 0, .int .i64 0, .int .i64 0, .int .i64 0, .int .i64 0, .int .i64 0, .int .i64 0, .int .i64 0] 38 22 (by decide)
  have K0 := ((((Below.refl w.heap.size w).alloc (Nat.le_refl _) (.cells #[.int .i64 x, .int .i64 y, .int .i64 z, .int .i64 u] 30)).alloc (by simp) (.cells #[.int .i64 A.camera, .slice a0 A.slots.length c0, .slice a1 A.guides.length c1, .slice a2 A.nodes.length c2, .slice a3 A.vers.length c3] 28)).alloc (by simp; omega) (.cells (hdC h).toArray 38)).alloc (by simp; omega) (.cells #[.int .i64 0, .int .i64 0, .int .i64 0, .int .i64 0, .int .i64 0, .int .i64 0, .int .i64 0, .int .i64 0, .int .i64 0, .int .i64 0, .int .i64 0, .int .i64 0, .int .i64 0, .int .i64 0, .int .i64 0, .int .i64 0, .int .i64 0, .int .i64 0, .int .i64 0, .int .i64 0, .int .i64 0, .int .i64 0] 38)
  have hz0 : w.heap.size + 1 + 1 + 1 < ((((w.alloc (.cells #[.int .i64 x, .int .i64 y, .int .i64 z, .int .i64 u] 30)).alloc (.cells #[.int .i64 A.camera, .slice a0 A.slots.length c0, .slice a1 A.guides.length c1, .slice a2 A.nodes.length c2, .slice a3 A.vers.length c3] 28)).alloc (.cells (hdC h).toArray 38)).alloc (.cells #[.int .i64 0, .int .i64 0, .int .i64 0, .int .i64 0, .int .i64 0, .int .i64 0, .int .i64 0, .int .i64 0, .int .i64 0, .int .i64 0, .int .i64 0, .int .i64 0, .int .i64 0, .int .i64 0, .int .i64 0, .int .i64 0, .int .i64 0, .int .i64 0, .int .i64 0, .int .i64 0, .int .i64 0, .int .i64 0] 38)).heap.size := by simp
  simp only [World.size_alloc] at X0 H0 F0
  have I0 := I.below (K0.mono hB)
  go_enter Try.func22, Try.ntmps22
  go_wp2_with (refine wpList_load_mid rfl 38 (.tmp 6) rfl (w.heap.size + 1 + 1) 0 ?l1 (hdC h) _ ?l2 Try.underlying38 rfl (sizeHandL h) ?_)
  try (case l1 => rfl)
  try (case l2 => exact H0)
  change Calls Try.prog _ _ ((((w.alloc (.cells #[.int .i64 x, .int .i64 y, .int .i64 z, .int .i64 u] 30)).alloc (.cells #[.int .i64 A.camera, .slice a0 A.slots.length c0, .slice a1 A.guides.length c1, .slice a2 A.nodes.length c2, .slice a3 A.vers.length c3] 28)).alloc (.cells (hdC h).toArray 38)).alloc (.cells #[.int .i64 0, .int .i64 0, .int .i64 0, .int .i64 0, .int .i64 0, .int .i64 0, .int .i64 0, .int .i64 0, .int .i64 0, .int .i64 0, .int .i64 0, .int .i64 0, .int .i64 0, .int .i64 0, .int .i64 0, .int .i64 0, .int .i64 0, .int .i64 0, .int .i64 0, .int .i64 0, .int .i64 0, .int .i64 0] 38)) _
  generalize hw0 : (((w.alloc (.cells #[.int .i64 x, .int .i64 y, .int .i64 z, .int .i64 u] 30)).alloc (.cells #[.int .i64 A.camera, .slice a0 A.slots.length c0, .slice a1 A.guides.length c1, .slice a2 A.nodes.length c2, .slice a3 A.vers.length c3] 28)).alloc (.cells (hdC h).toArray 38)).alloc (.cells #[.int .i64 0, .int .i64 0, .int .i64 0, .int .i64 0, .int .i64 0, .int .i64 0, .int .i64 0, .int .i64 0, .int .i64 0, .int .i64 0, .int .i64 0, .int .i64 0, .int .i64 0, .int .i64 0, .int .i64 0, .int .i64 0, .int .i64 0, .int .i64 0, .int .i64 0, .int .i64 0, .int .i64 0, .int .i64 0] 38) = w0 at *
  clear hw0 I
  have hB0 : B ≤ w0.heap.size := Nat.le_trans hB K0.size
  refine (specFit_any B A x y z u 0 h 0 a0 a1 a2 a3 c0 c1 c2 c3 _ hB0 hA' I0).mono ?_
  rintro e w1 ⟨rfl, b0⟩
  have X1 := rangeAt_below X0 b0 (by omega)
  have H1 := rangeAt_below H0 b0 (by omega)
  have F1 := there_below F0 b0 (by omega)
  have K1 := K0.trans (b0.mono (by omega))
  have I1 := I0.below (b0.mono hB0)
  have hz1 := Nat.lt_of_lt_of_le hz0 b0.size
  have hB1 := Nat.le_trans hB0 b0.size
  clear X0 H0 F0 K0 I0 hz0 hB0 b0
  obtain ⟨x0, x1, x2, x3, x4⟩ := row5 X1
  cases ef : fitB x y z u A 0 h 0
  case false =>
    have hb : walkedToB x y z u A h n = false := by simp [walkedToB, ef]
    have hq : Hid (walkedToH x y z u A h n = zeroH ∧ walkedToB x y z u A h n = false) := ⟨by rw [walkedToH, hb]; rfl, hb⟩
    clear hb
    go_wp2_with (first | (refine wpList_store_mid rfl 38 (.tmp 8) (.tmp 25) rfl (w.heap.size + 1 + 1 + 1) 0 (hdC zeroH).toArray ?hxn99 ?hyn99 ?htn99 (sizeHand zeroH) (oneHand zeroH) ?_))
    try (case hxn99 => rfl)
    try (case hyn99 => rfl)
    case htn99 => exact F1
    refine bodyPost_ret (v := .tuple #[.agg (hdC zeroH).toArray, .bool false]) ?_ rfl ⟨by rw [hq.out.1, hq.out.2], ?_⟩
    · exact results_row_tmp Try.results22 _ _ (w.heap.size + 1 + 1 + 1) 0 rfl (hdC zeroH) _ (World.rangeAt_setCells_same _ _ _ _ F1) Try.underlying38 rfl (sizeHandL zeroH)
    · exact Below.setCells (by omega) _ _ _ K1
  have FI := fit_is ef
  by_cases e1 : n = -1
  case pos =>
    have bn : (n != -1) = false := by simp [e1]
    have en : inB n (-1) ((A.nodes.length : Int) - 1) = true := inB_yes (by omega) (by have := FI.x0; have := FI.x1; omega)
    have e1H : Hid (n = -1) := e1
    clear e1
    have hb : walkedToB x y z u A h n = true := by simp [walkedToB, ef, en]
    have hq : Hid (walkedToH x y z u A h n = walkH A h n ∧ walkedToB x y z u A h n = true) := ⟨by rw [walkedToH, hb]; rfl, hb⟩
    clear hb
    go_wp2_with (first | (refine wpList_load_mid rfl 38 (.tmp 6) rfl (w.heap.size + 1 + 1) 0 ?hxln100 (hdC h) _ ?hcn100 Try.underlying38 rfl (sizeHandL h) ?_))
    try (case hxln100 => rfl)
    case hcn100 => exact H1
    refine (l7Walk_any B A h n a0 a1 a2 a3 c0 c1 c2 c3 _ hB1 hA' I1).mono ?_
    rintro e w9 ⟨rfl, b9⟩
    have F9 := there_below F1 b9 (by omega)
    have K9 := K1.trans (b9.mono (by omega))
    go_wp2_with (refine wpList_store_mid rfl 38 (.tmp 8) (.tmp 29) rfl (w.heap.size + 1 + 1 + 1) 0 (hdC (walkH A h n)).toArray ?hxn100 ?hyn100 ?htn100 (sizeHand _) (oneHand _) ?_)
    try (case hxn100 => rfl)
    try (case hyn100 => rfl)
    case htn100 => exact F9
    refine bodyPost_ret (v := .tuple #[.agg (hdC (walkH A h n)).toArray, .bool true]) ?_ rfl ⟨by rw [hq.out.1, hq.out.2], ?_⟩
    · exact results_row_tmp Try.results22 _ _ (w.heap.size + 1 + 1 + 1) 0 rfl (hdC (walkH A h n)) _ (World.rangeAt_setCells_same _ _ _ _ F9) Try.underlying38 rfl (sizeHandL _)
    · exact Below.setCells (by omega) _ _ _ K9
  have bn : (n != -1) = true := by simp [e1]
  go_wp2_with fail
  refine (l2Node_any _ _ _ _ _ _ _ _ _ (by omega)).mono ?_
  clear x0 x1 x2 x3 x4
  rintro e w2 ⟨rfl, b1⟩
  have X2 := rangeAt_below X1 b1 (by omega)
  have H2 := rangeAt_below H1 b1 (by omega)
  have F2 := there_below F1 b1 (by omega)
  have K2 := K1.trans (b1.mono (by omega))
  have I2 := I1.below (b1.mono hB1)
  have hz2 := Nat.lt_of_lt_of_le hz1 b1.size
  have hB2 := Nat.le_trans hB1 b1.size
  clear X1 H1 F1 K1 I1 hz1 hB1 b1
  obtain ⟨x0, x1, x2, x3, x4⟩ := row5 X2
  have em : inB n (-1) ((A.nodes.length : Int) - 1) = inB n 0 ((A.nodes.length : Int) - 1) := by
    cases q : inB n 0 ((A.nodes.length : Int) - 1)
    · have : ¬ (0 ≤ n ∧ n ≤ (A.nodes.length : Int) - 1) := fun h => by rw [inB_yes h.1 h.2] at q; cases q
      exact inB_no (by omega)
    · obtain ⟨q1, q2⟩ := (inB_iff _ _ _).1 q
      exact inB_yes (by omega) q2
  cases en : inB n 0 ((A.nodes.length : Int) - 1)
  case false =>
    have hb : walkedToB x y z u A h n = false := by simp [walkedToB, ef, em, en]
    have hq : Hid (walkedToH x y z u A h n = zeroH ∧ walkedToB x y z u A h n = false) := ⟨by rw [walkedToH, hb]; rfl, hb⟩
    clear hb
    go_wp2_with (first | (refine wpList_store_mid rfl 38 (.tmp 8) (.tmp 25) rfl (w.heap.size + 1 + 1 + 1) 0 (hdC zeroH).toArray ?hxn101 ?hyn101 ?htn101 (sizeHand zeroH) (oneHand zeroH) ?_))
    try (case hxn101 => rfl)
    try (case hyn101 => rfl)
    case htn101 => exact F2
    refine bodyPost_ret (v := .tuple #[.agg (hdC zeroH).toArray, .bool false]) ?_ rfl ⟨by rw [hq.out.1, hq.out.2], ?_⟩
    · exact results_row_tmp Try.results22 _ _ (w.heap.size + 1 + 1 + 1) 0 rfl (hdC zeroH) _ (World.rangeAt_setCells_same _ _ _ _ F2) Try.underlying38 rfl (sizeHandL zeroH)
    · exact Below.setCells (by omega) _ _ _ K2
  have hb : walkedToB x y z u A h n = true := by simp [walkedToB, ef, em, en]
  have hq : Hid (walkedToH x y z u A h n = walkH A h n ∧ walkedToB x y z u A h n = true) := ⟨by rw [walkedToH, hb]; rfl, hb⟩
  clear hb
  go_wp2_with (first | (refine wpList_load_mid rfl 38 (.tmp 6) rfl (w.heap.size + 1 + 1) 0 ?hxln102 (hdC h) _ ?hcn102 Try.underlying38 rfl (sizeHandL h) ?_))
  try (case hxln102 => rfl)
  case hcn102 => exact H2
  refine (l7Walk_any B A h n a0 a1 a2 a3 c0 c1 c2 c3 _ hB2 hA' I2).mono ?_
  rintro e w9 ⟨rfl, b9⟩
  have F9 := there_below F2 b9 (by omega)
  have K9 := K2.trans (b9.mono (by omega))
  go_wp2_with (refine wpList_store_mid rfl 38 (.tmp 8) (.tmp 29) rfl (w.heap.size + 1 + 1 + 1) 0 (hdC (walkH A h n)).toArray ?hxn102 ?hyn102 ?htn102 (sizeHand _) (oneHand _) ?_)
  try (case hxn102 => rfl)
  try (case hyn102 => rfl)
  case htn102 => exact F9
  refine bodyPost_ret (v := .tuple #[.agg (hdC (walkH A h n)).toArray, .bool true]) ?_ rfl ⟨by rw [hq.out.1, hq.out.2], ?_⟩
  · exact results_row_tmp Try.results22 _ _ (w.heap.size + 1 + 1 + 1) 0 rfl (hdC (walkH A h n)) _ (World.rangeAt_setCells_same _ _ _ _ F9) Try.underlying38 rfl (sizeHandL _)
  · exact Below.setCells (by omega) _ _ _ K9
set_option maxRecDepth 100000 in
set_option maxHeartbeats 4000000 in
theorem specWentOn_any (B : Nat) (A : Ar) (x y z u : Int) (h : Hd) (a0 a1 a2 a3 : Option Addr) (c0 c1 c2 c3 : Nat) (w : World) (hB : B ≤ w.heap.size) (hA : A.size ≤ 1048576) (I : ArenaIs B w (.slice a0 A.slots.length c0) (.slice a1 A.guides.length c1) (.slice a2 A.nodes.length c2) (.slice a3 A.vers.length c3) A) :
    Calls Try.prog 25 #[.agg #[.int .i64 x, .int .i64 y, .int .i64 z, .int .i64 u], .agg #[.int .i64 A.camera, .slice a0 A.slots.length c0, .slice a1 A.guides.length c1, .slice a2 A.nodes.length c2, .slice a3 A.vers.length c3], .agg (hdC h).toArray] w fun e w' => e = .returned (.tuple #[.agg (hdC (wentOnH x y z u A h)).toArray, .bool (wentOnB x y z u A h)]) ∧ Below w.heap.size w w' := by
  have hA' := hA
  unfold Ar.size at hA
  have P0 := World.rangeAt_alloc (World.rangeAt_alloc (World.rangeAt_alloc (rangeAt_new w [.int .i64 x, .int .i64 y, .int .i64 z, .int .i64 u] 30) (.cells #[.int .i64 A.camera, .slice a0 A.slots.length c0, .slice a1 A.guides.length c1, .slice a2 A.nodes.length c2, .slice a3 A.vers.length c3] 28)) (.cells (hdC h).toArray 38)) (.cells #[.int .i64 0, .int .i64 0, .int .i64 0, .int .i64 0, .int .i64 0, .int .i64 0, .int .i64 0, .int .i64 0, .int .i64 0, .int .i64 0, .int .i64 0, .int .i64 0, .int .i64 0, .int .i64 0, .int .i64 0, .int .i64 0, .int .i64 0, .int .i64 0, .int .i64 0, .int .i64 0, .int .i64 0, .int .i64 0] 38)
  have X0 := World.rangeAt_alloc (World.rangeAt_alloc (rangeAt_new (w.alloc (.cells #[.int .i64 x, .int .i64 y, .int .i64 z, .int .i64 u] 30)) [.int .i64 A.camera, .slice a0 A.slots.length c0, .slice a1 A.guides.length c1, .slice a2 A.nodes.length c2, .slice a3 A.vers.length c3] 28) (.cells (hdC h).toArray 38)) (.cells #[.int .i64 0, .int .i64 0, .int .i64 0, .int .i64 0, .int .i64 0, .int .i64 0, .int .i64 0, .int .i64 0, .int .i64 0, .int .i64 0, .int .i64 0, .int .i64 0, .int .i64 0, .int .i64 0, .int .i64 0, .int .i64 0, .int .i64 0, .int .i64 0, .int .i64 0, .int .i64 0, .int .i64 0, .int .i64 0] 38)
  have H0 := World.rangeAt_alloc (rangeAt_new ((w.alloc (.cells #[.int .i64 x, .int .i64 y, .int .i64 z, .int .i64 u] 30)).alloc (.cells #[.int .i64 A.camera, .slice a0 A.slots.length c0, .slice a1 A.guides.length c1, .slice a2 A.nodes.length c2, .slice a3 A.vers.length c3] 28)) (hdC h) 38) (.cells #[.int .i64 0, .int .i64 0, .int .i64 0, .int .i64 0, .int .i64 0, .int .i64 0, .int .i64 0, .int .i64 0, .int .i64 0, .int .i64 0, .int .i64 0, .int .i64 0, .int .i64 0, .int .i64 0, .int .i64 0, .int .i64 0, .int .i64 0, .int .i64 0, .int .i64 0, .int .i64 0, .int .i64 0, .int .i64 0] 38)
  have F0 := there_new (((w.alloc (.cells #[.int .i64 x, .int .i64 y, .int .i64 z, .int .i64 u] 30)).alloc (.cells #[.int .i64 A.camera, .slice a0 A.slots.length c0, .slice a1 A.guides.length c1, .slice a2 A.nodes.length c2, .slice a3 A.vers.length c3] 28)).alloc (.cells (hdC h).toArray 38)) #[.int .i64 0, .int .i64 0, .int .i64 0, .int .i64 0, .int .i64 0, .int .i64 0, .int .i64 0, .int .i64 0, .int .i64 0, .int .i64 0, .int .i64 0, .int .i64 0, .int .i64 0, .int .i64 0, .int .i64 0, .int .i64 0, .int .i64 0, .int .i64 0, .int .i64 0, .int .i64 0, .int .i64 0, .int .i64 0] 38 22 (by decide)
  have K0 := ((((Below.refl w.heap.size w).alloc (Nat.le_refl _) (.cells #[.int .i64 x, .int .i64 y, .int .i64 z, .int .i64 u] 30)).alloc (by simp) (.cells #[.int .i64 A.camera, .slice a0 A.slots.length c0, .slice a1 A.guides.length c1, .slice a2 A.nodes.length c2, .slice a3 A.vers.length c3] 28)).alloc (by simp; omega) (.cells (hdC h).toArray 38)).alloc (by simp; omega) (.cells #[.int .i64 0, .int .i64 0, .int .i64 0, .int .i64 0, .int .i64 0, .int .i64 0, .int .i64 0, .int .i64 0, .int .i64 0, .int .i64 0, .int .i64 0, .int .i64 0, .int .i64 0, .int .i64 0, .int .i64 0, .int .i64 0, .int .i64 0, .int .i64 0, .int .i64 0, .int .i64 0, .int .i64 0, .int .i64 0] 38)
  have hz0 : w.heap.size + 1 + 1 + 1 < ((((w.alloc (.cells #[.int .i64 x, .int .i64 y, .int .i64 z, .int .i64 u] 30)).alloc (.cells #[.int .i64 A.camera, .slice a0 A.slots.length c0, .slice a1 A.guides.length c1, .slice a2 A.nodes.length c2, .slice a3 A.vers.length c3] 28)).alloc (.cells (hdC h).toArray 38)).alloc (.cells #[.int .i64 0, .int .i64 0, .int .i64 0, .int .i64 0, .int .i64 0, .int .i64 0, .int .i64 0, .int .i64 0, .int .i64 0, .int .i64 0, .int .i64 0, .int .i64 0, .int .i64 0, .int .i64 0, .int .i64 0, .int .i64 0, .int .i64 0, .int .i64 0, .int .i64 0, .int .i64 0, .int .i64 0, .int .i64 0] 38)).heap.size := by simp
  simp only [World.size_alloc] at X0 H0 F0
  have I0 := I.below (K0.mono hB)
  go_enter Try.func25, Try.ntmps25
  go_wp2_with (refine wpList_load_mid rfl 38 (.tmp 5) rfl (w.heap.size + 1 + 1) 0 ?l1 (hdC h) _ ?l2 Try.underlying38 rfl (sizeHandL h) ?_)
  try (case l1 => rfl)
  try (case l2 => exact H0)
  change Calls Try.prog _ _ ((((w.alloc (.cells #[.int .i64 x, .int .i64 y, .int .i64 z, .int .i64 u] 30)).alloc (.cells #[.int .i64 A.camera, .slice a0 A.slots.length c0, .slice a1 A.guides.length c1, .slice a2 A.nodes.length c2, .slice a3 A.vers.length c3] 28)).alloc (.cells (hdC h).toArray 38)).alloc (.cells #[.int .i64 0, .int .i64 0, .int .i64 0, .int .i64 0, .int .i64 0, .int .i64 0, .int .i64 0, .int .i64 0, .int .i64 0, .int .i64 0, .int .i64 0, .int .i64 0, .int .i64 0, .int .i64 0, .int .i64 0, .int .i64 0, .int .i64 0, .int .i64 0, .int .i64 0, .int .i64 0, .int .i64 0, .int .i64 0] 38)) _
  generalize hw0 : (((w.alloc (.cells #[.int .i64 x, .int .i64 y, .int .i64 z, .int .i64 u] 30)).alloc (.cells #[.int .i64 A.camera, .slice a0 A.slots.length c0, .slice a1 A.guides.length c1, .slice a2 A.nodes.length c2, .slice a3 A.vers.length c3] 28)).alloc (.cells (hdC h).toArray 38)).alloc (.cells #[.int .i64 0, .int .i64 0, .int .i64 0, .int .i64 0, .int .i64 0, .int .i64 0, .int .i64 0, .int .i64 0, .int .i64 0, .int .i64 0, .int .i64 0, .int .i64 0, .int .i64 0, .int .i64 0, .int .i64 0, .int .i64 0, .int .i64 0, .int .i64 0, .int .i64 0, .int .i64 0, .int .i64 0, .int .i64 0] 38) = w0 at *
  clear hw0 I
  have hB0 : B ≤ w0.heap.size := Nat.le_trans hB K0.size
  refine (specFit_any B A x y z u 0 h 0 a0 a1 a2 a3 c0 c1 c2 c3 _ hB0 hA' I0).mono ?_
  rintro e w1 ⟨rfl, b0⟩
  have X1 := rangeAt_below X0 b0 (by omega)
  have H1 := rangeAt_below H0 b0 (by omega)
  have F1 := there_below F0 b0 (by omega)
  have K1 := K0.trans (b0.mono (by omega))
  have I1 := I0.below (b0.mono hB0)
  have hz1 := Nat.lt_of_lt_of_le hz0 b0.size
  have hB1 := Nat.le_trans hB0 b0.size
  clear X0 H0 F0 K0 I0 hz0 hB0 b0
  obtain ⟨x0, x1, x2, x3, x4⟩ := row5 X1
  have q11 : w1.cell? ⟨w.heap.size + 1 + 1, 11, none⟩ = some (.int .i64 h.ver) := by simpa using H1 11 (.int .i64 h.ver) rfl
  cases ef : fitB x y z u A 0 h 0
  case false =>
    have hb : wentOnB x y z u A h = false := by simp [wentOnB, ef]
    have hq : Hid (wentOnH x y z u A h = zeroH ∧ wentOnB x y z u A h = false) := ⟨by rw [wentOnH, hb]; rfl, hb⟩
    clear hb
    go_wp2_with (first | (refine wpList_store_mid rfl 38 (.tmp 6) (.tmp 20) rfl (w.heap.size + 1 + 1 + 1) 0 (hdC zeroH).toArray ?hxn103 ?hyn103 ?htn103 (sizeHand zeroH) (oneHand zeroH) ?_))
    try (case hxn103 => rfl)
    try (case hyn103 => rfl)
    case htn103 => exact F1
    refine bodyPost_ret (v := .tuple #[.agg (hdC zeroH).toArray, .bool false]) ?_ rfl ⟨by rw [hq.out.1, hq.out.2], ?_⟩
    · exact results_row_tmp Try.results25 _ _ (w.heap.size + 1 + 1 + 1) 0 rfl (hdC zeroH) _ (World.rangeAt_setCells_same _ _ _ _ F1) Try.underlying38 rfl (sizeHandL zeroH)
    · exact Below.setCells (by omega) _ _ _ K1
  have FI := fit_is ef
  go_wp2_with fail
  refine (specStamped_any B A h.ver a0 a1 a2 a3 c0 c1 c2 c3 _ hB1 hA' I1).mono ?_
  clear x0 x1 x2 x3 x4 q11
  rintro e w2 ⟨rfl, b1⟩
  have X2 := rangeAt_below X1 b1 (by omega)
  have H2 := rangeAt_below H1 b1 (by omega)
  have F2 := there_below F1 b1 (by omega)
  have K2 := K1.trans (b1.mono (by omega))
  have I2 := I1.below (b1.mono hB1)
  have hz2 := Nat.lt_of_lt_of_le hz1 b1.size
  have hB2 := Nat.le_trans hB1 b1.size
  clear X1 H1 F1 K1 I1 hz1 hB1 b1
  obtain ⟨x0, x1, x2, x3, x4⟩ := row5 X2
  cases es : stampedB A h.ver
  case false =>
    have hb : wentOnB x y z u A h = false := by simp [wentOnB, ef, es]
    have hq : Hid (wentOnH x y z u A h = zeroH ∧ wentOnB x y z u A h = false) := ⟨by rw [wentOnH, hb]; rfl, hb⟩
    clear hb
    go_wp2_with (first | (refine wpList_store_mid rfl 38 (.tmp 6) (.tmp 20) rfl (w.heap.size + 1 + 1 + 1) 0 (hdC zeroH).toArray ?hxn104 ?hyn104 ?htn104 (sizeHand zeroH) (oneHand zeroH) ?_))
    try (case hxn104 => rfl)
    try (case hyn104 => rfl)
    case htn104 => exact F2
    refine bodyPost_ret (v := .tuple #[.agg (hdC zeroH).toArray, .bool false]) ?_ rfl ⟨by rw [hq.out.1, hq.out.2], ?_⟩
    · exact results_row_tmp Try.results25 _ _ (w.heap.size + 1 + 1 + 1) 0 rfl (hdC zeroH) _ (World.rangeAt_setCells_same _ _ _ _ F2) Try.underlying38 rfl (sizeHandL zeroH)
    · exact Below.setCells (by omega) _ _ _ K2
  have hb : wentOnB x y z u A h = true := by simp [wentOnB, ef, es]
  have hq : Hid (wentOnH x y z u A h = onH A h ∧ wentOnB x y z u A h = true) := ⟨by rw [wentOnH, hb]; rfl, hb⟩
  clear hb
  go_wp2_with (first | (refine wpList_load_mid rfl 38 (.tmp 5) rfl (w.heap.size + 1 + 1) 0 ?hxln105 (hdC h) _ ?hcn105 Try.underlying38 rfl (sizeHandL h) ?_))
  try (case hxln105 => rfl)
  case hcn105 => exact H2
  refine (l7On_any B A h a0 a1 a2 a3 c0 c1 c2 c3 _ hB2 hA' I2 x y z u FI.ok FI.v0 FI.v1 FI.x0 FI.x1 FI.c1 FI.o0 FI.o1 FI.s0 FI.s1).mono ?_
  rintro e w9 ⟨rfl, b9⟩
  have F9 := there_below F2 b9 (by omega)
  have K9 := K2.trans (b9.mono (by omega))
  go_wp2_with (refine wpList_store_mid rfl 38 (.tmp 6) (.tmp 23) rfl (w.heap.size + 1 + 1 + 1) 0 (hdC (onH A h)).toArray ?hxn105 ?hyn105 ?htn105 (sizeHand _) (oneHand _) ?_)
  try (case hxn105 => rfl)
  try (case hyn105 => rfl)
  case htn105 => exact F9
  refine bodyPost_ret (v := .tuple #[.agg (hdC (onH A h)).toArray, .bool true]) ?_ rfl ⟨by rw [hq.out.1, hq.out.2], ?_⟩
  · exact results_row_tmp Try.results25 _ _ (w.heap.size + 1 + 1 + 1) 0 rfl (hdC (onH A h)) _ (World.rangeAt_setCells_same _ _ _ _ F9) Try.underlying38 rfl (sizeHandL _)
  · exact Below.setCells (by omega) _ _ _ K9

end Go.Proofs.Ytcgjkodpmloccaa
