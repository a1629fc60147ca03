/-
  WalkedTo and WentOn of the program (chapter 7), as contracts. For every plan and hand, and every arena of at most 1048576 elements.
-/
import Derived.Test.YtcgjkodpmloccaaWent
import Derived.Test.YtcgjkodpmloccaaImplFit
import Derived.Test.YtcgjkodpmloccaaImplGone
namespace Go.Proofs.Ytcgjkodpmloccaa
open Go.ChangeShapes Go.WideShapes Go.ChangeAt Go.RowKit
set_option linter.unusedVariables false
set_option linter.unusedSimpArgs false
attribute [local go_sem ↓] Go.wp_at_zero Go.wp_at_succ

set_option maxRecDepth 100000 in
set_option maxHeartbeats 4000000 in
theorem walkedTo_any (B : Nat) (A : Ar) (x y z u : Int) (h : Hd) (n : Int) (a0 a1 a2 a3 : Option Addr) (c0 c1 c2 c3 : Nat) (w : World) (hB : B ≤ w.heap.size) (hA : A.size ≤ 1048576) (I : ArenaIs B w (.slice a0 A.slots.length c0) (.slice a1 A.guides.length c1) (.slice a2 A.nodes.length c2) (.slice a3 A.vers.length c3) A) :
    Calls Try.prog 24 #[.agg #[.int .i64 x, .int .i64 y, .int .i64 z, .int .i64 u], .agg #[.int .i64 A.camera, .slice a0 A.slots.length c0, .slice a1 A.guides.length c1, .slice a2 A.nodes.length c2, .slice a3 A.vers.length c3], .agg (hdC h).toArray, .int .i64 n] w fun e w' => e = .returned (.tuple #[.agg (hdC (walkedToH x y z u A h n)).toArray, .bool (walkedToB x y z u A h n)]) ∧ Below w.heap.size w w' := by
  have hA' := hA
  unfold Ar.size at hA
  have P0 := World.rangeAt_alloc (World.rangeAt_alloc (World.rangeAt_alloc (rangeAt_new w [.int .i64 x, .int .i64 y, .int .i64 z, .int .i64 u] 30) (.cells #[.int .i64 A.camera, .slice a0 A.slots.length c0, .slice a1 A.guides.length c1, .slice a2 A.nodes.length c2, .slice a3 A.vers.length c3] 28)) (.cells (hdC h).toArray 38)) (.cells #[.int .i64 0, .int .i64 0, .int .i64 0, .int .i64 0, .int .i64 0, .int .i64 0, .int .i64 0, .int .i64 0, .int .i64 0, .int .i64 0, .int .i64 0, .int .i64 0, .int .i64 0, .int .i64 0, .int .i64 0, .int .i64 0, .int .i64 0, .int .i64 0, .int .i64 0, .int .i64 0, .int .i64 0, .int .i64 0] 38)
  have X0 := World.rangeAt_alloc (World.rangeAt_alloc (rangeAt_new (w.alloc (.cells #[.int .i64 x, .int .i64 y, .int .i64 z, .int .i64 u] 30)) [.int .i64 A.camera, .slice a0 A.slots.length c0, .slice a1 A.guides.length c1, .slice a2 A.nodes.length c2, .slice a3 A.vers.length c3] 28) (.cells (hdC h).toArray 38)) (.cells #[.int .i64 0, .int .i64 0, .int .i64 0, .int .i64 0, .int .i64 0, .int .i64 0, .int .i64 0, .int .i64 0, .int .i64 0, .int .i64 0, .int .i64 0, .int .i64 0, .int .i64 0, .int .i64 0, .int .i64 0, .int .i64 0, .int .i64 0, .int .i64 0, .int .i64 0, .int .i64 0, .int .i64 0, .int .i64 0] 38)
  have H0 := World.rangeAt_alloc (rangeAt_new ((w.alloc (.cells #[.int .i64 x, .int .i64 y, .int .i64 z, .int .i64 u] 30)).alloc (.cells #[.int .i64 A.camera, .slice a0 A.slots.length c0, .slice a1 A.guides.length c1, .slice a2 A.nodes.length c2, .slice a3 A.vers.length c3] 28)) (hdC h) 38) (.cells #[.int .i64 0, .int .i64 0, .int .i64 0, .int .i64 0, .int .i64 0, .int .i64 0, .int .i64 0, .int .i64 0, .int .i64 0, .int .i64 0, .int .i64 0, .int .i64 0, .int .i64 0, .int .i64 0, .int .i64 0, .int .i64 0, .int .i64 0, .int .i64 0, .int .i64 0, .int .i64 0, .int .i64 0, .int .i64 0] 38)
  have F0 := there_new (((w.alloc (.cells #[.int .i64 x, .int .i64 y, .int .i64 z, .int .i64 u] 30)).alloc (.cells #[.int .i64 A.camera, .slice a0 A.slots.length c0, .slice a1 A.guides.length c1, .slice a2 A.nodes.length c2, .slice a3 A.vers.length c3] 28)).alloc (.cells (hdC h).toArray 38)) #[.int .i64 0, .int .i64 0, .int .i64 0, .int .i64 0, .int .i64 0, .int .i64 0, .int .i64 0, .int .i64 0, .int .i64 0, .int .i64 0, .int .i64 0, .int .i64 0, .int .i64 0, .int .i64 0, .int .i64 0, .int .i64 0, .int .i64 0, .int .i64 0, .int .i64 0, .int .i64 0, .int .i64 0, .int .i64 0] 38 22 (by decide)
  have K0 := ((((Below.refl w.heap.size w).alloc (Nat.le_refl _) (.cells #[.int .i64 x, .int .i64 y, .int .i64 z, .int .i64 u] 30)).alloc (by simp) (.cells #[.int .i64 A.camera, .slice a0 A.slots.length c0, .slice a1 A.guides.length c1, .slice a2 A.nodes.length c2, .slice a3 A.vers.length c3] 28)).alloc (by simp; omega) (.cells (hdC h).toArray 38)).alloc (by simp; omega) (.cells #[.int .i64 0, .int .i64 0, .int .i64 0, .int .i64 0, .int .i64 0, .int .i64 0, .int .i64 0, .int .i64 0, .int .i64 0, .int .i64 0, .int .i64 0, .int .i64 0, .int .i64 0, .int .i64 0, .int .i64 0, .int .i64 0, .int .i64 0, .int .i64 0, .int .i64 0, .int .i64 0, .int .i64 0, .int .i64 0] 38)
  have hz0 : w.heap.size + 1 + 1 + 1 < ((((w.alloc (.cells #[.int .i64 x, .int .i64 y, .int .i64 z, .int .i64 u] 30)).alloc (.cells #[.int .i64 A.camera, .slice a0 A.slots.length c0, .slice a1 A.guides.length c1, .slice a2 A.nodes.length c2, .slice a3 A.vers.length c3] 28)).alloc (.cells (hdC h).toArray 38)).alloc (.cells #[.int .i64 0, .int .i64 0, .int .i64 0, .int .i64 0, .int .i64 0, .int .i64 0, .int .i64 0, .int .i64 0, .int .i64 0, .int .i64 0, .int .i64 0, .int .i64 0, .int .i64 0, .int .i64 0, .int .i64 0, .int .i64 0, .int .i64 0, .int .i64 0, .int .i64 0, .int .i64 0, .int .i64 0, .int .i64 0] 38)).heap.size := by simp
  simp only [World.size_alloc] at X0 H0 F0
  have I0 := I.below (K0.mono hB)
  go_enter Try.func24, Try.ntmps24
  go_wp2_with (refine wpList_load_mid rfl 38 (.tmp 6) rfl (w.heap.size + 1 + 1) 0 ?l1 (hdC h) _ ?l2 Try.underlying38 rfl (sizeHandL h) ?_)
  try (case l1 => rfl)
  try (case l2 => exact H0)
  change Calls Try.prog _ _ ((((w.alloc (.cells #[.int .i64 x, .int .i64 y, .int .i64 z, .int .i64 u] 30)).alloc (.cells #[.int .i64 A.camera, .slice a0 A.slots.length c0, .slice a1 A.guides.length c1, .slice a2 A.nodes.length c2, .slice a3 A.vers.length c3] 28)).alloc (.cells (hdC h).toArray 38)).alloc (.cells #[.int .i64 0, .int .i64 0, .int .i64 0, .int .i64 0, .int .i64 0, .int .i64 0, .int .i64 0, .int .i64 0, .int .i64 0, .int .i64 0, .int .i64 0, .int .i64 0, .int .i64 0, .int .i64 0, .int .i64 0, .int .i64 0, .int .i64 0, .int .i64 0, .int .i64 0, .int .i64 0, .int .i64 0, .int .i64 0] 38)) _
  generalize hw0 : (((w.alloc (.cells #[.int .i64 x, .int .i64 y, .int .i64 z, .int .i64 u] 30)).alloc (.cells #[.int .i64 A.camera, .slice a0 A.slots.length c0, .slice a1 A.guides.length c1, .slice a2 A.nodes.length c2, .slice a3 A.vers.length c3] 28)).alloc (.cells (hdC h).toArray 38)).alloc (.cells #[.int .i64 0, .int .i64 0, .int .i64 0, .int .i64 0, .int .i64 0, .int .i64 0, .int .i64 0, .int .i64 0, .int .i64 0, .int .i64 0, .int .i64 0, .int .i64 0, .int .i64 0, .int .i64 0, .int .i64 0, .int .i64 0, .int .i64 0, .int .i64 0, .int .i64 0, .int .i64 0, .int .i64 0, .int .i64 0] 38) = w0 at *
  clear hw0 I
  have hB0 : B ≤ w0.heap.size := Nat.le_trans hB K0.size
  refine (fit_any B A x y z u 0 h 0 a0 a1 a2 a3 c0 c1 c2 c3 _ hB0 hA' I0).mono ?_
  rintro e w1 ⟨rfl, b0⟩
  have X1 := rangeAt_below X0 b0 (by omega)
  have H1 := rangeAt_below H0 b0 (by omega)
  have F1 := there_below F0 b0 (by omega)
  have K1 := K0.trans (b0.mono (by omega))
  have I1 := I0.below (b0.mono hB0)
  have hz1 := Nat.lt_of_lt_of_le hz0 b0.size
  have hB1 := Nat.le_trans hB0 b0.size
  clear X0 H0 F0 K0 I0 hz0 hB0 b0
  obtain ⟨x0, x1, x2, x3, x4⟩ := row5 X1
  cases ef : fitB x y z u A 0 h 0
  case false =>
    have hb : walkedToB x y z u A h n = false := by simp [walkedToB, ef]
    have hq : Hid (walkedToH x y z u A h n = zeroH ∧ walkedToB x y z u A h n = false) := ⟨by rw [walkedToH, hb]; rfl, hb⟩
    clear hb
    go_wp2_with (first | (refine wpList_store_mid rfl 38 (.tmp 8) (.tmp 24) rfl (w.heap.size + 1 + 1 + 1) 0 (hdC zeroH).toArray ?hxn106 ?hyn106 ?htn106 (sizeHand zeroH) (oneHand zeroH) ?_))
    try (case hxn106 => rfl)
    try (case hyn106 => rfl)
    case htn106 => exact F1
    refine bodyPost_ret (v := .tuple #[.agg (hdC zeroH).toArray, .bool false]) ?_ rfl ⟨by rw [hq.out.1, hq.out.2], ?_⟩
    · exact results_row_tmp Try.results24 _ _ (w.heap.size + 1 + 1 + 1) 0 rfl (hdC zeroH) _ (World.rangeAt_setCells_same _ _ _ _ F1) Try.underlying38 rfl (sizeHandL zeroH)
    · exact Below.setCells (by omega) _ _ _ K1
  have FI := fit_is ef
  cases en : inB n (-1) ((A.nodes.length : Int) - 1)
  case false =>
    have hb : walkedToB x y z u A h n = false := by simp [walkedToB, ef, en]
    have hq : Hid (walkedToH x y z u A h n = zeroH ∧ walkedToB x y z u A h n = false) := ⟨by rw [walkedToH, hb]; rfl, hb⟩
    clear hb
    go_wp2_with (first | (go_at_call 64; refine (within_any _ _ _ _).mono ?_; rintro e w' ⟨rfl, hw⟩; obtain rfl := hw.symm) | (refine wpList_store_mid rfl 38 (.tmp 8) (.tmp 24) rfl (w.heap.size + 1 + 1 + 1) 0 (hdC zeroH).toArray ?hxn107 ?hyn107 ?htn107 (sizeHand zeroH) (oneHand zeroH) ?_))
    try (case hxn107 => rfl)
    try (case hyn107 => rfl)
    case htn107 => exact F1
    refine bodyPost_ret (v := .tuple #[.agg (hdC zeroH).toArray, .bool false]) ?_ rfl ⟨by rw [hq.out.1, hq.out.2], ?_⟩
    · exact results_row_tmp Try.results24 _ _ (w.heap.size + 1 + 1 + 1) 0 rfl (hdC zeroH) _ (World.rangeAt_setCells_same _ _ _ _ F1) Try.underlying38 rfl (sizeHandL zeroH)
    · exact Below.setCells (by omega) _ _ _ K1
  have hb : walkedToB x y z u A h n = true := by simp [walkedToB, ef, en]
  have hq : Hid (walkedToH x y z u A h n = walkH A h n ∧ walkedToB x y z u A h n = true) := ⟨by rw [walkedToH, hb]; rfl, hb⟩
  clear hb
  go_wp2_with (first | (go_at_call 64; refine (within_any _ _ _ _).mono ?_; rintro e w' ⟨rfl, hw⟩; obtain rfl := hw.symm) | (refine wpList_load_mid rfl 38 (.tmp 6) rfl (w.heap.size + 1 + 1) 0 ?hxln108 (hdC h) _ ?hcn108 Try.underlying38 rfl (sizeHandL h) ?_))
  try (case hxln108 => rfl)
  case hcn108 => exact H1
  refine (walked_any B A h n a0 a1 a2 a3 c0 c1 c2 c3 _ hB1 hA' I1 FI.n0).mono ?_
  rintro e w9 ⟨rfl, b9⟩
  have F9 := there_below F1 b9 (by omega)
  have K9 := K1.trans (b9.mono (by omega))
  go_wp2_with (refine wpList_store_mid rfl 38 (.tmp 8) (.tmp 28) rfl (w.heap.size + 1 + 1 + 1) 0 (hdC (walkH A h n)).toArray ?hxn108 ?hyn108 ?htn108 (sizeHand _) (oneHand _) ?_)
  try (case hxn108 => rfl)
  try (case hyn108 => rfl)
  case htn108 => exact F9
  refine bodyPost_ret (v := .tuple #[.agg (hdC (walkH A h n)).toArray, .bool true]) ?_ rfl ⟨by rw [hq.out.1, hq.out.2], ?_⟩
  · exact results_row_tmp Try.results24 _ _ (w.heap.size + 1 + 1 + 1) 0 rfl (hdC (walkH A h n)) _ (World.rangeAt_setCells_same _ _ _ _ F9) Try.underlying38 rfl (sizeHandL _)
  · exact Below.setCells (by omega) _ _ _ K9
set_option maxRecDepth 100000 in
set_option maxHeartbeats 4000000 in
theorem wentOn_any (B : Nat) (A : Ar) (x y z u : Int) (h : Hd) (a0 a1 a2 a3 : Option Addr) (c0 c1 c2 c3 : Nat) (w : World) (hB : B ≤ w.heap.size) (hA : A.size ≤ 1048576) (I : ArenaIs B w (.slice a0 A.slots.length c0) (.slice a1 A.guides.length c1) (.slice a2 A.nodes.length c2) (.slice a3 A.vers.length c3) A) :
    Calls Try.prog 26 #[.agg #[.int .i64 x, .int .i64 y, .int .i64 z, .int .i64 u], .agg #[.int .i64 A.camera, .slice a0 A.slots.length c0, .slice a1 A.guides.length c1, .slice a2 A.nodes.length c2, .slice a3 A.vers.length c3], .agg (hdC h).toArray] w fun e w' => e = .returned (.tuple #[.agg (hdC (wentOnH x y z u A h)).toArray, .bool (wentOnB x y z u A h)]) ∧ Below w.heap.size w w' := by
  have hA' := hA
  unfold Ar.size at hA
  have P0 := World.rangeAt_alloc (World.rangeAt_alloc (World.rangeAt_alloc (rangeAt_new w [.int .i64 x, .int .i64 y, .int .i64 z, .int .i64 u] 30) (.cells #[.int .i64 A.camera, .slice a0 A.slots.length c0, .slice a1 A.guides.length c1, .slice a2 A.nodes.length c2, .slice a3 A.vers.length c3] 28)) (.cells (hdC h).toArray 38)) (.cells #[.int .i64 0, .int .i64 0, .int .i64 0, .int .i64 0, .int .i64 0, .int .i64 0, .int .i64 0, .int .i64 0, .int .i64 0, .int .i64 0, .int .i64 0, .int .i64 0, .int .i64 0, .int .i64 0, .int .i64 0, .int .i64 0, .int .i64 0, .int .i64 0, .int .i64 0, .int .i64 0, .int .i64 0, .int .i64 0] 38)
  have X0 := World.rangeAt_alloc (World.rangeAt_alloc (rangeAt_new (w.alloc (.cells #[.int .i64 x, .int .i64 y, .int .i64 z, .int .i64 u] 30)) [.int .i64 A.camera, .slice a0 A.slots.length c0, .slice a1 A.guides.length c1, .slice a2 A.nodes.length c2, .slice a3 A.vers.length c3] 28) (.cells (hdC h).toArray 38)) (.cells #[.int .i64 0, .int .i64 0, .int .i64 0, .int .i64 0, .int .i64 0, .int .i64 0, .int .i64 0, .int .i64 0, .int .i64 0, .int .i64 0, .int .i64 0, .int .i64 0, .int .i64 0, .int .i64 0, .int .i64 0, .int .i64 0, .int .i64 0, .int .i64 0, .int .i64 0, .int .i64 0, .int .i64 0, .int .i64 0] 38)
  have H0 := World.rangeAt_alloc (rangeAt_new ((w.alloc (.cells #[.int .i64 x, .int .i64 y, .int .i64 z, .int .i64 u] 30)).alloc (.cells #[.int .i64 A.camera, .slice a0 A.slots.length c0, .slice a1 A.guides.length c1, .slice a2 A.nodes.length c2, .slice a3 A.vers.length c3] 28)) (hdC h) 38) (.cells #[.int .i64 0, .int .i64 0, .int .i64 0, .int .i64 0, .int .i64 0, .int .i64 0, .int .i64 0, .int .i64 0, .int .i64 0, .int .i64 0, .int .i64 0, .int .i64 0, .int .i64 0, .int .i64 0, .int .i64 0, .int .i64 0, .int .i64 0, .int .i64 0, .int .i64 0, .int .i64 0, .int .i64 0, .int .i64 0] 38)
  have F0 := there_new (((w.alloc (.cells #[.int .i64 x, .int .i64 y, .int .i64 z, .int .i64 u] 30)).alloc (.cells #[.int .i64 A.camera, .slice a0 A.slots.length c0, .slice a1 A.guides.length c1, .slice a2 A.nodes.length c2, .slice a3 A.vers.length c3] 28)).alloc (.cells (hdC h).toArray 38)) #[.int .i64 0, .int .i64 0, .int .i64 0, .int .i64 0, .int .i64 0, .int .i64 0, .int .i64 0, .int .i64 0, .int .i64 0, .int .i64 0, .int .i64 0, .int .i64 0, .int .i64 0, .int .i64 0, .int .i64 0, .int .i64 0, .int .i64 0, .int .i64 0, .int .i64 0, .int .i64 0, .int .i64 0, .int .i64 0] 38 22 (by decide)
  have K0 := ((((Below.refl w.heap.size w).alloc (Nat.le_refl _) (.cells #[.int .i64 x, .int .i64 y, .int .i64 z, .int .i64 u] 30)).alloc (by simp) (.cells #[.int .i64 A.camera, .slice a0 A.slots.length c0, .slice a1 A.guides.length c1, .slice a2 A.nodes.length c2, .slice a3 A.vers.length c3] 28)).alloc (by simp; omega) (.cells (hdC h).toArray 38)).alloc (by simp; omega) (.cells #[.int .i64 0, .int .i64 0, .int .i64 0, .int .i64 0, .int .i64 0, .int .i64 0, .int .i64 0, .int .i64 0, .int .i64 0, .int .i64 0, .int .i64 0, .int .i64 0, .int .i64 0, .int .i64 0, .int .i64 0, .int .i64 0, .int .i64 0, .int .i64 0, .int .i64 0, .int .i64 0, .int .i64 0, .int .i64 0] 38)
  have hz0 : w.heap.size + 1 + 1 + 1 < ((((w.alloc (.cells #[.int .i64 x, .int .i64 y, .int .i64 z, .int .i64 u] 30)).alloc (.cells #[.int .i64 A.camera, .slice a0 A.slots.length c0, .slice a1 A.guides.length c1, .slice a2 A.nodes.length c2, .slice a3 A.vers.length c3] 28)).alloc (.cells (hdC h).toArray 38)).alloc (.cells #[.int .i64 0, .int .i64 0, .int .i64 0, .int .i64 0, .int .i64 0, .int .i64 0, .int .i64 0, .int .i64 0, .int .i64 0, .int .i64 0, .int .i64 0, .int .i64 0, .int .i64 0, .int .i64 0, .int .i64 0, .int .i64 0, .int .i64 0, .int .i64 0, .int .i64 0, .int .i64 0, .int .i64 0, .int .i64 0] 38)).heap.size := by simp
  simp only [World.size_alloc] at X0 H0 F0
  have I0 := I.below (K0.mono hB)
  go_enter Try.func26, Try.ntmps26
  go_wp2_with (refine wpList_load_mid rfl 38 (.tmp 5) rfl (w.heap.size + 1 + 1) 0 ?l1 (hdC h) _ ?l2 Try.underlying38 rfl (sizeHandL h) ?_)
  try (case l1 => rfl)
  try (case l2 => exact H0)
  change Calls Try.prog _ _ ((((w.alloc (.cells #[.int .i64 x, .int .i64 y, .int .i64 z, .int .i64 u] 30)).alloc (.cells #[.int .i64 A.camera, .slice a0 A.slots.length c0, .slice a1 A.guides.length c1, .slice a2 A.nodes.length c2, .slice a3 A.vers.length c3] 28)).alloc (.cells (hdC h).toArray 38)).alloc (.cells #[.int .i64 0, .int .i64 0, .int .i64 0, .int .i64 0, .int .i64 0, .int .i64 0, .int .i64 0, .int .i64 0, .int .i64 0, .int .i64 0, .int .i64 0, .int .i64 0, .int .i64 0, .int .i64 0, .int .i64 0, .int .i64 0, .int .i64 0, .int .i64 0, .int .i64 0, .int .i64 0, .int .i64 0, .int .i64 0] 38)) _
  generalize hw0 : (((w.alloc (.cells #[.int .i64 x, .int .i64 y, .int .i64 z, .int .i64 u] 30)).alloc (.cells #[.int .i64 A.camera, .slice a0 A.slots.length c0, .slice a1 A.guides.length c1, .slice a2 A.nodes.length c2, .slice a3 A.vers.length c3] 28)).alloc (.cells (hdC h).toArray 38)).alloc (.cells #[.int .i64 0, .int .i64 0, .int .i64 0, .int .i64 0, .int .i64 0, .int .i64 0, .int .i64 0, .int .i64 0, .int .i64 0, .int .i64 0, .int .i64 0, .int .i64 0, .int .i64 0, .int .i64 0, .int .i64 0, .int .i64 0, .int .i64 0, .int .i64 0, .int .i64 0, .int .i64 0, .int .i64 0, .int .i64 0] 38) = w0 at *
  clear hw0 I
  have hB0 : B ≤ w0.heap.size := Nat.le_trans hB K0.size
  refine (fit_any B A x y z u 0 h 0 a0 a1 a2 a3 c0 c1 c2 c3 _ hB0 hA' I0).mono ?_
  rintro e w1 ⟨rfl, b0⟩
  have X1 := rangeAt_below X0 b0 (by omega)
  have H1 := rangeAt_below H0 b0 (by omega)
  have F1 := there_below F0 b0 (by omega)
  have K1 := K0.trans (b0.mono (by omega))
  have I1 := I0.below (b0.mono hB0)
  have hz1 := Nat.lt_of_lt_of_le hz0 b0.size
  have hB1 := Nat.le_trans hB0 b0.size
  clear X0 H0 F0 K0 I0 hz0 hB0 b0
  obtain ⟨x0, x1, x2, x3, x4⟩ := row5 X1
  have q11 : w1.cell? ⟨w.heap.size + 1 + 1, 11, none⟩ = some (.int .i64 h.ver) := by simpa using H1 11 (.int .i64 h.ver) rfl
  cases ef : fitB x y z u A 0 h 0
  case false =>
    have hb : wentOnB x y z u A h = false := by simp [wentOnB, ef]
    have hq : Hid (wentOnH x y z u A h = zeroH ∧ wentOnB x y z u A h = false) := ⟨by rw [wentOnH, hb]; rfl, hb⟩
    clear hb
    go_wp2_with (first | (refine wpList_store_mid rfl 38 (.tmp 6) (.tmp 20) rfl (w.heap.size + 1 + 1 + 1) 0 (hdC zeroH).toArray ?hxn109 ?hyn109 ?htn109 (sizeHand zeroH) (oneHand zeroH) ?_))
    try (case hxn109 => rfl)
    try (case hyn109 => rfl)
    case htn109 => exact F1
    refine bodyPost_ret (v := .tuple #[.agg (hdC zeroH).toArray, .bool false]) ?_ rfl ⟨by rw [hq.out.1, hq.out.2], ?_⟩
    · exact results_row_tmp Try.results26 _ _ (w.heap.size + 1 + 1 + 1) 0 rfl (hdC zeroH) _ (World.rangeAt_setCells_same _ _ _ _ F1) Try.underlying38 rfl (sizeHandL zeroH)
    · exact Below.setCells (by omega) _ _ _ K1
  have FI := fit_is ef
  go_wp2_with fail
  refine (stamped_any B A h.ver a0 a1 a2 a3 c0 c1 c2 c3 _ hB1 hA' I1).mono ?_
  clear x0 x1 x2 x3 x4 q11
  rintro e w2 ⟨rfl, b1⟩
  have X2 := rangeAt_below X1 b1 (by omega)
  have H2 := rangeAt_below H1 b1 (by omega)
  have F2 := there_below F1 b1 (by omega)
  have K2 := K1.trans (b1.mono (by omega))
  have I2 := I1.below (b1.mono hB1)
  have hz2 := Nat.lt_of_lt_of_le hz1 b1.size
  have hB2 := Nat.le_trans hB1 b1.size
  clear X1 H1 F1 K1 I1 hz1 hB1 b1
  obtain ⟨x0, x1, x2, x3, x4⟩ := row5 X2
  cases es : stampedB A h.ver
  case false =>
    have hb : wentOnB x y z u A h = false := by simp [wentOnB, ef, es]
    have hq : Hid (wentOnH x y z u A h = zeroH ∧ wentOnB x y z u A h = false) := ⟨by rw [wentOnH, hb]; rfl, hb⟩
    clear hb
    go_wp2_with (first | (refine wpList_store_mid rfl 38 (.tmp 6) (.tmp 20) rfl (w.heap.size + 1 + 1 + 1) 0 (hdC zeroH).toArray ?hxn110 ?hyn110 ?htn110 (sizeHand zeroH) (oneHand zeroH) ?_))
    try (case hxn110 => rfl)
    try (case hyn110 => rfl)
    case htn110 => exact F2
    refine bodyPost_ret (v := .tuple #[.agg (hdC zeroH).toArray, .bool false]) ?_ rfl ⟨by rw [hq.out.1, hq.out.2], ?_⟩
    · exact results_row_tmp Try.results26 _ _ (w.heap.size + 1 + 1 + 1) 0 rfl (hdC zeroH) _ (World.rangeAt_setCells_same _ _ _ _ F2) Try.underlying38 rfl (sizeHandL zeroH)
    · exact Below.setCells (by omega) _ _ _ K2
  have hb : wentOnB x y z u A h = true := by simp [wentOnB, ef, es]
  have hq : Hid (wentOnH x y z u A h = onH A h ∧ wentOnB x y z u A h = true) := ⟨by rw [wentOnH, hb]; rfl, hb⟩
  clear hb
  go_wp2_with (first | (refine wpList_load_mid rfl 38 (.tmp 5) rfl (w.heap.size + 1 + 1) 0 ?hxln111 (hdC h) _ ?hcn111 Try.underlying38 rfl (sizeHandL h) ?_))
  try (case hxln111 => rfl)
  case hcn111 => exact H2
  refine (goneOn_any B A h a0 a1 a2 a3 c0 c1 c2 c3 _ hB2 hA' I2 x y z u FI.ok FI.v0 FI.v1 FI.x0 FI.x1 FI.c0 FI.c1 FI.n0 FI.o0 FI.o1 FI.s0 FI.s1 FI.t0 FI.t1).mono ?_
  rintro e w9 ⟨rfl, b9⟩
  have F9 := there_below F2 b9 (by omega)
  have K9 := K2.trans (b9.mono (by omega))
  go_wp2_with (refine wpList_store_mid rfl 38 (.tmp 6) (.tmp 23) rfl (w.heap.size + 1 + 1 + 1) 0 (hdC (onH A h)).toArray ?hxn111 ?hyn111 ?htn111 (sizeHand _) (oneHand _) ?_)
  try (case hxn111 => rfl)
  try (case hyn111 => rfl)
  case htn111 => exact F9
  refine bodyPost_ret (v := .tuple #[.agg (hdC (onH A h)).toArray, .bool true]) ?_ rfl ⟨by rw [hq.out.1, hq.out.2], ?_⟩
  · exact results_row_tmp Try.results26 _ _ (w.heap.size + 1 + 1 + 1) 0 rfl (hdC (onH A h)) _ (World.rangeAt_setCells_same _ _ _ _ F9) Try.underlying38 rfl (sizeHandL _)
  · exact Below.setCells (by omega) _ _ _ K9

end Go.Proofs.Ytcgjkodpmloccaa
