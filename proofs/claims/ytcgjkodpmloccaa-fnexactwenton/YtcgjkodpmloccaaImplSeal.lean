/-
  What the program says of stamping (chapter 7), first part: what is found, and walking, as contracts. For every arena of at most 1048576 elements and every hand whose nodes there are.
-/
import Derived.Test.YtcgjkodpmloccaaImplHand
import Derived.Test.YtcgjkodpmloccaaSpecSeal
namespace Go.Proofs.Ytcgjkodpmloccaa
open Go.ChangeShapes Go.WideShapes Go.ChangeAt Go.RowKit
set_option linter.unusedVariables false
set_option linter.unusedSimpArgs false
attribute [local go_sem ↓] Go.wp_at_zero Go.wp_at_succ

/-- A hand that is turned to a state. -/
def turnH (h : Hd) (n : Int) : Hd := { h with at_ := n }

set_option maxRecDepth 100000 in
set_option maxHeartbeats 4000000 in
theorem turnedTo_any (h : Hd) (n : Int) (w : World)  :
    Calls Try.prog 91 #[.agg (hdC h).toArray, .int .i64 n] w fun e w' => e = .returned (.agg (hdC (turnH h n)).toArray) ∧ Below w.heap.size w w' := by
  have H0 := World.rangeAt_alloc (rangeAt_new w (hdC h) 38) (.cells #[.int .i64 0, .int .i64 0, .int .i64 0, .int .i64 0, .int .i64 0, .int .i64 0, .int .i64 0, .int .i64 0, .int .i64 0, .int .i64 0, .int .i64 0, .int .i64 0, .int .i64 0, .int .i64 0, .int .i64 0, .int .i64 0, .int .i64 0, .int .i64 0, .int .i64 0, .int .i64 0, .int .i64 0, .int .i64 0] 38)
  have G0 := World.there_alloc (there_new w (hdC h).toArray 38 22 (by simp [hdC])) (.cells #[.int .i64 0, .int .i64 0, .int .i64 0, .int .i64 0, .int .i64 0, .int .i64 0, .int .i64 0, .int .i64 0, .int .i64 0, .int .i64 0, .int .i64 0, .int .i64 0, .int .i64 0, .int .i64 0, .int .i64 0, .int .i64 0, .int .i64 0, .int .i64 0, .int .i64 0, .int .i64 0, .int .i64 0, .int .i64 0] 38)
  have F0 := there_new (w.alloc (.cells (hdC h).toArray 38)) #[.int .i64 0, .int .i64 0, .int .i64 0, .int .i64 0, .int .i64 0, .int .i64 0, .int .i64 0, .int .i64 0, .int .i64 0, .int .i64 0, .int .i64 0, .int .i64 0, .int .i64 0, .int .i64 0, .int .i64 0, .int .i64 0, .int .i64 0, .int .i64 0, .int .i64 0, .int .i64 0, .int .i64 0, .int .i64 0] 38 22 (by decide)
  have K0 := (((Below.refl w.heap.size w).alloc (Nat.le_refl _) (.cells (hdC h).toArray 38)).alloc (by simp) (.cells #[.int .i64 0, .int .i64 0, .int .i64 0, .int .i64 0, .int .i64 0, .int .i64 0, .int .i64 0, .int .i64 0, .int .i64 0, .int .i64 0, .int .i64 0, .int .i64 0, .int .i64 0, .int .i64 0, .int .i64 0, .int .i64 0, .int .i64 0, .int .i64 0, .int .i64 0, .int .i64 0, .int .i64 0, .int .i64 0] 38))
  have hz0 : w.heap.size + 1 < ((w.alloc (.cells (hdC h).toArray 38)).alloc (.cells #[.int .i64 0, .int .i64 0, .int .i64 0, .int .i64 0, .int .i64 0, .int .i64 0, .int .i64 0, .int .i64 0, .int .i64 0, .int .i64 0, .int .i64 0, .int .i64 0, .int .i64 0, .int .i64 0, .int .i64 0, .int .i64 0, .int .i64 0, .int .i64 0, .int .i64 0, .int .i64 0, .int .i64 0, .int .i64 0] 38)).heap.size := by simp
  simp only [World.size_alloc] at F0
  go_enter Try.func91, Try.ntmps91
  have tok : True := trivial
  go_wp2_with (clear tok; refine stopAt ((w.alloc (.cells (hdC h).toArray 38)).alloc (.cells #[.int .i64 0, .int .i64 0, .int .i64 0, .int .i64 0, .int .i64 0, .int .i64 0, .int .i64 0, .int .i64 0, .int .i64 0, .int .i64 0, .int .i64 0, .int .i64 0, .int .i64 0, .int .i64 0, .int .i64 0, .int .i64 0, .int .i64 0, .int .i64 0, .int .i64 0, .int .i64 0, .int .i64 0, .int .i64 0] 38)) ?_)
  generalize hw0 : (w.alloc (.cells (hdC h).toArray 38)).alloc (.cells #[.int .i64 0, .int .i64 0, .int .i64 0, .int .i64 0, .int .i64 0, .int .i64 0, .int .i64 0, .int .i64 0, .int .i64 0, .int .i64 0, .int .i64 0, .int .i64 0, .int .i64 0, .int .i64 0, .int .i64 0, .int .i64 0, .int .i64 0, .int .i64 0, .int .i64 0, .int .i64 0, .int .i64 0, .int .i64 0] 38) = w0 at *
  clear hw0
  show wpList _ _ _ _ _ w0
  have q0 : w0.cell? ⟨w.heap.size, 0, none⟩ = some (.int .i64 h.at_) := by simpa using H0 0 (.int .i64 h.at_) rfl
  have f0 : w0.frozen? ⟨w.heap.size, 0, none⟩ = false := by simpa using (G0 0 (by decide)).2
  obtain ⟨H', hH⟩ : ∃ H' : Hd, Hid (H' = { h with at_ := n }) := by exact ⟨_, rfl⟩
  have hv : Hid (turnH h n = H') := by show _ = _; rw [hH.out]; rfl
  go_wp2_with (first | (refine wpList_load_mid rfl 38 (.tmp 2) rfl (w.heap.size) 0 ?hxln19 (hdC H') _ ?hcn19 Try.underlying38 rfl (sizeHandL H') ?_) | (refine wpList_store_mid rfl 38 (.tmp 4) _ rfl (w.heap.size + 1) 0 (hdC H').toArray ?hxn19 ?hyn19 ?htn19 (sizeHand _) (oneHand _) ?_))
  try (case hxln19 => rfl)
  case hcn19 => rw [hH.out]; exact (rangeAt_set H0 0 (by simp [hdC]) _)
  try (case hxn19 => rfl)
  try (case hyn19 => rfl)
  case htn19 => exact (there_setCell F0 _ _)
  refine bodyPost_ret (v := .agg (hdC H').toArray) ?_ rfl ⟨by rw [hv.out], ?_⟩
  · exact results_row Try.results91 _ _ (w.heap.size + 1) 0 rfl (hdC H') _ (World.rangeAt_setCells_same _ _ _ _ (there_setCell F0 _ _)) Try.underlying38 rfl (sizeHandL _)
  · exact Below.setCells (by omega) _ _ _ (Below.setCell K0 (p := ⟨w.heap.size, 0, none⟩) (by show w.heap.size ≤ w.heap.size; omega) _)

end Go.Proofs.Ytcgjkodpmloccaa
