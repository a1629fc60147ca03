/-
  Walking (chapter 7 of the program), as a contract. For every arena of at most 1048576 elements and every hand whose nodes there are.
-/
import Derived.Test.YtcgjkodpmloccaaImplFound
namespace Go.Proofs.Ytcgjkodpmloccaa
open Go.ChangeShapes Go.WideShapes Go.ChangeAt Go.RowKit
set_option linter.unusedVariables false
set_option linter.unusedSimpArgs false
attribute [local go_sem ↓] Go.wp_at_zero Go.wp_at_succ

set_option maxRecDepth 100000 in
set_option maxHeartbeats 4000000 in
theorem walked_any (B : Nat) (A : Ar) (h : Hd) (n : Int) (a0 a1 a2 a3 : Option Addr) (c0 c1 c2 c3 : Nat) (w : World) (hB : B ≤ w.heap.size) (hA : A.size ≤ 1048576) (I : ArenaIs B w (.slice a0 A.slots.length c0) (.slice a1 A.guides.length c1) (.slice a2 A.nodes.length c2) (.slice a3 A.vers.length c3) A) (hn0 : -1 ≤ h.new_) :
    Calls Try.prog 65 #[.agg #[.int .i64 A.camera, .slice a0 A.slots.length c0, .slice a1 A.guides.length c1, .slice a2 A.nodes.length c2, .slice a3 A.vers.length c3], .agg (hdC h).toArray, .int .i64 n] w fun e w' => e = .returned (.agg (hdC (walkH A h n)).toArray) ∧ Below w.heap.size w w' := by
  have hA' := hA
  unfold Ar.size at hA
  have X0 := World.rangeAt_alloc (World.rangeAt_alloc (rangeAt_new w [.int .i64 A.camera, .slice a0 A.slots.length c0, .slice a1 A.guides.length c1, .slice a2 A.nodes.length c2, .slice a3 A.vers.length c3] 28) (.cells (hdC h).toArray 38)) (.cells #[.int .i64 0, .int .i64 0, .int .i64 0, .int .i64 0, .int .i64 0, .int .i64 0, .int .i64 0, .int .i64 0, .int .i64 0, .int .i64 0, .int .i64 0, .int .i64 0, .int .i64 0, .int .i64 0, .int .i64 0, .int .i64 0, .int .i64 0, .int .i64 0, .int .i64 0, .int .i64 0, .int .i64 0, .int .i64 0] 38)
  have H0 := World.rangeAt_alloc (rangeAt_new (w.alloc (.cells #[.int .i64 A.camera, .slice a0 A.slots.length c0, .slice a1 A.guides.length c1, .slice a2 A.nodes.length c2, .slice a3 A.vers.length c3] 28)) (hdC h) 38) (.cells #[.int .i64 0, .int .i64 0, .int .i64 0, .int .i64 0, .int .i64 0, .int .i64 0, .int .i64 0, .int .i64 0, .int .i64 0, .int .i64 0, .int .i64 0, .int .i64 0, .int .i64 0, .int .i64 0, .int .i64 0, .int .i64 0, .int .i64 0, .int .i64 0, .int .i64 0, .int .i64 0, .int .i64 0, .int .i64 0] 38)
  have G0 := World.there_alloc (there_new (w.alloc (.cells #[.int .i64 A.camera, .slice a0 A.slots.length c0, .slice a1 A.guides.length c1, .slice a2 A.nodes.length c2, .slice a3 A.vers.length c3] 28)) (hdC h).toArray 38 22 (by simp [hdC])) (.cells #[.int .i64 0, .int .i64 0, .int .i64 0, .int .i64 0, .int .i64 0, .int .i64 0, .int .i64 0, .int .i64 0, .int .i64 0, .int .i64 0, .int .i64 0, .int .i64 0, .int .i64 0, .int .i64 0, .int .i64 0, .int .i64 0, .int .i64 0, .int .i64 0, .int .i64 0, .int .i64 0, .int .i64 0, .int .i64 0] 38)
  have F0 := there_new ((w.alloc (.cells #[.int .i64 A.camera, .slice a0 A.slots.length c0, .slice a1 A.guides.length c1, .slice a2 A.nodes.length c2, .slice a3 A.vers.length c3] 28)).alloc (.cells (hdC h).toArray 38)) #[.int .i64 0, .int .i64 0, .int .i64 0, .int .i64 0, .int .i64 0, .int .i64 0, .int .i64 0, .int .i64 0, .int .i64 0, .int .i64 0, .int .i64 0, .int .i64 0, .int .i64 0, .int .i64 0, .int .i64 0, .int .i64 0, .int .i64 0, .int .i64 0, .int .i64 0, .int .i64 0, .int .i64 0, .int .i64 0] 38 22 (by decide)
  have K0 := ((((Below.refl w.heap.size w).alloc (Nat.le_refl _) (.cells #[.int .i64 A.camera, .slice a0 A.slots.length c0, .slice a1 A.guides.length c1, .slice a2 A.nodes.length c2, .slice a3 A.vers.length c3] 28)).alloc (by simp) (.cells (hdC h).toArray 38)).alloc (by simp <;> omega) (.cells #[.int .i64 0, .int .i64 0, .int .i64 0, .int .i64 0, .int .i64 0, .int .i64 0, .int .i64 0, .int .i64 0, .int .i64 0, .int .i64 0, .int .i64 0, .int .i64 0, .int .i64 0, .int .i64 0, .int .i64 0, .int .i64 0, .int .i64 0, .int .i64 0, .int .i64 0, .int .i64 0, .int .i64 0, .int .i64 0] 38))
  have hz0 : w.heap.size + 1 + 1 < (((w.alloc (.cells #[.int .i64 A.camera, .slice a0 A.slots.length c0, .slice a1 A.guides.length c1, .slice a2 A.nodes.length c2, .slice a3 A.vers.length c3] 28)).alloc (.cells (hdC h).toArray 38)).alloc (.cells #[.int .i64 0, .int .i64 0, .int .i64 0, .int .i64 0, .int .i64 0, .int .i64 0, .int .i64 0, .int .i64 0, .int .i64 0, .int .i64 0, .int .i64 0, .int .i64 0, .int .i64 0, .int .i64 0, .int .i64 0, .int .i64 0, .int .i64 0, .int .i64 0, .int .i64 0, .int .i64 0, .int .i64 0, .int .i64 0] 38)).heap.size := by simp
  simp only [World.size_alloc] at H0 G0 F0
  have I0 := I.below (K0.mono hB)
  go_enter Try.func65, Try.ntmps65
  have tok : True := trivial
  go_wp2_with (clear tok; refine stopAt (((w.alloc (.cells #[.int .i64 A.camera, .slice a0 A.slots.length c0, .slice a1 A.guides.length c1, .slice a2 A.nodes.length c2, .slice a3 A.vers.length c3] 28)).alloc (.cells (hdC h).toArray 38)).alloc (.cells #[.int .i64 0, .int .i64 0, .int .i64 0, .int .i64 0, .int .i64 0, .int .i64 0, .int .i64 0, .int .i64 0, .int .i64 0, .int .i64 0, .int .i64 0, .int .i64 0, .int .i64 0, .int .i64 0, .int .i64 0, .int .i64 0, .int .i64 0, .int .i64 0, .int .i64 0, .int .i64 0, .int .i64 0, .int .i64 0] 38)) ?_)
  generalize hw0 : ((w.alloc (.cells #[.int .i64 A.camera, .slice a0 A.slots.length c0, .slice a1 A.guides.length c1, .slice a2 A.nodes.length c2, .slice a3 A.vers.length c3] 28)).alloc (.cells (hdC h).toArray 38)).alloc (.cells #[.int .i64 0, .int .i64 0, .int .i64 0, .int .i64 0, .int .i64 0, .int .i64 0, .int .i64 0, .int .i64 0, .int .i64 0, .int .i64 0, .int .i64 0, .int .i64 0, .int .i64 0, .int .i64 0, .int .i64 0, .int .i64 0, .int .i64 0, .int .i64 0, .int .i64 0, .int .i64 0, .int .i64 0, .int .i64 0] 38) = w0 at *
  clear hw0 I
  show wpList _ _ _ _ _ w0
  obtain ⟨x0, x1, x2, x3, x4⟩ := row5 X0
  have q1 : w0.cell? ⟨w.heap.size + 1, 1, none⟩ = some (.int .i64 h.then_) := by simpa using H0 1 (.int .i64 h.then_) rfl
  have q10 : w0.cell? ⟨w.heap.size + 1, 10, none⟩ = some (.int .i64 h.x_) := by simpa using H0 10 (.int .i64 h.x_) rfl
  have q16 : w0.cell? ⟨w.heap.size + 1, 16, none⟩ = some (.int .i64 h.curr) := by simpa using H0 16 (.int .i64 h.curr) rfl
  have f1 : w0.frozen? ⟨w.heap.size + 1, 1, none⟩ = false := by simpa using (G0 1 (by decide)).2
  have f10 : w0.frozen? ⟨w.heap.size + 1, 10, none⟩ = false := by simpa using (G0 10 (by decide)).2
  have f16 : w0.frozen? ⟨w.heap.size + 1, 16, none⟩ = false := by simpa using (G0 16 (by decide)).2
  by_cases hn : n = -1
  · subst hn
    obtain ⟨H', hH⟩ : ∃ H' : Hd, Hid (H' = { h with curr := -1 }) := by exact ⟨_, rfl⟩
    have hv : Hid (walkH A h (-1) = foundH A H') := by show _ = _; rw [hH.out]; simp [walkH]
    go_wp2_with (first | (refine wpList_load_mid rfl 38 (.tmp 4) rfl (w.heap.size + 1) 0 ?hxln36 (hdC H') _ ?hcn36 Try.underlying38 rfl (sizeHandL H') ?_))
    try (case hxln36 => rfl)
    case hcn36 => rw [hH.out]; exact (rangeAt_set H0 16 (by simp [hdC]) _)
    refine (found_any B A H' _ _ _ _ _ _ _ _ _ (by first | omega | (simp; omega)) hA' (I0.below (Below.setCell (Below.refl B w0) (p := ⟨w.heap.size + 1, 16, none⟩) (by show B ≤ w.heap.size + 1; omega) _)) (by rw [hH.out]; show (-1 : Int) ≤ -1; omega) (by rw [hH.out]; show (-1 : Int) < _; omega) (by rw [hH.out]; exact hn0)).mono ?_
    rintro e w9 ⟨rfl, b9⟩
    have F9 := there_below (there_setCell F0 _ _) b9 (by first | omega | (simp; omega))
    have K9 := (Below.setCell K0 (p := ⟨w.heap.size + 1, 16, none⟩) (by show w.heap.size ≤ w.heap.size + 1; omega) _).trans (b9.mono (by first | omega | (simp; omega)))
    go_wp2_with (refine wpList_store_mid rfl 38 (.tmp 6) _ rfl (w.heap.size + 1 + 1) 0 (hdC (foundH A H')).toArray ?hxn36 ?hyn36 ?htn36 (sizeHand _) (oneHand _) ?_)
    try (case hxn36 => rfl)
    try (case hyn36 => rfl)
    case htn36 => exact F9
    refine bodyPost_ret (v := .agg (hdC (foundH A H')).toArray) ?_ rfl ⟨by rw [hv.out], ?_⟩
    · exact results_row Try.results65 _ _ (w.heap.size + 1 + 1) 0 rfl (hdC (foundH A H')) _ (World.rangeAt_setCells_same _ _ _ _ F9) Try.underlying38 rfl (sizeHandL _)
    · exact Below.setCells (by omega) _ _ _ K9
  have bn : (n == -1) = false := by simp [hn]
  obtain ⟨H', hH⟩ : ∃ H' : Hd, Hid (H' = { h with curr := n, x_ := n, then_ := 2 }) := by exact ⟨_, rfl⟩
  have hv : Hid (walkH A h n = turnH H' 2) := by show _ = _; rw [hH.out]; simp [walkH, turnH, hn]
  go_wp2_with (first | (refine wpList_load_mid rfl 38 (.tmp 4) rfl (w.heap.size + 1) 0 ?hxln37 (hdC H') _ ?hcn37 Try.underlying38 rfl (sizeHandL H') ?_))
  try (case hxln37 => rfl)
  case hcn37 => rw [hH.out]; exact (rangeAt_set (rangeAt_set (rangeAt_set H0 16 (by simp [hdC]) _) 10 (by simp [hdC]) _) 1 (by simp [hdC]) _)
  refine (turnedTo_any H' 2 _).mono ?_
  rintro e w9 ⟨rfl, b9⟩
  have F9 := there_below (there_setCell (there_setCell (there_setCell F0 _ _) _ _) _ _) b9 (by first | omega | (simp; omega))
  have K9 := (Below.setCell (Below.setCell (Below.setCell K0 (p := ⟨w.heap.size + 1, 16, none⟩) (by show w.heap.size ≤ w.heap.size + 1; omega) _) (p := ⟨w.heap.size + 1, 10, none⟩) (by show w.heap.size ≤ w.heap.size + 1; omega) _) (p := ⟨w.heap.size + 1, 1, none⟩) (by show w.heap.size ≤ w.heap.size + 1; omega) _).trans (b9.mono (by first | omega | (simp; omega)))
  go_wp2_with (refine wpList_store_mid rfl 38 (.tmp 6) _ rfl (w.heap.size + 1 + 1) 0 (hdC (turnH H' 2)).toArray ?hxn37 ?hyn37 ?htn37 (sizeHand _) (oneHand _) ?_)
  try (case hxn37 => rfl)
  try (case hyn37 => rfl)
  case htn37 => exact F9
  refine bodyPost_ret (v := .agg (hdC (turnH H' 2)).toArray) ?_ rfl ⟨by rw [hv.out], ?_⟩
  · exact results_row Try.results65 _ _ (w.heap.size + 1 + 1) 0 rfl (hdC (turnH H' 2)) _ (World.rangeAt_setCells_same _ _ _ _ F9) Try.underlying38 rfl (sizeHandL _)
  · exact Below.setCells (by omega) _ _ _ K9

end Go.Proofs.Ytcgjkodpmloccaa
