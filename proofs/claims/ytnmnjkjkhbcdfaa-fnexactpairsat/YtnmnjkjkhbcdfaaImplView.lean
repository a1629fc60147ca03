/-
  What the program says of views (chapter 4), as contracts: NodesAt, NodesNow, PairsAt, PairsNow. For every plan and every arena of at most 1048576 elements.
-/
import Derived.Test.YtnmnjkjkhbcdfaaImplTold

namespace Go.Proofs.Ytnmnjkjkhbcdfaa
open Go.ChangeShapes Go.WideShapes Go.ChangeAt Go.RowKit
set_option linter.unusedVariables false
attribute [local go_sem ↓] Go.wp_at_zero Go.wp_at_succ

set_option maxRecDepth 100000 in
set_option maxHeartbeats 2000000 in
theorem nodesAt_any (B : Nat) (A : Ar) (x y z u : Int) (st : Int) (a0 a1 a2 a3 : Option Addr) (c0 c1 c2 c3 : Nat) (w : World) (hB : B ≤ w.heap.size) (hA : A.size ≤ 1048576) (I : ArenaIs B w (.slice a0 A.slots.length c0) (.slice a1 A.guides.length c1) (.slice a2 A.nodes.length c2) (.slice a3 A.vers.length c3) A) :
    Calls Try.prog 12 #[.agg #[.int .i64 x, .int .i64 y, .int .i64 z, .int .i64 u], .agg #[.int .i64 A.camera, .slice a0 A.slots.length c0, .slice a1 A.guides.length c1, .slice a2 A.nodes.length c2, .slice a3 A.vers.length c3], .int .i64 st] w fun e w' => ∃ v b, e = .returned v ∧ NewList w.heap.size w' v (nodesL x y z u A false st).length 1 (cellsOf intC (nodesL x y z u A false st)) b ∧ Below w.heap.size w w' := by
  have P0 := (planAt_alloc w x y z u 31).below ((Below.refl _ _).alloc (Nat.le_refl _) (.cells #[.int .i64 A.camera, .slice a0 A.slots.length c0, .slice a1 A.guides.length c1, .slice a2 A.nodes.length c2, .slice a3 A.vers.length c3] 36)) (by simp)
  have X0 := rangeAt_new (w.alloc (.cells #[.int .i64 x, .int .i64 y, .int .i64 z, .int .i64 u] 31)) [.int .i64 A.camera, .slice a0 A.slots.length c0, .slice a1 A.guides.length c1, .slice a2 A.nodes.length c2, .slice a3 A.vers.length c3] 36
  simp only [World.size_alloc] at X0
  have K0 := ((Below.refl w.heap.size w).alloc (Nat.le_refl _) (.cells #[.int .i64 x, .int .i64 y, .int .i64 z, .int .i64 u] 31)).alloc (by simp) (.cells #[.int .i64 A.camera, .slice a0 A.slots.length c0, .slice a1 A.guides.length c1, .slice a2 A.nodes.length c2, .slice a3 A.vers.length c3] 36)
  have hz0 : w.heap.size + 1 < ((w.alloc (.cells #[.int .i64 x, .int .i64 y, .int .i64 z, .int .i64 u] 31)).alloc (.cells #[.int .i64 A.camera, .slice a0 A.slots.length c0, .slice a1 A.guides.length c1, .slice a2 A.nodes.length c2, .slice a3 A.vers.length c3] 36)).heap.size := by simp
  have I0 := I.below (K0.mono hB)
  go_enter Try.func12, Try.ntmps12
  obtain ⟨p0', p1', p2', p3'⟩ := id P0
  obtain ⟨x0', x1', x2', x3', x4'⟩ := row5 X0
  go_wp2_with fail
  generalize hw0 : ((w.alloc (.cells #[.int .i64 x, .int .i64 y, .int .i64 z, .int .i64 u] 31)).alloc (.cells #[.int .i64 A.camera, .slice a0 A.slots.length c0, .slice a1 A.guides.length c1, .slice a2 A.nodes.length c2, .slice a3 A.vers.length c3] 36)) = w1 at *
  clear hw0
  have hz0' : w.heap.size < w1.heap.size := by omega
  have BB := Below.refl w1.heap.size w1
  go_region_held3 (fun w' => w'.cell? ⟨w.heap.size, 0, none⟩ = some (.int .i64 x) ∧ w'.cell? ⟨w.heap.size, 1, none⟩ = some (.int .i64 y) ∧ w'.cell? ⟨w.heap.size, 2, none⟩ = some (.int .i64 z) ∧ w'.cell? ⟨w.heap.size, 3, none⟩ = some (.int .i64 u) ∧ w'.cell? ⟨w.heap.size + 1, 0, none⟩ = some (.int .i64 A.camera) ∧ w'.cell? ⟨w.heap.size + 1, 1, none⟩ = some (.slice a0 A.slots.length c0) ∧ w'.cell? ⟨w.heap.size + 1, 2, none⟩ = some (.slice a1 A.guides.length c1) ∧ w'.cell? ⟨w.heap.size + 1, 3, none⟩ = some (.slice a2 A.nodes.length c2) ∧ w'.cell? ⟨w.heap.size + 1, 4, none⟩ = some (.slice a3 A.vers.length c3)) (go_keep) (first | (go_at_call 39; refine (viewAt_seen A x y z u st _ _ _ _ _ _ _ _ _).mono ?_; rintro e wi ⟨f, fb, rfl, Sf, bi⟩; have hfb := Sf.hi; have hwi := BB.size; replace BB : Below w1.heap.size w1 wi := (by first | exact BB.drew.trans (bi.mono (by exact BB.size)) | exact BB.trans (bi.mono (by exact BB.size))); obtain ⟨p0', p1', p2', p3'⟩ := P0.below BB hz0'; obtain ⟨x0', x1', x2', x3', x4'⟩ := row5 (rangeAt_below X0 BB hz0)) | (go_at_call 38; refine (toldAtNodes_any B fb w1.heap.size f A x y z u st _ _ _ _ _ _ _ _ _ ?_ hA ?_ ?_).mono ?_; (exact Nat.le_trans hB (Nat.le_trans (Nat.le_of_lt hz0') (by exact BB.size))); (first | exact I0.below (BB.mono (by omega)) | exact I0.below (BB.drew.mono (by omega))); (first | exact Sf | exact Sf.below (Below.refl _ _).drew hfb); rintro e wi ⟨v, lb, rfl, N, bi⟩; have hzb := BB.size; replace BB : Below w1.heap.size w1 wi := (by first | exact BB.drew.trans (bi.mono (by exact BB.size)) | exact BB.trans (bi.mono (by exact BB.size))); obtain ⟨p0', p1', p2', p3'⟩ := P0.below BB hz0'; obtain ⟨x0', x1', x2', x3', x4'⟩ := row5 (rangeAt_below X0 BB hz0)))
  go_wp2
  go_ret
  exact ⟨_, lb, rfl, N.lo (by first | exact Nat.le_trans (Nat.le_of_lt hz0') hzb | omega), K0.trans (BB.mono (Nat.le_of_lt hz0'))⟩

set_option maxRecDepth 100000 in
set_option maxHeartbeats 2000000 in
theorem pairsAt_any (B : Nat) (A : Ar) (x y z u : Int) (st : Int) (a0 a1 a2 a3 : Option Addr) (c0 c1 c2 c3 : Nat) (w : World) (hB : B ≤ w.heap.size) (hA : A.size ≤ 1048576) (I : ArenaIs B w (.slice a0 A.slots.length c0) (.slice a1 A.guides.length c1) (.slice a2 A.nodes.length c2) (.slice a3 A.vers.length c3) A) :
    Calls Try.prog 21 #[.agg #[.int .i64 x, .int .i64 y, .int .i64 z, .int .i64 u], .agg #[.int .i64 A.camera, .slice a0 A.slots.length c0, .slice a1 A.guides.length c1, .slice a2 A.nodes.length c2, .slice a3 A.vers.length c3], .int .i64 st] w fun e w' => ∃ v b, e = .returned v ∧ NewList w.heap.size w' v (pairsL x y z u A false st).length 2 (cellsOf prC (pairsL x y z u A false st)) b ∧ Below w.heap.size w w' := by
  have P0 := (planAt_alloc w x y z u 31).below ((Below.refl _ _).alloc (Nat.le_refl _) (.cells #[.int .i64 A.camera, .slice a0 A.slots.length c0, .slice a1 A.guides.length c1, .slice a2 A.nodes.length c2, .slice a3 A.vers.length c3] 36)) (by simp)
  have X0 := rangeAt_new (w.alloc (.cells #[.int .i64 x, .int .i64 y, .int .i64 z, .int .i64 u] 31)) [.int .i64 A.camera, .slice a0 A.slots.length c0, .slice a1 A.guides.length c1, .slice a2 A.nodes.length c2, .slice a3 A.vers.length c3] 36
  simp only [World.size_alloc] at X0
  have K0 := ((Below.refl w.heap.size w).alloc (Nat.le_refl _) (.cells #[.int .i64 x, .int .i64 y, .int .i64 z, .int .i64 u] 31)).alloc (by simp) (.cells #[.int .i64 A.camera, .slice a0 A.slots.length c0, .slice a1 A.guides.length c1, .slice a2 A.nodes.length c2, .slice a3 A.vers.length c3] 36)
  have hz0 : w.heap.size + 1 < ((w.alloc (.cells #[.int .i64 x, .int .i64 y, .int .i64 z, .int .i64 u] 31)).alloc (.cells #[.int .i64 A.camera, .slice a0 A.slots.length c0, .slice a1 A.guides.length c1, .slice a2 A.nodes.length c2, .slice a3 A.vers.length c3] 36)).heap.size := by simp
  have I0 := I.below (K0.mono hB)
  go_enter Try.func21, Try.ntmps21
  obtain ⟨p0', p1', p2', p3'⟩ := id P0
  obtain ⟨x0', x1', x2', x3', x4'⟩ := row5 X0
  go_wp2_with fail
  generalize hw0 : ((w.alloc (.cells #[.int .i64 x, .int .i64 y, .int .i64 z, .int .i64 u] 31)).alloc (.cells #[.int .i64 A.camera, .slice a0 A.slots.length c0, .slice a1 A.guides.length c1, .slice a2 A.nodes.length c2, .slice a3 A.vers.length c3] 36)) = w1 at *
  clear hw0
  have hz0' : w.heap.size < w1.heap.size := by omega
  have BB := Below.refl w1.heap.size w1
  go_region_held3 (fun w' => w'.cell? ⟨w.heap.size, 0, none⟩ = some (.int .i64 x) ∧ w'.cell? ⟨w.heap.size, 1, none⟩ = some (.int .i64 y) ∧ w'.cell? ⟨w.heap.size, 2, none⟩ = some (.int .i64 z) ∧ w'.cell? ⟨w.heap.size, 3, none⟩ = some (.int .i64 u) ∧ w'.cell? ⟨w.heap.size + 1, 0, none⟩ = some (.int .i64 A.camera) ∧ w'.cell? ⟨w.heap.size + 1, 1, none⟩ = some (.slice a0 A.slots.length c0) ∧ w'.cell? ⟨w.heap.size + 1, 2, none⟩ = some (.slice a1 A.guides.length c1) ∧ w'.cell? ⟨w.heap.size + 1, 3, none⟩ = some (.slice a2 A.nodes.length c2) ∧ w'.cell? ⟨w.heap.size + 1, 4, none⟩ = some (.slice a3 A.vers.length c3)) (go_keep) (first | (go_at_call 39; refine (viewAt_seen A x y z u st _ _ _ _ _ _ _ _ _).mono ?_; rintro e wi ⟨f, fb, rfl, Sf, bi⟩; have hfb := Sf.hi; have hwi := BB.size; replace BB : Below w1.heap.size w1 wi := (by first | exact BB.drew.trans (bi.mono (by exact BB.size)) | exact BB.trans (bi.mono (by exact BB.size))); obtain ⟨p0', p1', p2', p3'⟩ := P0.below BB hz0'; obtain ⟨x0', x1', x2', x3', x4'⟩ := row5 (rangeAt_below X0 BB hz0)) | (go_at_call 47; refine (toldAtPairs_any B fb w1.heap.size f A x y z u st _ _ _ _ _ _ _ _ _ ?_ hA ?_ ?_).mono ?_; (exact Nat.le_trans hB (Nat.le_trans (Nat.le_of_lt hz0') (by exact BB.size))); (first | exact I0.below (BB.mono (by omega)) | exact I0.below (BB.drew.mono (by omega))); (first | exact Sf | exact Sf.below (Below.refl _ _).drew hfb); rintro e wi ⟨v, lb, rfl, N, bi⟩; have hzb := BB.size; replace BB : Below w1.heap.size w1 wi := (by first | exact BB.drew.trans (bi.mono (by exact BB.size)) | exact BB.trans (bi.mono (by exact BB.size))); obtain ⟨p0', p1', p2', p3'⟩ := P0.below BB hz0'; obtain ⟨x0', x1', x2', x3', x4'⟩ := row5 (rangeAt_below X0 BB hz0)))
  go_wp2
  go_ret
  exact ⟨_, lb, rfl, N.lo (by first | exact Nat.le_trans (Nat.le_of_lt hz0') hzb | omega), K0.trans (BB.mono (Nat.le_of_lt hz0'))⟩

set_option maxRecDepth 100000 in
set_option maxHeartbeats 2000000 in
theorem nodesNow_any (B : Nat) (A : Ar) (x y z u : Int) (a0 a1 a2 a3 : Option Addr) (c0 c1 c2 c3 : Nat) (w : World) (hB : B ≤ w.heap.size) (hA : A.size ≤ 1048576) (I : ArenaIs B w (.slice a0 A.slots.length c0) (.slice a1 A.guides.length c1) (.slice a2 A.nodes.length c2) (.slice a3 A.vers.length c3) A) :
    Calls Try.prog 19 #[.agg #[.int .i64 x, .int .i64 y, .int .i64 z, .int .i64 u], .agg #[.int .i64 A.camera, .slice a0 A.slots.length c0, .slice a1 A.guides.length c1, .slice a2 A.nodes.length c2, .slice a3 A.vers.length c3]] w fun e w' => ∃ v b, e = .returned v ∧ NewList w.heap.size w' v (nodesL x y z u A true 0).length 1 (cellsOf intC (nodesL x y z u A true 0)) b ∧ Below w.heap.size w w' := by
  have P0 := (planAt_alloc w x y z u 31).below ((Below.refl _ _).alloc (Nat.le_refl _) (.cells #[.int .i64 A.camera, .slice a0 A.slots.length c0, .slice a1 A.guides.length c1, .slice a2 A.nodes.length c2, .slice a3 A.vers.length c3] 36)) (by simp)
  have X0 := rangeAt_new (w.alloc (.cells #[.int .i64 x, .int .i64 y, .int .i64 z, .int .i64 u] 31)) [.int .i64 A.camera, .slice a0 A.slots.length c0, .slice a1 A.guides.length c1, .slice a2 A.nodes.length c2, .slice a3 A.vers.length c3] 36
  simp only [World.size_alloc] at X0
  have K0 := ((Below.refl w.heap.size w).alloc (Nat.le_refl _) (.cells #[.int .i64 x, .int .i64 y, .int .i64 z, .int .i64 u] 31)).alloc (by simp) (.cells #[.int .i64 A.camera, .slice a0 A.slots.length c0, .slice a1 A.guides.length c1, .slice a2 A.nodes.length c2, .slice a3 A.vers.length c3] 36)
  have hz0 : w.heap.size + 1 < ((w.alloc (.cells #[.int .i64 x, .int .i64 y, .int .i64 z, .int .i64 u] 31)).alloc (.cells #[.int .i64 A.camera, .slice a0 A.slots.length c0, .slice a1 A.guides.length c1, .slice a2 A.nodes.length c2, .slice a3 A.vers.length c3] 36)).heap.size := by simp
  have I0 := I.below (K0.mono hB)
  go_enter Try.func19, Try.ntmps19
  obtain ⟨p0', p1', p2', p3'⟩ := id P0
  obtain ⟨x0', x1', x2', x3', x4'⟩ := row5 X0
  go_wp2_with fail
  generalize hw0 : ((w.alloc (.cells #[.int .i64 x, .int .i64 y, .int .i64 z, .int .i64 u] 31)).alloc (.cells #[.int .i64 A.camera, .slice a0 A.slots.length c0, .slice a1 A.guides.length c1, .slice a2 A.nodes.length c2, .slice a3 A.vers.length c3] 36)) = w1 at *
  clear hw0
  have hz0' : w.heap.size < w1.heap.size := by omega
  have BB := Below.refl w1.heap.size w1
  go_region_held3 (fun w' => w'.cell? ⟨w.heap.size, 0, none⟩ = some (.int .i64 x) ∧ w'.cell? ⟨w.heap.size, 1, none⟩ = some (.int .i64 y) ∧ w'.cell? ⟨w.heap.size, 2, none⟩ = some (.int .i64 z) ∧ w'.cell? ⟨w.heap.size, 3, none⟩ = some (.int .i64 u) ∧ w'.cell? ⟨w.heap.size + 1, 0, none⟩ = some (.int .i64 A.camera) ∧ w'.cell? ⟨w.heap.size + 1, 1, none⟩ = some (.slice a0 A.slots.length c0) ∧ w'.cell? ⟨w.heap.size + 1, 2, none⟩ = some (.slice a1 A.guides.length c1) ∧ w'.cell? ⟨w.heap.size + 1, 3, none⟩ = some (.slice a2 A.nodes.length c2) ∧ w'.cell? ⟨w.heap.size + 1, 4, none⟩ = some (.slice a3 A.vers.length c3)) (go_keep) (first | (go_at_call 45; refine (viewNow_seen A x y z u _ _ _ _ _ _ _ _ _).mono ?_; rintro e wi ⟨f, fb, rfl, Sf, bi⟩; have hfb := Sf.hi; have hwi := BB.size; replace BB : Below w1.heap.size w1 wi := (by first | exact BB.drew.trans (bi.mono (by exact BB.size)) | exact BB.trans (bi.mono (by exact BB.size))); obtain ⟨p0', p1', p2', p3'⟩ := P0.below BB hz0'; obtain ⟨x0', x1', x2', x3', x4'⟩ := row5 (rangeAt_below X0 BB hz0)) | (go_at_call 38; refine (toldNowNodes_any B fb w1.heap.size f A x y z u _ _ _ _ _ _ _ _ _ ?_ hA ?_ ?_).mono ?_; (exact Nat.le_trans hB (Nat.le_trans (Nat.le_of_lt hz0') (by exact BB.size))); (first | exact I0.below (BB.mono (by omega)) | exact I0.below (BB.drew.mono (by omega))); (first | exact Sf | exact Sf.below (Below.refl _ _).drew hfb); rintro e wi ⟨v, lb, rfl, N, bi⟩; have hzb := BB.size; replace BB : Below w1.heap.size w1 wi := (by first | exact BB.drew.trans (bi.mono (by exact BB.size)) | exact BB.trans (bi.mono (by exact BB.size))); obtain ⟨p0', p1', p2', p3'⟩ := P0.below BB hz0'; obtain ⟨x0', x1', x2', x3', x4'⟩ := row5 (rangeAt_below X0 BB hz0)))
  go_wp2
  go_ret
  exact ⟨_, lb, rfl, N.lo (by first | exact Nat.le_trans (Nat.le_of_lt hz0') hzb | omega), K0.trans (BB.mono (Nat.le_of_lt hz0'))⟩

set_option maxRecDepth 100000 in
set_option maxHeartbeats 2000000 in
theorem pairsNow_any (B : Nat) (A : Ar) (x y z u : Int) (a0 a1 a2 a3 : Option Addr) (c0 c1 c2 c3 : Nat) (w : World) (hB : B ≤ w.heap.size) (hA : A.size ≤ 1048576) (I : ArenaIs B w (.slice a0 A.slots.length c0) (.slice a1 A.guides.length c1) (.slice a2 A.nodes.length c2) (.slice a3 A.vers.length c3) A) :
    Calls Try.prog 26 #[.agg #[.int .i64 x, .int .i64 y, .int .i64 z, .int .i64 u], .agg #[.int .i64 A.camera, .slice a0 A.slots.length c0, .slice a1 A.guides.length c1, .slice a2 A.nodes.length c2, .slice a3 A.vers.length c3]] w fun e w' => ∃ v b, e = .returned v ∧ NewList w.heap.size w' v (pairsL x y z u A true 0).length 2 (cellsOf prC (pairsL x y z u A true 0)) b ∧ Below w.heap.size w w' := by
  have P0 := (planAt_alloc w x y z u 31).below ((Below.refl _ _).alloc (Nat.le_refl _) (.cells #[.int .i64 A.camera, .slice a0 A.slots.length c0, .slice a1 A.guides.length c1, .slice a2 A.nodes.length c2, .slice a3 A.vers.length c3] 36)) (by simp)
  have X0 := rangeAt_new (w.alloc (.cells #[.int .i64 x, .int .i64 y, .int .i64 z, .int .i64 u] 31)) [.int .i64 A.camera, .slice a0 A.slots.length c0, .slice a1 A.guides.length c1, .slice a2 A.nodes.length c2, .slice a3 A.vers.length c3] 36
  simp only [World.size_alloc] at X0
  have K0 := ((Below.refl w.heap.size w).alloc (Nat.le_refl _) (.cells #[.int .i64 x, .int .i64 y, .int .i64 z, .int .i64 u] 31)).alloc (by simp) (.cells #[.int .i64 A.camera, .slice a0 A.slots.length c0, .slice a1 A.guides.length c1, .slice a2 A.nodes.length c2, .slice a3 A.vers.length c3] 36)
  have hz0 : w.heap.size + 1 < ((w.alloc (.cells #[.int .i64 x, .int .i64 y, .int .i64 z, .int .i64 u] 31)).alloc (.cells #[.int .i64 A.camera, .slice a0 A.slots.length c0, .slice a1 A.guides.length c1, .slice a2 A.nodes.length c2, .slice a3 A.vers.length c3] 36)).heap.size := by simp
  have I0 := I.below (K0.mono hB)
  go_enter Try.func26, Try.ntmps26
  obtain ⟨p0', p1', p2', p3'⟩ := id P0
  obtain ⟨x0', x1', x2', x3', x4'⟩ := row5 X0
  go_wp2_with fail
  generalize hw0 : ((w.alloc (.cells #[.int .i64 x, .int .i64 y, .int .i64 z, .int .i64 u] 31)).alloc (.cells #[.int .i64 A.camera, .slice a0 A.slots.length c0, .slice a1 A.guides.length c1, .slice a2 A.nodes.length c2, .slice a3 A.vers.length c3] 36)) = w1 at *
  clear hw0
  have hz0' : w.heap.size < w1.heap.size := by omega
  have BB := Below.refl w1.heap.size w1
  go_region_held3 (fun w' => w'.cell? ⟨w.heap.size, 0, none⟩ = some (.int .i64 x) ∧ w'.cell? ⟨w.heap.size, 1, none⟩ = some (.int .i64 y) ∧ w'.cell? ⟨w.heap.size, 2, none⟩ = some (.int .i64 z) ∧ w'.cell? ⟨w.heap.size, 3, none⟩ = some (.int .i64 u) ∧ w'.cell? ⟨w.heap.size + 1, 0, none⟩ = some (.int .i64 A.camera) ∧ w'.cell? ⟨w.heap.size + 1, 1, none⟩ = some (.slice a0 A.slots.length c0) ∧ w'.cell? ⟨w.heap.size + 1, 2, none⟩ = some (.slice a1 A.guides.length c1) ∧ w'.cell? ⟨w.heap.size + 1, 3, none⟩ = some (.slice a2 A.nodes.length c2) ∧ w'.cell? ⟨w.heap.size + 1, 4, none⟩ = some (.slice a3 A.vers.length c3)) (go_keep) (first | (go_at_call 45; refine (viewNow_seen A x y z u _ _ _ _ _ _ _ _ _).mono ?_; rintro e wi ⟨f, fb, rfl, Sf, bi⟩; have hfb := Sf.hi; have hwi := BB.size; replace BB : Below w1.heap.size w1 wi := (by first | exact BB.drew.trans (bi.mono (by exact BB.size)) | exact BB.trans (bi.mono (by exact BB.size))); obtain ⟨p0', p1', p2', p3'⟩ := P0.below BB hz0'; obtain ⟨x0', x1', x2', x3', x4'⟩ := row5 (rangeAt_below X0 BB hz0)) | (go_at_call 47; refine (toldNowPairs_any B fb w1.heap.size f A x y z u _ _ _ _ _ _ _ _ _ ?_ hA ?_ ?_).mono ?_; (exact Nat.le_trans hB (Nat.le_trans (Nat.le_of_lt hz0') (by exact BB.size))); (first | exact I0.below (BB.mono (by omega)) | exact I0.below (BB.drew.mono (by omega))); (first | exact Sf | exact Sf.below (Below.refl _ _).drew hfb); rintro e wi ⟨v, lb, rfl, N, bi⟩; have hzb := BB.size; replace BB : Below w1.heap.size w1 wi := (by first | exact BB.drew.trans (bi.mono (by exact BB.size)) | exact BB.trans (bi.mono (by exact BB.size))); obtain ⟨p0', p1', p2', p3'⟩ := P0.below BB hz0'; obtain ⟨x0', x1', x2', x3', x4'⟩ := row5 (rangeAt_below X0 BB hz0)))
  go_wp2
  go_ret
  exact ⟨_, lb, rfl, N.lo (by first | exact Nat.le_trans (Nat.le_of_lt hz0') hzb | omega), K0.trans (BB.mono (Nat.le_of_lt hz0'))⟩

end Go.Proofs.Ytnmnjkjkhbcdfaa
