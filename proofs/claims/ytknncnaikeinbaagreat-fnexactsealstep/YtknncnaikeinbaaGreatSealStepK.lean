/-
  What the law's proof goes by, part 11.
-/
import Derived.Test.YtknncnaikeinbaaGreatSealStepJ
namespace Go.Proofs.YtknncnaikeinbaaGreat
open Go.ChangeShapes Go.WideShapes Go.ChangeAt Go.RowKit
set_option maxRecDepth 100000
set_option maxHeartbeats 16000000
set_option linter.unusedVariables false
set_option linter.unusedSimpArgs false
set_option linter.unnecessarySimpa false
set_option linter.unusedSectionVars false
section
open Go.ChangeShapes Go.WideShapes Go.ChangeAt Go.RowKit Go.Sort
attribute [local go_sem ↓] Go.wp_at_zero Go.wp_at_succ
theorem qzbj (n l : Int) (hl : 0 <= l) : ((n == -1) || inB n 0 (l - 1)) = inB n (-1) (l - 1) := by
 cases e : inB n (-1) (l - 1)
 ·have h1 : ¬ (-1 <= n /\ n <= l - 1) := fun h => by rw [qz5u h.1 h.2] at e; exact absurd e (by decide)
  rw [qz8e (by omega), Bool.or_false]
  exact beq_eq_false_iff_ne.2 (by omega)
 ·obtain ⟨h1, h2⟩ := (qz2c _ _ _).1 e
  by_cases h3 : n = -1
  ·subst h3
   simp
  ·rw [qz5u (by omega) h2, Bool.or_true]
theorem qz7m (A : Ar) (h : Hd) : qz1n (A.nodes.length : Int) (A.vers.length : Int) h = qz1b A h := by
 unfold qz1n qz1b qz3i qz5n
 rw [qzbj _ _ (by omega), qzbj _ _ (by omega)]
theorem qzbc (B : Nat) (A : Ar) (x y z u me : Int) (h : Hd) (clk : Int) (a0 a1 a2 a3 : Option Addr) (c0 c1 c2 c3 : Nat) (w : World) (hB : B <= w.heap.size) (hA : A.size <= 1048576) (I : qzi B w (.slice a0 A.slots.length c0) (.slice a1 A.guides.length c1) (.slice a2 A.nodes.length c2) (.slice a3 A.vers.length c3) A) :
  Calls Tryz.prog 24 #[.agg #[.int .i64 x, .int .i64 y, .int .i64 z, .int .i64 u], .agg #[.int .i64 A.camera, .slice a0 A.slots.length c0, .slice a1 A.guides.length c1, .slice a2 A.nodes.length c2, .slice a3 A.vers.length c3], .int .i64 me, .agg (hdC h).toArray, .int .i64 clk] w fun e w' => e = .returned (.bool (fitB x y z u A me h clk)) /\ Below w.heap.size w w' := by
 have hA' := hA
 unfold Ar.size at hA
 have P0 := World.rangeAt_alloc (World.rangeAt_alloc (qz5 w [.int .i64 x, .int .i64 y, .int .i64 z, .int .i64 u] 43) (.cells #[.int .i64 A.camera, .slice a0 A.slots.length c0, .slice a1 A.guides.length c1, .slice a2 A.nodes.length c2, .slice a3 A.vers.length c3] 35)) (.cells (hdC h).toArray 36)
 have X0 := World.rangeAt_alloc (qz5 (w.alloc (.cells #[.int .i64 x, .int .i64 y, .int .i64 z, .int .i64 u] 43)) [.int .i64 A.camera, .slice a0 A.slots.length c0, .slice a1 A.guides.length c1, .slice a2 A.nodes.length c2, .slice a3 A.vers.length c3] 35) (.cells (hdC h).toArray 36)
 have H0 := qz5 ((w.alloc (.cells #[.int .i64 x, .int .i64 y, .int .i64 z, .int .i64 u] 43)).alloc (.cells #[.int .i64 A.camera, .slice a0 A.slots.length c0, .slice a1 A.guides.length c1, .slice a2 A.nodes.length c2, .slice a3 A.vers.length c3] 35)) (hdC h) 36
 have K0 := (((Below.refl w.heap.size w).alloc (Nat.le_refl _) (.cells #[.int .i64 x, .int .i64 y, .int .i64 z, .int .i64 u] 43)).alloc (by simp) (.cells #[.int .i64 A.camera, .slice a0 A.slots.length c0, .slice a1 A.guides.length c1, .slice a2 A.nodes.length c2, .slice a3 A.vers.length c3] 35)).alloc (by simp; omega) (.cells (hdC h).toArray 36)
 have hz0 : w.heap.size + 1 + 1 < (((w.alloc (.cells #[.int .i64 x, .int .i64 y, .int .i64 z, .int .i64 u] 43)).alloc (.cells #[.int .i64 A.camera, .slice a0 A.slots.length c0, .slice a1 A.guides.length c1, .slice a2 A.nodes.length c2, .slice a3 A.vers.length c3] 35)).alloc (.cells (hdC h).toArray 36)).heap.size := by simp
 simp only [World.size_alloc] at X0 H0
 have I0 := I.below (K0.mono hB)
 go_enter Tryz.func24, Tryz.ntmps24
 go_wp2_with fail
 generalize hw0 : ((w.alloc (.cells #[.int .i64 x, .int .i64 y, .int .i64 z, .int .i64 u] 43)).alloc (.cells #[.int .i64 A.camera, .slice a0 A.slots.length c0, .slice a1 A.guides.length c1, .slice a2 A.nodes.length c2, .slice a3 A.vers.length c3] 35)).alloc (.cells (hdC h).toArray 36) = w0 at *
 clear hw0 I
 have p0 : w0.cell? ⟨w.heap.size, 0, none⟩ = some (.int .i64 x) := by simpa using P0 0 _ rfl
 have p1 : w0.cell? ⟨w.heap.size, 1, none⟩ = some (.int .i64 y) := by simpa using P0 1 _ rfl
 have p2 : w0.cell? ⟨w.heap.size, 2, none⟩ = some (.int .i64 z) := by simpa using P0 2 _ rfl
 have p3 : w0.cell? ⟨w.heap.size, 3, none⟩ = some (.int .i64 u) := by simpa using P0 3 _ rfl
 obtain ⟨x0, x1, x2, x3, x4⟩ := row5 X0
 have yp0 : ∀ (dq : Nat) (os : Array Obj), (grow (redrawn w0 dq) os).cell? ⟨w.heap.size, 0, none⟩ = some (.int .i64 x) := fun dq os => cell_regrown p0 dq os
 have yp1 : ∀ (dq : Nat) (os : Array Obj), (grow (redrawn w0 dq) os).cell? ⟨w.heap.size, 1, none⟩ = some (.int .i64 y) := fun dq os => cell_regrown p1 dq os
 have yp2 : ∀ (dq : Nat) (os : Array Obj), (grow (redrawn w0 dq) os).cell? ⟨w.heap.size, 2, none⟩ = some (.int .i64 z) := fun dq os => cell_regrown p2 dq os
 have yp3 : ∀ (dq : Nat) (os : Array Obj), (grow (redrawn w0 dq) os).cell? ⟨w.heap.size, 3, none⟩ = some (.int .i64 u) := fun dq os => cell_regrown p3 dq os
 have yx0 : ∀ (dq : Nat) (os : Array Obj), (grow (redrawn w0 dq) os).cell? ⟨w.heap.size + 1, 0, none⟩ = some (.int .i64 A.camera) := fun dq os => cell_regrown x0 dq os
 have yx1 : ∀ (dq : Nat) (os : Array Obj), (grow (redrawn w0 dq) os).cell? ⟨w.heap.size + 1, 1, none⟩ = some (.slice a0 A.slots.length c0) := fun dq os => cell_regrown x1 dq os
 have yx2 : ∀ (dq : Nat) (os : Array Obj), (grow (redrawn w0 dq) os).cell? ⟨w.heap.size + 1, 2, none⟩ = some (.slice a1 A.guides.length c1) := fun dq os => cell_regrown x2 dq os
 have yx3 : ∀ (dq : Nat) (os : Array Obj), (grow (redrawn w0 dq) os).cell? ⟨w.heap.size + 1, 3, none⟩ = some (.slice a2 A.nodes.length c2) := fun dq os => cell_regrown x3 dq os
 have yx4 : ∀ (dq : Nat) (os : Array Obj), (grow (redrawn w0 dq) os).cell? ⟨w.heap.size + 1, 4, none⟩ = some (.slice a3 A.vers.length c3) := fun dq os => cell_regrown x4 dq os
 clear p0 p1 p2 p3 x0 x1 x2 x3 x4 P0 X0
 have k1 : ∀ (dq : Nat) (os : Array Obj), Calls Tryz.prog 48 #[.agg #[.int .i64 x, .int .i64 y, .int .i64 z, .int .i64 u], .agg #[.int .i64 A.camera, .slice a0 A.slots.length c0, .slice a1 A.guides.length c1, .slice a2 A.nodes.length c2, .slice a3 A.vers.length c3]] (grow (redrawn w0 dq) os) fun e w'' => e = .returned (.bool (qz14 x y z u A)) /\ ∃ q : Regrown, w'' = grow (redrawn w0 q.d) q.os := fun dq os => Calls.regrown_of (qz8n B A x y z u a0 a1 a2 a3 c0 c1 c2 c3 (grow (redrawn w0 dq) os) (Nat.le_trans hB (Nat.le_trans K0.size (below_regrown w0 dq os).size)) hA' (I0.below ((below_regrown w0 dq os).mono (Nat.le_trans hB K0.size))))
 have k2 : ∀ (dq : Nat) (os : Array Obj), Calls Tryz.prog 49 #[.agg #[.int .i64 x, .int .i64 y, .int .i64 z, .int .i64 u], .agg (hdC h).toArray] (grow (redrawn w0 dq) os) fun e w'' => e = .returned (.bool (qz2a x y z u h)) /\ ∃ q : Regrown, w'' = grow (redrawn w0 q.d) q.os := fun dq os => Calls.regrown_of (qz9d x y z u h _)
 have k3 : ∀ (dq : Nat) (os : Array Obj), Calls Tryz.prog 50 #[.agg #[.int .i64 x, .int .i64 y, .int .i64 z, .int .i64 u], .int .i64 me] (grow (redrawn w0 dq) os) fun e w'' => e = .returned (.bool (qzar x y z u me)) /\ ∃ q : Regrown, w'' = grow (redrawn w0 q.d) q.os := fun dq os => Calls.regrown_of (qz9a x y z u me _)
 have k4 : ∀ (dq : Nat) (os : Array Obj), Calls Tryz.prog 51 #[.int .i64 clk] (grow (redrawn w0 dq) os) fun e w'' => e = .returned (.bool (inB clk 0 20000)) /\ ∃ q : Regrown, w'' = grow (redrawn w0 q.d) q.os := fun dq os => Calls.regrown_of ((qz1k _ _).mono fun e w' h' => ⟨h'.1, by rw [h'.2]; exact Below.refl _ _⟩)
 have k5 : ∀ (dq : Nat) (os : Array Obj), Calls Tryz.prog 52 #[.agg (hdC h).toArray] (grow (redrawn w0 dq) os) fun e w'' => e = .returned (.agg (grC h).toArray) /\ ∃ q : Regrown, w'' = grow (redrawn w0 q.d) q.os := fun dq os => Calls.regrown_of (qz74 h _)
 have hkp : qz1n (A.nodes.length : Int) (A.vers.length : Int) h = qz1b A h := qz7m A h
 have k6 : ∀ (dq : Nat) (os : Array Obj), Calls Tryz.prog 53 #[.agg (rgC h).toArray, .int .i64 (A.nodes.length : Int), .int .i64 (A.vers.length : Int)] (grow (redrawn w0 dq) os) fun e w'' => e = .returned (.bool (qz1b A h)) /\ ∃ q : Regrown, w'' = grow (redrawn w0 q.d) q.os := fun dq os => Calls.regrown_of ((hkp ▸ qz76 (A.nodes.length : Int) (A.vers.length : Int) h _ ⟨by omega, by omega⟩ ⟨by omega, by omega⟩))
 have hfl : ∀ w', (Instr.field 93 (.agg (grC h).toArray) 0).run Tryz.prog w' = .ok (.agg (rgC h).toArray) w' := fun w' => by kernel_rfl
 clear hkp
 cases e1 : qz14 x y z u A
 case false =>
  rw [e1] at k1
  have hv : Hid (fitB x y z u A me h clk = false) := by show _ = _; simp [fitB, e1]
  refine wp_region_quiet_below (by kernel_rfl) (by kernel_rfl) ?_
  iterate 30 (go_big_quiet_step (first | exact k1 _ _ | exact k2 _ _ | exact k3 _ _ | exact k4 _ _ | exact k5 _ _ | exact k6 _ _))
  refine wpQuiet_nil ?_
  intro _ hw'
  obtain ⟨⟨dq, osq⟩, hw''⟩ := hw'
  subst hw''
  have BB := below_regrown w0 dq osq
  generalize grow (redrawn w0 dq) osq = wb at *
  go_wp2_with fail
  go_ret
  exact ⟨by rw [hv.out]; rfl, K0.trans (BB.mono (by omega))⟩
 rw [e1] at k1
 cases e2 : qz2a x y z u h
 case false =>
  rw [e2] at k2
  have hv : Hid (fitB x y z u A me h clk = false) := by show _ = _; simp [fitB, e1, e2]
  refine wp_region_quiet_below (by kernel_rfl) (by kernel_rfl) ?_
  iterate 5 (go_big_quiet_step (first | exact k1 _ _ | exact k2 _ _ | exact k3 _ _ | exact k4 _ _ | exact k5 _ _ | exact k6 _ _))
  refine qzy (by first | rfl | kernel_rfl) 36 (.tmp 8) rfl (w.heap.size + 1 + 1) 0 rfl (hdC h) _ (fun w' hw' => by obtain ⟨⟨dq, os⟩, rfl⟩ := hw'; exact qz0 H0 (below_regrown w0 dq os) (by omega)) Tryz.underlying36 rfl (qz1 h) ?_; simp only [Act.put, List.setIfInBounds_toArray, List.set_cons_succ, List.set_cons_zero]
  iterate 24 (go_big_quiet_step (first | exact k1 _ _ | exact k2 _ _ | exact k3 _ _ | exact k4 _ _ | exact k5 _ _ | exact k6 _ _))
  refine wpQuiet_nil ?_
  intro _ hw'
  obtain ⟨⟨dq, osq⟩, hw''⟩ := hw'
  subst hw''
  have BB := below_regrown w0 dq osq
  generalize grow (redrawn w0 dq) osq = wb at *
  go_wp2_with fail
  go_ret
  exact ⟨by rw [hv.out]; rfl, K0.trans (BB.mono (by omega))⟩
 rw [e2] at k2
 have epl : qz3e x y z u = true := by
  have := e2
  unfold qz2a at this
  simp only [Bool.and_eq_true] at this
  exact this.1.1
 have ep : qzar x y z u me = inB me 0 (x - 1) := by simp [qzar, epl]
 rw [ep] at k3
 cases e3 : inB me 0 (x - 1)
 case false =>
  rw [e3] at k3
  have hv : Hid (fitB x y z u A me h clk = false) := by show _ = _; simp [fitB, e1, e2, e3]
  refine wp_region_quiet_below (by kernel_rfl) (by kernel_rfl) ?_
  iterate 5 (go_big_quiet_step (first | exact k1 _ _ | exact k2 _ _ | exact k3 _ _ | exact k4 _ _ | exact k5 _ _ | exact k6 _ _))
  refine qzy (by first | rfl | kernel_rfl) 36 (.tmp 8) rfl (w.heap.size + 1 + 1) 0 rfl (hdC h) _ (fun w' hw' => by obtain ⟨⟨dq, os⟩, rfl⟩ := hw'; exact qz0 H0 (below_regrown w0 dq os) (by omega)) Tryz.underlying36 rfl (qz1 h) ?_; simp only [Act.put, List.setIfInBounds_toArray, List.set_cons_succ, List.set_cons_zero]
  iterate 24 (go_big_quiet_step (first | exact k1 _ _ | exact k2 _ _ | exact k3 _ _ | exact k4 _ _ | exact k5 _ _ | exact k6 _ _))
  refine wpQuiet_nil ?_
  intro _ hw'
  obtain ⟨⟨dq, osq⟩, hw''⟩ := hw'
  subst hw''
  have BB := below_regrown w0 dq osq
  generalize grow (redrawn w0 dq) osq = wb at *
  go_wp2_with fail
  go_ret
  exact ⟨by rw [hv.out]; rfl, K0.trans (BB.mono (by omega))⟩
 rw [e3] at k3
 cases e4 : inB clk 0 20000
 case false =>
  rw [e4] at k4
  have hv : Hid (fitB x y z u A me h clk = false) := by show _ = _; simp [fitB, e1, e2, e3, e4]
  refine wp_region_quiet_below (by kernel_rfl) (by kernel_rfl) ?_
  iterate 5 (go_big_quiet_step (first | exact k1 _ _ | exact k2 _ _ | exact k3 _ _ | exact k4 _ _ | exact k5 _ _ | exact k6 _ _))
  refine qzy (by first | rfl | kernel_rfl) 36 (.tmp 8) rfl (w.heap.size + 1 + 1) 0 rfl (hdC h) _ (fun w' hw' => by obtain ⟨⟨dq, os⟩, rfl⟩ := hw'; exact qz0 H0 (below_regrown w0 dq os) (by omega)) Tryz.underlying36 rfl (qz1 h) ?_; simp only [Act.put, List.setIfInBounds_toArray, List.set_cons_succ, List.set_cons_zero]
  iterate 24 (go_big_quiet_step (first | exact k1 _ _ | exact k2 _ _ | exact k3 _ _ | exact k4 _ _ | exact k5 _ _ | exact k6 _ _))
  refine wpQuiet_nil ?_
  intro _ hw'
  obtain ⟨⟨dq, osq⟩, hw''⟩ := hw'
  subst hw''
  have BB := below_regrown w0 dq osq
  generalize grow (redrawn w0 dq) osq = wb at *
  go_wp2_with fail
  go_ret
  exact ⟨by rw [hv.out]; rfl, K0.trans (BB.mono (by omega))⟩
 rw [e4] at k4
 cases e5 : qz1b A h
 case false =>
  rw [e5] at k6
  have hv : Hid (fitB x y z u A me h clk = false) := by show _ = _; simp [fitB, e1, e2, e3, e4, e5]
  refine wp_region_quiet_below (by kernel_rfl) (by kernel_rfl) ?_
  iterate 5 (go_big_quiet_step (first | exact k1 _ _ | exact k2 _ _ | exact k3 _ _ | exact k4 _ _ | exact k5 _ _ | exact k6 _ _))
  refine qzy (by first | rfl | kernel_rfl) 36 (.tmp 8) rfl (w.heap.size + 1 + 1) 0 rfl (hdC h) _ (fun w' hw' => by obtain ⟨⟨dq, os⟩, rfl⟩ := hw'; exact qz0 H0 (below_regrown w0 dq os) (by omega)) Tryz.underlying36 rfl (qz1 h) ?_; simp only [Act.put, List.setIfInBounds_toArray, List.set_cons_succ, List.set_cons_zero]
  iterate 12 (go_big_quiet_step (first | exact k1 _ _ | exact k2 _ _ | exact k3 _ _ | exact k4 _ _ | exact k5 _ _ | exact k6 _ _))
  refine qzy (by first | rfl | kernel_rfl) 36 (.tmp 8) rfl (w.heap.size + 1 + 1) 0 rfl (hdC h) _ (fun w' hw' => by obtain ⟨⟨dq, os⟩, rfl⟩ := hw'; exact qz0 H0 (below_regrown w0 dq os) (by omega)) Tryz.underlying36 rfl (qz1 h) ?_; simp only [Act.put, List.setIfInBounds_toArray, List.set_cons_succ, List.set_cons_zero]
  iterate 1 (go_big_quiet_step (first | exact k1 _ _ | exact k2 _ _ | exact k3 _ _ | exact k4 _ _ | exact k5 _ _ | exact k6 _ _))
  refine qz2r (by first | rfl | kernel_rfl) (.agg (rgC h).toArray) (fun w' _ => by clear k1 k2 k3 k4 k5 k6; go_simp) ?_; simp only [Act.put, List.setIfInBounds_toArray, List.set_cons_succ, List.set_cons_zero]
  iterate 9 (go_big_quiet_step (first | exact k1 _ _ | exact k2 _ _ | exact k3 _ _ | exact k4 _ _ | exact k5 _ _ | exact k6 _ _))
  refine wpQuiet_nil ?_
  intro _ hw'
  obtain ⟨⟨dq, osq⟩, hw''⟩ := hw'
  subst hw''
  have BB := below_regrown w0 dq osq
  generalize grow (redrawn w0 dq) osq = wb at *
  go_wp2_with fail
  go_ret
  exact ⟨by rw [hv.out]; rfl, K0.trans (BB.mono (by omega))⟩
 rw [e5] at k6
 have hv : Hid (fitB x y z u A me h clk = true) := by show _ = _; simp [fitB, e1, e2, e3, e4, e5]
 refine wp_region_quiet_below (by kernel_rfl) (by kernel_rfl) ?_
 iterate 5 (go_big_quiet_step (first | exact k1 _ _ | exact k2 _ _ | exact k3 _ _ | exact k4 _ _ | exact k5 _ _ | exact k6 _ _))
 refine qzy (by first | rfl | kernel_rfl) 36 (.tmp 8) rfl (w.heap.size + 1 + 1) 0 rfl (hdC h) _ (fun w' hw' => by obtain ⟨⟨dq, os⟩, rfl⟩ := hw'; exact qz0 H0 (below_regrown w0 dq os) (by omega)) Tryz.underlying36 rfl (qz1 h) ?_; simp only [Act.put, List.setIfInBounds_toArray, List.set_cons_succ, List.set_cons_zero]
 iterate 12 (go_big_quiet_step (first | exact k1 _ _ | exact k2 _ _ | exact k3 _ _ | exact k4 _ _ | exact k5 _ _ | exact k6 _ _))
 refine qzy (by first | rfl | kernel_rfl) 36 (.tmp 8) rfl (w.heap.size + 1 + 1) 0 rfl (hdC h) _ (fun w' hw' => by obtain ⟨⟨dq, os⟩, rfl⟩ := hw'; exact qz0 H0 (below_regrown w0 dq os) (by omega)) Tryz.underlying36 rfl (qz1 h) ?_; simp only [Act.put, List.setIfInBounds_toArray, List.set_cons_succ, List.set_cons_zero]
 iterate 1 (go_big_quiet_step (first | exact k1 _ _ | exact k2 _ _ | exact k3 _ _ | exact k4 _ _ | exact k5 _ _ | exact k6 _ _))
 refine qz2r (by first | rfl | kernel_rfl) (.agg (rgC h).toArray) (fun w' _ => by clear k1 k2 k3 k4 k5 k6; go_simp) ?_; simp only [Act.put, List.setIfInBounds_toArray, List.set_cons_succ, List.set_cons_zero]
 iterate 9 (go_big_quiet_step (first | exact k1 _ _ | exact k2 _ _ | exact k3 _ _ | exact k4 _ _ | exact k5 _ _ | exact k6 _ _))
 refine wpQuiet_nil ?_
 intro _ hw'
 obtain ⟨⟨dq, osq⟩, hw''⟩ := hw'
 subst hw''
 have BB := below_regrown w0 dq osq
 generalize grow (redrawn w0 dq) osq = wb at *
 go_wp2_with fail
 go_ret
 exact ⟨by rw [hv.out]; rfl, K0.trans (BB.mono (by omega))⟩
end
section
attribute [local go_sem ↓] Go.wp_at_zero Go.wp_at_succ
structure TypA (w : World) (A : Ar) (b0 b1 b2 b3 : Nat) : Prop where
 t0 : 0 < A.slots.length -> ∃ m, Blk w b0 2 m
 t1 : 0 < A.guides.length -> ∃ m, Blk w b1 2 m
 t2 : 0 < A.nodes.length -> ∃ m, Blk w b2 65 m
 t3 : 0 < A.vers.length -> ∃ m, Blk w b3 80 m
theorem TypA.kept {w w' : World} {A : Ar} {b0 b1 b2 b3 : Nat} (h : TypA w A b0 b1 b2 b3) (hb : Below w.heap.size w w') : TypA w' A b0 b1 b2 b3 :=
 ⟨fun p => by obtain ⟨m, h⟩ := h.t0 p; exact ⟨m, h.grown hb⟩, fun p => by obtain ⟨m, h⟩ := h.t1 p; exact ⟨m, h.grown hb⟩, fun p => by obtain ⟨m, h⟩ := h.t2 p; exact ⟨m, h.grown hb⟩, fun p => by obtain ⟨m, h⟩ := h.t3 p; exact ⟨m, h.grown hb⟩⟩
theorem TypA.setCells {w : World} {A : Ar} {b0 b1 b2 b3 : Nat} (h : TypA w A b0 b1 b2 b3) (c o : Nat) (vs : List Value) : TypA (w.setCells c o vs) A b0 b1 b2 b3 :=
 ⟨fun p => by obtain ⟨m, h⟩ := h.t0 p; exact ⟨m, h.setCells _ _ _⟩, fun p => by obtain ⟨m, h⟩ := h.t1 p; exact ⟨m, h.setCells _ _ _⟩, fun p => by obtain ⟨m, h⟩ := h.t2 p; exact ⟨m, h.setCells _ _ _⟩, fun p => by obtain ⟨m, h⟩ := h.t3 p; exact ⟨m, h.setCells _ _ _⟩⟩
theorem TypA.apart {w : World} {A : Ar} {b0 b1 b2 b3 c m : Nat} {t : TypeId} (h : TypA w A b0 b1 b2 b3) (hc : Blk w c t m) (h1 : 2 ≠ t) (h2 : 65 ≠ t) (h3 : 80 ≠ t) : ¬ qz6l A.slots.length A.guides.length A.nodes.length A.vers.length b0 b1 b2 b3 c := by
 rintro (⟨p, rfl⟩ | ⟨p, rfl⟩ | ⟨p, rfl⟩ | ⟨p, rfl⟩)
 ·obtain ⟨n, k⟩ := h.t0 p; exact k.ne hc h1 rfl
 ·obtain ⟨n, k⟩ := h.t1 p; exact k.ne hc h1 rfl
 ·obtain ⟨n, k⟩ := h.t2 p; exact k.ne hc h2 rfl
 ·obtain ⟨n, k⟩ := h.t3 p; exact k.ne hc h3 rfl
theorem qz4m (B : Nat) (v : Value) (l : List Nd) (w : World) (hB : B <= w.heap.size) (hl : l.length <= 1048576) (S : qz7v B w v ndC l) :
  Calls Tryz.prog 62 #[v] w fun e w' => e = .returned (.slice (some ⟨w.heap.size, 0, none⟩) l.length l.length) /\ w'.rangeAt w.heap.size 0 (qz9 ndC l) /\ Blk w' w.heap.size 65 (l.length * 3) /\ w.heap.size < w'.heap.size /\ Below w.heap.size w w' := by
 obtain ⟨ps, ⟨a, cap, rfl, hS⟩, Q⟩ := S
 obtain ⟨i0, hi, hz0, hz1, hz2⟩ := info_parts qz62
 have hmk : ∀ w : World, (Instr.makeSlice 32 (.int .i64 (l.length : Int)) (.int .i64 (l.length : Int))).run Tryz.prog w = .ok (.slice (some ⟨w.heap.size, 0, none⟩) l.length l.length) (w.alloc (.cells (madeCells (.agg #[.int .i64 0, .int .i64 0, .int .i64 0] : Value).cells (l.length * 3)) 65)) := by
  intro w
  have h := run_make (P := Tryz.prog) w 32 65 i0 _ Tryz.underlying32 hi hz0 .i64 .i64 l.length l.length (by omega) (by omega) (by rw [hz2]; omega) (by omega)
  simpa [hz1] using h
 clear hi hz0 hz1 hz2
 have BN : Blk (w.alloc (.cells (madeCells (.agg #[.int .i64 0, .int .i64 0, .int .i64 0] : Value).cells (l.length * 3)) 65)) w.heap.size 65 (l.length * 3) := by
  have h := Blk.new w (madeCells (.agg #[.int .i64 0, .int .i64 0, .int .i64 0] : Value).cells (l.length * 3)) 65
  rwa [size_madeCells] at h
 go_enter Tryz.func62, Tryz.ntmps62
 go_wp2
 clear hmk
 go_loopw [11] (fun i wr => ∃ k : Nat, k <= l.length /\ i = .int .i64 k /\ wr.rangeAt w.heap.size 0 (qz9 ndC (l.take k)) /\ Blk wr w.heap.size 65 (l.length * 3) /\ w.heap.size < wr.heap.size /\ Below w.heap.size w wr) (fun i _ => l.length - (intOf i).toNat)
 case atStart => exact ⟨0, Nat.zero_le _, rfl, by simp [qz9, World.rangeAt], BN, by simp, (Below.refl _ _).alloc (Nat.le_refl _) _⟩
 case round =>
  obtain ⟨k, hk, rfl, R, TB, hz, bel⟩ := hrel
  have T := TB.there 0 (l.length * 3) (by omega)
  by_cases hlt : k < l.length
  ·rcases hS with h0 | ⟨bb, off, rfl, hbb, R0⟩
   ·omega
   ·obtain ⟨pb, po, hp1, hp2, hp3⟩ := (Q.below (bel.mono hB)).at' k hlt
    have hkp : k < ps.length := by rw [Q.len]; exact hlt
    have hc : wr.cell? ⟨bb, off + k, none⟩ = some (.pointer (some ⟨pb, po, none⟩)) := by
     have h1 := (qza (sz := 1) (f := ptrC) (fun _ => rfl) (qz0 R0 (bel.mono hB) hbb) k hkp) 0 (.pointer (some ps[k])) rfl
     rw [List.getElem?_eq_getElem hkp] at hp1
     rw [Option.some.inj hp1, Nat.mul_one, Nat.add_zero] at h1
     exact h1
    clear R0 hp1 hkp
    have hk3 : k * 3 + 3 <= l.length * 3 := by omega
    have hlen : (qz9 ndC (l.take k)).length = k * 3 := by rw [qzj (sz := 3) (fun _ => rfl), List.length_take]; omega
    have T2 := qz1f T (k * 3) 3 hk3
    have G := qz1u R (vs := ndC l[k]) (by rw [hlen]; exact T2)
    rw [hlen, <- qz1c, <- List.take_succ_eq_append_getElem hlt] at G
    simp only [Nat.zero_add] at G T2
    clear R hlen
    go_wp2_with (first | (refine wpList_load_mid rfl 65 (.tmp 19) rfl pb po rfl (ndC l[k]) _ ?hc Tryz.underlying65 rfl (qz83 _) ?_) | (refine wpList_store_mid rfl 65 (.tmp 21) (.tmp 20) rfl w.heap.size (k * 3) _ rfl rfl ?ht ?hi ?h1 ?_))
    case hc => exact hp3
    case ht => exact T2
    case hi => exact qz9l _
    case h1 => simp [ndC, Value.oneCell']
    go_roundw
    case rel => exact ⟨k + 1, by omega, by go_num, G, TB.setCells _ _ _, by rw [qz13]; omega, Below.setCells (Nat.le_refl _) _ _ _ bel⟩
    case measure => simp [intOf]; omega
  ·obtain rfl : k = l.length := by omega
   go_wp2
   go_ret
   exact ⟨rfl, by simpa using R, TB, hz, bel⟩
theorem qz5h (B : Nat) (v : Value) (l : List Vr) (w : World) (hB : B <= w.heap.size) (hl : l.length <= 1048576) (S : qz7v B w v vrC l) :
  Calls Tryz.prog 63 #[v] w fun e w' => e = .returned (.slice (some ⟨w.heap.size, 0, none⟩) l.length l.length) /\ w'.rangeAt w.heap.size 0 (qz9 vrC l) /\ Blk w' w.heap.size 80 (l.length * 5) /\ w.heap.size < w'.heap.size /\ Below w.heap.size w w' := by
 obtain ⟨ps, ⟨a, cap, rfl, hS⟩, Q⟩ := S
 obtain ⟨i0, hi, hz0, hz1, hz2⟩ := info_parts qz7x
 have hmk : ∀ w : World, (Instr.makeSlice 33 (.int .i64 (l.length : Int)) (.int .i64 (l.length : Int))).run Tryz.prog w = .ok (.slice (some ⟨w.heap.size, 0, none⟩) l.length l.length) (w.alloc (.cells (madeCells (.agg #[.int .i64 0, .bool false, .int .i64 0, .int .i64 0, .int .i64 0] : Value).cells (l.length * 5)) 80)) := by
  intro w
  have h := run_make (P := Tryz.prog) w 33 80 i0 _ Tryz.underlying33 hi hz0 .i64 .i64 l.length l.length (by omega) (by omega) (by rw [hz2]; omega) (by omega)
  simpa [hz1] using h
 clear hi hz0 hz1 hz2
 have BN : Blk (w.alloc (.cells (madeCells (.agg #[.int .i64 0, .bool false, .int .i64 0, .int .i64 0, .int .i64 0] : Value).cells (l.length * 5)) 80)) w.heap.size 80 (l.length * 5) := by
  have h := Blk.new w (madeCells (.agg #[.int .i64 0, .bool false, .int .i64 0, .int .i64 0, .int .i64 0] : Value).cells (l.length * 5)) 80
  rwa [size_madeCells] at h
 go_enter Tryz.func63, Tryz.ntmps63
 go_wp2
 clear hmk
 go_loopw [11] (fun i wr => ∃ k : Nat, k <= l.length /\ i = .int .i64 k /\ wr.rangeAt w.heap.size 0 (qz9 vrC (l.take k)) /\ Blk wr w.heap.size 80 (l.length * 5) /\ w.heap.size < wr.heap.size /\ Below w.heap.size w wr) (fun i _ => l.length - (intOf i).toNat)
 case atStart => exact ⟨0, Nat.zero_le _, rfl, by simp [qz9, World.rangeAt], BN, by simp, (Below.refl _ _).alloc (Nat.le_refl _) _⟩
 case round =>
  obtain ⟨k, hk, rfl, R, TB, hz, bel⟩ := hrel
  have T := TB.there 0 (l.length * 5) (by omega)
  by_cases hlt : k < l.length
  ·rcases hS with h0 | ⟨bb, off, rfl, hbb, R0⟩
   ·omega
   ·obtain ⟨pb, po, hp1, hp2, hp3⟩ := (Q.below (bel.mono hB)).at' k hlt
    have hkp : k < ps.length := by rw [Q.len]; exact hlt
    have hc : wr.cell? ⟨bb, off + k, none⟩ = some (.pointer (some ⟨pb, po, none⟩)) := by
     have h1 := (qza (sz := 1) (f := ptrC) (fun _ => rfl) (qz0 R0 (bel.mono hB) hbb) k hkp) 0 (.pointer (some ps[k])) rfl
     rw [List.getElem?_eq_getElem hkp] at hp1
     rw [Option.some.inj hp1, Nat.mul_one, Nat.add_zero] at h1
     exact h1
    clear R0 hp1 hkp
    have hk5 : k * 5 + 5 <= l.length * 5 := by omega
    have hlen : (qz9 vrC (l.take k)).length = k * 5 := by rw [qzj (sz := 5) (fun _ => rfl), List.length_take]; omega
    have T2 := qz1f T (k * 5) 5 hk5
    have G := qz1u R (vs := vrC l[k]) (by rw [hlen]; exact T2)
    rw [hlen, <- qz1c, <- List.take_succ_eq_append_getElem hlt] at G
    simp only [Nat.zero_add] at G T2
    clear R hlen
    go_wp2_with (first | (refine wpList_load_mid rfl 80 (.tmp 19) rfl pb po rfl (vrC l[k]) _ ?hc Tryz.underlying80 rfl (qz9t _) ?_) | (refine wpList_store_mid rfl 80 (.tmp 21) (.tmp 20) rfl w.heap.size (k * 5) _ rfl rfl ?ht ?hi ?h1 ?_))
    case hc => exact hp3
    case ht => exact T2
    case hi => exact qzao _
    case h1 => simp [vrC, Value.oneCell']
    go_roundw
    case rel => exact ⟨k + 1, by omega, by go_num, G, TB.setCells _ _ _, by rw [qz13]; omega, Below.setCells (Nat.le_refl _) _ _ _ bel⟩
    case measure => simp [intOf]; omega
  ·obtain rfl : k = l.length := by omega
   go_wp2
   go_ret
   exact ⟨rfl, by simpa using R, TB, hz, bel⟩
theorem qz3l (B : Nat) (v : Value) (l : List Int) (w : World) (hB : B <= w.heap.size) (hl : l.length <= 1048576) (S : qzh B w v l.length (qz9 intC l)) :
  Calls Tryz.prog 54 #[v] w fun e w' => e = .returned (.slice (some ⟨w.heap.size, 0, none⟩) l.length l.length) /\ w'.rangeAt w.heap.size 0 (qz9 intC l) /\ Blk w' w.heap.size 2 l.length /\ w.heap.size < w'.heap.size /\ Below w.heap.size w w' :=
 (qz37 B v l w hB hl S).mono (fun e w' h => ⟨h.1, h.2.2.1, h.2.1, h.2.1.lt, h.2.2.2⟩)
theorem qz9w (B : Nat) (cb : Nat) (s g n r : Value) (A : Ar) (w : World) (hB : B <= w.heap.size) (hA : A.size <= 1048576) (C : qz6r B w cb s g n r A) :
  Calls Tryz.prog 29 #[.pointer (some ⟨cb, 0, none⟩)] w fun e w' => ∃ s' g' n' r' b0 b1 b2 b3, e = .returned (.agg #[.int .i64 A.camera, s', g', n', r']) /\ qzm w.heap.size w' s' g' n' r' A b0 b1 b2 b3 /\ TypA w' A b0 b1 b2 b3 /\ Below w.heap.size w w' := by
 unfold Ar.size at hA
 have hne : cb ≠ w.heap.size := by have := C.blk; omega
 have hne' : w.heap.size ≠ cb := hne.symm
 have K0 : Below w.heap.size w (w.alloc (Obj.cells #[.int .i64 0, .slice none 0 0, .slice none 0 0, .slice none 0 0, .slice none 0 0] 35)) := (Below.refl _ _).alloc (Nat.le_refl _) _
 have Z0 : (w.alloc (Obj.cells #[.int .i64 0, .slice none 0 0, .slice none 0 0, .slice none 0 0, .slice none 0 0] 35)).rangeAt w.heap.size 0 [.int .i64 0, .slice none 0 0, .slice none 0 0, .slice none 0 0, .slice none 0 0] := qz5 w [.int .i64 0, .slice none 0 0, .slice none 0 0, .slice none 0 0, .slice none 0 0] 35
 have F0 : (w.alloc (Obj.cells #[.int .i64 0, .slice none 0 0, .slice none 0 0, .slice none 0 0, .slice none 0 0] 35)).there w.heap.size 0 5 := qzf w #[.int .i64 0, .slice none 0 0, .slice none 0 0, .slice none 0 0, .slice none 0 0] 35 5 (by decide)
 have hz0 : w.heap.size < (w.alloc (Obj.cells #[.int .i64 0, .slice none 0 0, .slice none 0 0, .slice none 0 0, .slice none 0 0] 35)).heap.size := by simp
 have tk0 : True := trivial
 go_enter Tryz.func29, Tryz.ntmps29
 go_wp2
 generalize w.alloc (Obj.cells #[.int .i64 0, .slice none 0 0, .slice none 0 0, .slice none 0 0, .slice none 0 0] 35) = w0 at K0 Z0 F0 hz0 ⊢
 obtain ⟨x0, x1, x2, x3, x4⟩ := row5 (C.below (K0.mono hB)).row
 go_region_held3 (fun w' => w'.cell? ⟨cb, 0, none⟩ = some (.int .i64 A.camera) /\ w'.cell? ⟨cb, 1, none⟩ = some s /\ w'.cell? ⟨cb, 2, none⟩ = some g /\ w'.cell? ⟨cb, 3, none⟩ = some n /\ w'.cell? ⟨cb, 4, none⟩ = some r) (go_keep) (first
  | (clear tk0; go_at_call 54; refine (qz3l B s A.slots _ (by exact (Nat.le_trans hB K0.size)) (by omega) (by exact (C.below ((K0.drew).mono hB)).s)).mono ?_; rintro e w1 ⟨rfl, R1, U1, z1, b1⟩; have tk1 : True := trivial; have L1 : Below w0.heap.size w0 w1 := (by exact ⟨b1.os, b1.tape, b1.output, b1.size, b1.block⟩); have K1 : Below w.heap.size w w1 := (by exact K0.trans (L1.mono (by exact K0.size))); have Z1 := qz0 Z0 L1 hz0; have F1 := qz3 F0 L1 hz0; have hz1 := Nat.lt_of_lt_of_le hz0 L1.size; obtain ⟨y0, y1, y2, y3, y4⟩ := row5 (C.below (K1.mono hB)).row)
  | (clear tk1; go_at_call 54; refine (qz3l B g A.guides _ (by exact (Nat.le_trans hB K1.size)) (by omega) (by exact (C.below (K1.mono hB)).g)).mono ?_; rintro e w2 ⟨rfl, R2, U2, z2, b2⟩; have tk2 : True := trivial; have K2 : Below w.heap.size w w2 := (by exact K1.trans (b2.mono (by exact K1.size))); have Z2 := qz0 Z1 b2 hz1; have F2 := qz3 F1 b2 hz1; have hz2 := Nat.lt_of_lt_of_le hz1 b2.size; obtain ⟨y0, y1, y2, y3, y4⟩ := row5 (C.below (K2.mono hB)).row)
  | (clear tk2; go_at_call 62; refine (qz4m B n A.nodes _ (by exact (Nat.le_trans hB K2.size)) (by omega) (by exact (C.below (K2.mono hB)).n)).mono ?_; rintro e w3 ⟨rfl, R3, U3, z3, b3⟩; have tk3 : True := trivial; have K3 : Below w.heap.size w w3 := (by exact K2.trans (b3.mono (by exact K2.size))); have Z3 := qz0 Z2 b3 hz2; have F3 := qz3 F2 b3 hz2; have hz3 := Nat.lt_of_lt_of_le hz2 b3.size; obtain ⟨y0, y1, y2, y3, y4⟩ := row5 (C.below (K3.mono hB)).row)
  | (clear tk3; go_at_call 63; refine (qz5h B r A.vers _ (by exact (Nat.le_trans hB K3.size)) (by omega) (by exact (C.below (K3.mono hB)).r)).mono ?_; rintro e w4 ⟨rfl, R4, U4, z4, b4⟩; have tk4 : True := trivial; have K4 : Below w.heap.size w w4 := (by exact K3.trans (b4.mono (by exact K3.size))); have Z4 := qz0 Z3 b4 hz3; have F4 := qz3 F3 b4 hz3; have hz4 := Nat.lt_of_lt_of_le hz3 b4.size; obtain ⟨y0, y1, y2, y3, y4⟩ := row5 (C.below (K4.mono hB)).row; obtain ⟨u0, u1, u2, u3, u4⟩ := row5 Z4; have v0 : w4.frozen? ⟨w.heap.size, 0, none⟩ = false := (by have := (F4 0 (by omega)).2; simpa using this); have v1 : w4.frozen? ⟨w.heap.size, 1, none⟩ = false := (by have := (F4 1 (by omega)).2; simpa using this); have v2 : w4.frozen? ⟨w.heap.size, 2, none⟩ = false := (by have := (F4 2 (by omega)).2; simpa using this); have v3 : w4.frozen? ⟨w.heap.size, 3, none⟩ = false := (by have := (F4 3 (by omega)).2; simpa using this); have v4 : w4.frozen? ⟨w.heap.size, 4, none⟩ = false := (by have := (F4 4 (by omega)).2; simpa using this)))
 obtain ⟨vs, hvs⟩ : ∃ vs : List Value, vs = [.int .i64 A.camera, .slice (some ⟨w0.heap.size, 0, none⟩) A.slots.length A.slots.length, .slice (some ⟨w1.heap.size, 0, none⟩) A.guides.length A.guides.length, .slice (some ⟨w2.heap.size, 0, none⟩) A.nodes.length A.nodes.length, .slice (some ⟨w3.heap.size, 0, none⟩) A.vers.length A.vers.length] := ⟨_, rfl⟩
 have hW : ((((w4.setCell ⟨w.heap.size, 0, none⟩ (.int .i64 A.camera)).setCell ⟨w.heap.size, 1, none⟩ (.slice (some ⟨w0.heap.size, 0, none⟩) A.slots.length A.slots.length)).setCell ⟨w.heap.size, 2, none⟩ (.slice (some ⟨w1.heap.size, 0, none⟩) A.guides.length A.guides.length)).setCell ⟨w.heap.size, 3, none⟩ (.slice (some ⟨w2.heap.size, 0, none⟩) A.nodes.length A.nodes.length)).setCell ⟨w.heap.size, 4, none⟩ (.slice (some ⟨w3.heap.size, 0, none⟩) A.vers.length A.vers.length) = w4.setCells w.heap.size 0 vs := by rw [hvs]; rfl
 rw [hW]
 have e0 : w0.drew.heap.size = w0.heap.size := rfl
 rw [e0] at R1 U1 z1
 have T1 := U1.there 0 A.slots.length (by omega)
 have T2 := U2.there 0 A.guides.length (by omega)
 have T3 := U3.there 0 (A.nodes.length * 3) (by omega)
 have T4 := U4.there 0 (A.vers.length * 5) (by omega)
 have V0 : TypA (w4.setCells w.heap.size 0 vs) A w0.heap.size w1.heap.size w2.heap.size w3.heap.size := ⟨fun _ => ⟨_, ((U1.below b2 U1.lt).grown b3 |>.grown b4).setCells _ _ _⟩, fun _ => ⟨_, ((U2.grown b3).grown b4).setCells _ _ _⟩, fun _ => ⟨_, (U3.grown b4).setCells _ _ _⟩, fun _ => ⟨_, U4.setCells _ _ _⟩⟩
 have k1 := K1.size
 have k2 := b2.size
 have k3 := b3.size
 have k4 := b4.size
 have l1 := L1.size
 have RR : (w4.setCells w.heap.size 0 vs).rangeAt w.heap.size 0 vs := World.rangeAt_setCells_same _ _ _ _ (by rw [hvs]; exact F4)
 have N0 : qz11 w.heap.size (w4.setCells w.heap.size 0 vs) (.slice (some ⟨w0.heap.size, 0, none⟩) A.slots.length A.slots.length) A.slots.length 1 (qz9 intC A.slots) w0.heap.size :=
  ⟨_, _, 0, rfl, Or.inr ⟨rfl, by omega, by rw [qz13]; omega, World.rangeAt_setCells_apart (qz0 (qz0 (qz0 R1 b2 (by omega)) b3 (by omega)) b4 (by omega)) _ _ _ (Or.inl (by omega)), by rw [Nat.mul_one]; exact World.there_setCells (qz3 (qz3 (qz3 T1 b2 (by omega)) b3 (by omega)) b4 (by omega)) _ _ _⟩⟩
 have N1 : qz11 w.heap.size (w4.setCells w.heap.size 0 vs) (.slice (some ⟨w1.heap.size, 0, none⟩) A.guides.length A.guides.length) A.guides.length 1 (qz9 intC A.guides) w1.heap.size :=
  ⟨_, _, 0, rfl, Or.inr ⟨rfl, by omega, by rw [qz13]; omega, World.rangeAt_setCells_apart (qz0 (qz0 R2 b3 (by omega)) b4 (by omega)) _ _ _ (Or.inl (by omega)), by rw [Nat.mul_one]; exact World.there_setCells (qz3 (qz3 T2 b3 (by omega)) b4 (by omega)) _ _ _⟩⟩
 have N2 : qz11 w.heap.size (w4.setCells w.heap.size 0 vs) (.slice (some ⟨w2.heap.size, 0, none⟩) A.nodes.length A.nodes.length) A.nodes.length 3 (qz9 ndC A.nodes) w2.heap.size :=
  ⟨_, _, 0, rfl, Or.inr ⟨rfl, by omega, by rw [qz13]; omega, World.rangeAt_setCells_apart (qz0 R3 b4 (by omega)) _ _ _ (Or.inl (by omega)), World.there_setCells (qz3 T3 b4 (by omega)) _ _ _⟩⟩
 have N3 : qz11 w.heap.size (w4.setCells w.heap.size 0 vs) (.slice (some ⟨w3.heap.size, 0, none⟩) A.vers.length A.vers.length) A.vers.length 5 (qz9 vrC A.vers) w3.heap.size :=
  ⟨_, _, 0, rfl, Or.inr ⟨rfl, by omega, by rw [qz13]; omega, World.rangeAt_setCells_apart R4 _ _ _ (Or.inl (by omega)), World.there_setCells T4 _ _ _⟩⟩
 have KF := Below.setCells (Nat.le_refl w.heap.size) vs 0 _ K4
 clear hW R1 R2 R3 R4 T1 T2 T3 T4 u0 u1 u2 u3 u4 v0 v1 v2 v3 v4 F0 F1 F2 F3 F4 Z0 Z1 Z2 Z3 Z4
 go_wp2
 refine bodyPost_ret (v := .agg #[.int .i64 A.camera, .slice (some ⟨w0.heap.size, 0, none⟩) A.slots.length A.slots.length, .slice (some ⟨w1.heap.size, 0, none⟩) A.guides.length A.guides.length, .slice (some ⟨w2.heap.size, 0, none⟩) A.nodes.length A.nodes.length, .slice (some ⟨w3.heap.size, 0, none⟩) A.vers.length A.vers.length]) ?_ rfl ⟨_, _, _, _, _, _, _, _, rfl, ⟨N0, N1, N2, N3, by omega, by omega, by omega, by omega, by omega, by omega⟩, V0, KF⟩
 subst hvs
 exact qz4 Tryz.results29 _ _ w.heap.size 0 rfl [.int .i64 A.camera, .slice (some ⟨w0.heap.size, 0, none⟩) A.slots.length A.slots.length, .slice (some ⟨w1.heap.size, 0, none⟩) A.guides.length A.guides.length, .slice (some ⟨w2.heap.size, 0, none⟩) A.nodes.length A.nodes.length, .slice (some ⟨w3.heap.size, 0, none⟩) A.vers.length A.vers.length] _ RR Tryz.underlying35 rfl qz64
end
section
attribute [local go_sem ↓] Go.wp_at_zero Go.wp_at_succ
def qzbl : Ar := ⟨0, [], [], [], []⟩
def qz15 (x y z u : Int) (A : Ar) (me : Int) (h : Hd) (clk : Int) : Bool := fitB x y z u A me h clk && inB h.at_ 2 5
def qz1j (x y z u : Int) (A : Ar) (me : Int) (h : Hd) (clk : Int) : Ar × Hd × Dd := if qz15 x y z u A me h clk = true then qz1h A h qz29 clk else (qzbl, qz8u, qz29)
theorem qz4s {x y z u : Int} {A : Ar} {me : Int} {h : Hd} {clk : Int} (e : qz15 x y z u A me h clk = false) : qz1j x y z u A me h clk = (qzbl, qz8u, qz29) := by rw [qz1j, if_neg (by rw [e]; decide)]
theorem qz4d {x y z u : Int} {A : Ar} {me : Int} {h : Hd} {clk : Int} (e : qz15 x y z u A me h clk = true) : qz1j x y z u A me h clk = qz1h A h qz29 clk := by rw [qz1j, if_pos e]
theorem qzal (lo : Nat) (w : World) : qzm lo w (.slice none 0 0) (.slice none 0 0) (.slice none 0 0) (.slice none 0 0) qzbl 0 1 2 3 :=
 ⟨⟨_, _, 0, rfl, Or.inl rfl⟩, ⟨_, _, 0, rfl, Or.inl rfl⟩, ⟨_, _, 0, rfl, Or.inl rfl⟩, ⟨_, _, 0, rfl, Or.inl rfl⟩, by decide, by decide, by decide, by decide, by decide, by decide⟩
theorem qzam (w : World) : TypA w qzbl 0 1 2 3 := ⟨fun p => absurd p (Nat.lt_irrefl 0), fun p => absurd p (Nat.lt_irrefl 0), fun p => absurd p (Nat.lt_irrefl 0), fun p => absurd p (Nat.lt_irrefl 0)⟩
theorem qzm.elder' {lo c : Nat} {w w' : World} {s g n r : Value} {A : Ar} {b0 b1 b2 b3 : Nat} (N : qzm lo w s g n r A b0 b1 b2 b3) (hc : c < lo) (k : Only c w w') : qzm lo w' s g n r A b0 b1 b2 b3 := by
 have O : But (fun q => q = c) w w' := But.of_only k rfl
 exact ⟨N.s.but O (fun h e => by have := N.s.lt h; omega), N.g.but O (fun h e => by have := N.g.lt h; omega), N.n.but O (fun h e => by have := N.n.lt h; omega), N.r.but O (fun h e => by have := N.r.lt h; omega), N.d01, N.d02, N.d03, N.d12, N.d13, N.d23⟩
def qz5z (w : World) (R : Ar × Hd × Dd) (ok : Bool) (e : Ending) (w' : World) : Prop := ∃ s g n r b0 b1 b2 b3, e = .returned (.tuple #[.agg (qzl R.1.camera s g n r R.2.1 R.2.2 false).toArray, .bool ok]) /\ qzm w.heap.size w' s g n r R.1 b0 b1 b2 b3 /\ TypA w' R.1 b0 b1 b2 b3 /\ Below w.heap.size w w'
theorem qz5z.of {w w' : World} {A : Ar} {h : Hd} {d : Dd} {ok : Bool} {e : Ending} {s g n r : Value} {b0 b1 b2 b3 : Nat} (h1 : e = .returned (.tuple #[.agg (qzl A.camera s g n r h d false).toArray, .bool ok])) (h2 : qzm w.heap.size w' s g n r A b0 b1 b2 b3) (h4 : TypA w' A b0 b1 b2 b3) (h3 : Below w.heap.size w w') : qz5z w (A, h, d) ok e w' := ⟨s, g, n, r, b0, b1, b2, b3, h1, h2, h4, h3⟩
def NewA (lo : Nat) (A : Ar) (x : Value) (w : World) : Prop := ∃ s g n r b0 b1 b2 b3, x = .agg #[.int .i64 A.camera, s, g, n, r] /\ qzm lo w s g n r A b0 b1 b2 b3 /\ TypA w A b0 b1 b2 b3
theorem NewA.kept {lo : Nat} {A : Ar} {x : Value} {w w' : World} (h : NewA lo A x w) (hb : Below w.heap.size w w') : NewA lo A x w' := by
 obtain ⟨s, g, n, r, b0, b1, b2, b3, e, N, Ty⟩ := h
 exact ⟨s, g, n, r, b0, b1, b2, b3, e, N.below hb, Ty.kept hb⟩
def qz61 (lo cb : Nat) (A : Ar) (h : Hd) (d : Dd) : Nat -> Value -> World -> Prop
 | 0, x, _ => x = .pointer (some ⟨cb, 0, none⟩)
 | 1, x, w => NewA lo A x w
 | 2, x, _ => x = .agg (hdC h).toArray
 | 3, x, _ => x = .agg (ddC d).toArray
 | 4, x, w => ∃ a0 a1 a2 a3 c0 c1 c2 c3 b0 b1 b2 b3, x = .agg (qzl A.camera (.slice a0 A.slots.length c0) (.slice a1 A.guides.length c1) (.slice a2 A.nodes.length c2) (.slice a3 A.vers.length c3) h d false).toArray /\ qzm lo w (.slice a0 A.slots.length c0) (.slice a1 A.guides.length c1) (.slice a2 A.nodes.length c2) (.slice a3 A.vers.length c3) A b0 b1 b2 b3 /\ TypA w A b0 b1 b2 b3
 | _, _, _ => True
theorem qz4e {lo cb : Nat} {A : Ar} {h : Hd} {d : Dd} (i : Nat) (x : Value) (w w' : World) (hq : qz61 lo cb A h d i x w) (hb : Below w.heap.size w w') : qz61 lo cb A h d i x w' := by
 match i, hq with
 | 0, h | 2, h | 3, h => exact h
 | 1, h => exact NewA.kept h hb
 | 4, h =>
  obtain ⟨a0, a1, a2, a3, c0, c1, c2, c3, b0, b1, b2, b3, e, N, Ty⟩ := h
  exact ⟨a0, a1, a2, a3, c0, c1, c2, c3, b0, b1, b2, b3, e, N.below hb, Ty.kept hb⟩
 | n + 5, h => exact trivial
theorem qzq {lo : Nat} {w : World} {v : Value} {len sz : Nat} {cs : List Value} {b : Nat} (N : qz11 lo w v len sz cs b) : ∃ a c, v = .slice a len c := by
 obtain ⟨a, c, o, e, -⟩ := N
 exact ⟨a, c, e⟩
theorem qz55 (B : Nat) (A : Ar) (x y z u me : Int) (h : Hd) (clk : Int) (a0 a1 a2 a3 : Option Addr) (c0 c1 c2 c3 : Nat) (w : World) (hB : B <= w.heap.size) (hA : A.size <= 1048576) (I : qzi B w (.slice a0 A.slots.length c0) (.slice a1 A.guides.length c1) (.slice a2 A.nodes.length c2) (.slice a3 A.vers.length c3) A) :
  Calls Tryz.prog 9 #[.agg #[.int .i64 x, .int .i64 y, .int .i64 z, .int .i64 u], .agg #[.int .i64 A.camera, .slice a0 A.slots.length c0, .slice a1 A.guides.length c1, .slice a2 A.nodes.length c2, .slice a3 A.vers.length c3], .int .i64 me, .agg (hdC h).toArray, .int .i64 clk] w fun e w' => qz5z w (qz1j x y z u A me h clk) (qz15 x y z u A me h clk) e w' := by
 have hA' := hA
 unfold Ar.size at hA
 have P0 := World.rangeAt_alloc (World.rangeAt_alloc (World.rangeAt_alloc (qz5 w [.int .i64 x, .int .i64 y, .int .i64 z, .int .i64 u] 43) (.cells #[.int .i64 A.camera, .slice a0 A.slots.length c0, .slice a1 A.guides.length c1, .slice a2 A.nodes.length c2, .slice a3 A.vers.length c3] 35)) (.cells (hdC h).toArray 36)) (.cells #[.int .i64 0, .slice none 0 0, .slice none 0 0, .slice none 0 0, .slice none 0 0, .int .i64 0, .int .i64 0, .int .i64 0, .int .i64 0, .int .i64 0, .int .i64 0, .int .i64 0, .int .i64 0, .int .i64 0, .int .i64 0, .int .i64 0, .int .i64 0, .int .i64 0, .int .i64 0, .int .i64 0, .int .i64 0, .int .i64 0, .int .i64 0, .int .i64 0, .int .i64 0, .int .i64 0, .int .i64 0, .int .i64 0, .int .i64 0, .int .i64 0, .int .i64 0, .int .i64 0, .bool false] 40)
 have X0 := World.rangeAt_alloc (World.rangeAt_alloc (qz5 (w.alloc (.cells #[.int .i64 x, .int .i64 y, .int .i64 z, .int .i64 u] 43)) [.int .i64 A.camera, .slice a0 A.slots.length c0, .slice a1 A.guides.length c1, .slice a2 A.nodes.length c2, .slice a3 A.vers.length c3] 35) (.cells (hdC h).toArray 36)) (.cells #[.int .i64 0, .slice none 0 0, .slice none 0 0, .slice none 0 0, .slice none 0 0, .int .i64 0, .int .i64 0, .int .i64 0, .int .i64 0, .int .i64 0, .int .i64 0, .int .i64 0, .int .i64 0, .int .i64 0, .int .i64 0, .int .i64 0, .int .i64 0, .int .i64 0, .int .i64 0, .int .i64 0, .int .i64 0, .int .i64 0, .int .i64 0, .int .i64 0, .int .i64 0, .int .i64 0, .int .i64 0, .int .i64 0, .int .i64 0, .int .i64 0, .int .i64 0, .int .i64 0, .bool false] 40)
 have H0 := World.rangeAt_alloc (qz5 ((w.alloc (.cells #[.int .i64 x, .int .i64 y, .int .i64 z, .int .i64 u] 43)).alloc (.cells #[.int .i64 A.camera, .slice a0 A.slots.length c0, .slice a1 A.guides.length c1, .slice a2 A.nodes.length c2, .slice a3 A.vers.length c3] 35)) (hdC h) 36) (.cells #[.int .i64 0, .slice none 0 0, .slice none 0 0, .slice none 0 0, .slice none 0 0, .int .i64 0, .int .i64 0, .int .i64 0, .int .i64 0, .int .i64 0, .int .i64 0, .int .i64 0, .int .i64 0, .int .i64 0, .int .i64 0, .int .i64 0, .int .i64 0, .int .i64 0, .int .i64 0, .int .i64 0, .int .i64 0, .int .i64 0, .int .i64 0, .int .i64 0, .int .i64 0, .int .i64 0, .int .i64 0, .int .i64 0, .int .i64 0, .int .i64 0, .int .i64 0, .int .i64 0, .bool false] 40)
 have G0 := World.there_alloc (qzf ((w.alloc (.cells #[.int .i64 x, .int .i64 y, .int .i64 z, .int .i64 u] 43)).alloc (.cells #[.int .i64 A.camera, .slice a0 A.slots.length c0, .slice a1 A.guides.length c1, .slice a2 A.nodes.length c2, .slice a3 A.vers.length c3] 35)) (hdC h).toArray 36 22 (by simp [hdC])) (.cells #[.int .i64 0, .slice none 0 0, .slice none 0 0, .slice none 0 0, .slice none 0 0, .int .i64 0, .int .i64 0, .int .i64 0, .int .i64 0, .int .i64 0, .int .i64 0, .int .i64 0, .int .i64 0, .int .i64 0, .int .i64 0, .int .i64 0, .int .i64 0, .int .i64 0, .int .i64 0, .int .i64 0, .int .i64 0, .int .i64 0, .int .i64 0, .int .i64 0, .int .i64 0, .int .i64 0, .int .i64 0, .int .i64 0, .int .i64 0, .int .i64 0, .int .i64 0, .int .i64 0, .bool false] 40)
 have F0 := qzf (((w.alloc (.cells #[.int .i64 x, .int .i64 y, .int .i64 z, .int .i64 u] 43)).alloc (.cells #[.int .i64 A.camera, .slice a0 A.slots.length c0, .slice a1 A.guides.length c1, .slice a2 A.nodes.length c2, .slice a3 A.vers.length c3] 35)).alloc (.cells (hdC h).toArray 36)) #[.int .i64 0, .slice none 0 0, .slice none 0 0, .slice none 0 0, .slice none 0 0, .int .i64 0, .int .i64 0, .int .i64 0, .int .i64 0, .int .i64 0, .int .i64 0, .int .i64 0, .int .i64 0, .int .i64 0, .int .i64 0, .int .i64 0, .int .i64 0, .int .i64 0, .int .i64 0, .int .i64 0, .int .i64 0, .int .i64 0, .int .i64 0, .int .i64 0, .int .i64 0, .int .i64 0, .int .i64 0, .int .i64 0, .int .i64 0, .int .i64 0, .int .i64 0, .int .i64 0, .bool false] 40 33 (by decide)
 have K0 := ((((Below.refl w.heap.size w).alloc (Nat.le_refl _) (.cells #[.int .i64 x, .int .i64 y, .int .i64 z, .int .i64 u] 43)).alloc (by simp) (.cells #[.int .i64 A.camera, .slice a0 A.slots.length c0, .slice a1 A.guides.length c1, .slice a2 A.nodes.length c2, .slice a3 A.vers.length c3] 35)).alloc (by simp; omega) (.cells (hdC h).toArray 36)).alloc (by simp; omega) (.cells #[.int .i64 0, .slice none 0 0, .slice none 0 0, .slice none 0 0, .slice none 0 0, .int .i64 0, .int .i64 0, .int .i64 0, .int .i64 0, .int .i64 0, .int .i64 0, .int .i64 0, .int .i64 0, .int .i64 0, .int .i64 0, .int .i64 0, .int .i64 0, .int .i64 0, .int .i64 0, .int .i64 0, .int .i64 0, .int .i64 0, .int .i64 0, .int .i64 0, .int .i64 0, .int .i64 0, .int .i64 0, .int .i64 0, .int .i64 0, .int .i64 0, .int .i64 0, .int .i64 0, .bool false] 40)
 have hz0 : w.heap.size + 1 + 1 + 1 < ((((w.alloc (.cells #[.int .i64 x, .int .i64 y, .int .i64 z, .int .i64 u] 43)).alloc (.cells #[.int .i64 A.camera, .slice a0 A.slots.length c0, .slice a1 A.guides.length c1, .slice a2 A.nodes.length c2, .slice a3 A.vers.length c3] 35)).alloc (.cells (hdC h).toArray 36)).alloc (.cells #[.int .i64 0, .slice none 0 0, .slice none 0 0, .slice none 0 0, .slice none 0 0, .int .i64 0, .int .i64 0, .int .i64 0, .int .i64 0, .int .i64 0, .int .i64 0, .int .i64 0, .int .i64 0, .int .i64 0, .int .i64 0, .int .i64 0, .int .i64 0, .int .i64 0, .int .i64 0, .int .i64 0, .int .i64 0, .int .i64 0, .int .i64 0, .int .i64 0, .int .i64 0, .int .i64 0, .int .i64 0, .int .i64 0, .int .i64 0, .int .i64 0, .int .i64 0, .int .i64 0, .bool false] 40)).heap.size := by simp
 simp only [World.size_alloc] at X0 H0 G0 F0
 have I0 := I.below (K0.mono hB)
 go_enter Tryz.func9, Tryz.ntmps9
 go_upto_region 1 with fail
 generalize hw0 : (((w.alloc (.cells #[.int .i64 x, .int .i64 y, .int .i64 z, .int .i64 u] 43)).alloc (.cells #[.int .i64 A.camera, .slice a0 A.slots.length c0, .slice a1 A.guides.length c1, .slice a2 A.nodes.length c2, .slice a3 A.vers.length c3] 35)).alloc (.cells (hdC h).toArray 36)).alloc (.cells #[.int .i64 0, .slice none 0 0, .slice none 0 0, .slice none 0 0, .slice none 0 0, .int .i64 0, .int .i64 0, .int .i64 0, .int .i64 0, .int .i64 0, .int .i64 0, .int .i64 0, .int .i64 0, .int .i64 0, .int .i64 0, .int .i64 0, .int .i64 0, .int .i64 0, .int .i64 0, .int .i64 0, .int .i64 0, .int .i64 0, .int .i64 0, .int .i64 0, .int .i64 0, .int .i64 0, .int .i64 0, .int .i64 0, .int .i64 0, .int .i64 0, .int .i64 0, .int .i64 0, .bool false] 40) = w0 at *
 clear hw0 I
 have hB0 : B <= w0.heap.size := Nat.le_trans hB K0.size
 obtain ⟨x0, x1, x2, x3, x4⟩ := row5 X0
 obtain ⟨p0, p1, p2, p3⟩ : w0.cell? ⟨w.heap.size, 0, none⟩ = some (.int .i64 x) /\ w0.cell? ⟨w.heap.size, 1, none⟩ = some (.int .i64 y) /\ w0.cell? ⟨w.heap.size, 2, none⟩ = some (.int .i64 z) /\ w0.cell? ⟨w.heap.size, 3, none⟩ = some (.int .i64 u) := ⟨by simpa using P0 0 _ rfl, by simpa using P0 1 _ rfl, by simpa using P0 2 _ rfl, by simpa using P0 3 _ rfl⟩
 go_wp2_with (refine wpList_load_mid rfl 36 (.tmp 8) rfl (w.heap.size + 1 + 1) 0 ?lx0 (hdC h) _ ?lc0 Tryz.underlying36 rfl (qz1 h) ?_)
 try (case lx0 => rfl)
 try (case lc0 => exact H0)
 refine (qzbc B A x y z u me h clk a0 a1 a2 a3 c0 c1 c2 c3 _ hB0 hA' I0).mono ?_
 rintro e w1 ⟨rfl, b0⟩
 have X1 := qz0 X0 b0 (by omega)
 have H1 := qz0 H0 b0 (by omega)
 have G1 := qz3 G0 b0 (by omega)
 have F1 := qz3 F0 b0 (by omega)
 have K1 := K0.trans (b0.mono (by omega))
 have I1 := I0.below (b0.mono hB0)
 have hz1 := Nat.lt_of_lt_of_le hz0 b0.size
 have hB1 := Nat.le_trans hB0 b0.size
 clear P0 X0 H0 G0 F0 K0 I0 hz0 hB0 b0 x0 x1 x2 x3 x4 p0 p1 p2 p3
 obtain ⟨x0, x1, x2, x3, x4⟩ := row5 X1
 have zfin : ∀ (hb : qz15 x y z u A me h clk = false) (wz : World) (Fz : wz.there (w.heap.size + 1 + 1 + 1) 0 33) (Kz : Below w.heap.size w wz), qz5z w (qz1j x y z u A me h clk) (qz15 x y z u A me h clk) (.returned (.tuple #[.agg (qzl 0 (.slice none 0 0) (.slice none 0 0) (.slice none 0 0) (.slice none 0 0) qz8u qz29 false).toArray, .bool false])) (wz.setCells (w.heap.size + 1 + 1 + 1) 0 (qzl 0 (.slice none 0 0) (.slice none 0 0) (.slice none 0 0) (.slice none 0 0) qz8u qz29 false)) := by
  intro hb wz Fz Kz
  rw [qz4s hb, hb]
  exact qz5z.of rfl (qzal _ _) (qzam _) (Below.setCells (by omega) _ _ _ Kz)
 cases ef : fitB x y z u A me h clk
 case false =>
  have hb : qz15 x y z u A me h clk = false := by simp [qz15, ef]
  have hbH : Hid (qz15 x y z u A me h clk = false) := hb
  clear hb
  go_wp2_with (refine wpList_store_mid rfl 40 (.tmp 10) (.tmp 21) rfl (w.heap.size + 1 + 1 + 1) 0 (qzl 0 (.slice none 0 0) (.slice none 0 0) (.slice none 0 0) (.slice none 0 0) qz8u qz29 false).toArray ?hx1 ?hy1 ?ht1 (qz1t _ _ _ _ _ _ _ _) (qz2p _ _ _ _ _ _ _ _ _ _ _ _ _ _ _ _) ?_)
  try (case hx1 => rfl)
  try (case hy1 => rfl)
  case ht1 => exact F1
  refine bodyPost_ret (v := .tuple #[.agg (qzl 0 (.slice none 0 0) (.slice none 0 0) (.slice none 0 0) (.slice none 0 0) qz8u qz29 false).toArray, .bool false]) ?_ rfl (zfin hbH.out w1 F1 K1)
  exact qz1p Tryz.results9 _ _ (w.heap.size + 1 + 1 + 1) 0 rfl (qzl 0 (.slice none 0 0) (.slice none 0 0) (.slice none 0 0) (.slice none 0 0) qz8u qz29 false) _ (World.rangeAt_setCells_same _ _ _ _ F1) Tryz.underlying40 rfl (qzv _ _ _ _ _ _ _ _)
 have FI := qzbh ef
 have efH : Hid (fitB x y z u A me h clk = true) := ef
 clear ef
 go_wp2_with fail
 refine (qz8v B A a0 a1 a2 a3 c0 c1 c2 c3 w1 hB1 hA' I1).mono ?_
 rintro e w2 ⟨cb, s, g, n, r, ps, qs, rfl, C2, b2⟩
 have X2 := qz0 X1 b2 (by omega)
 have H2 := qz0 H1 b2 (by omega)
 have G2 := qz3 G1 b2 (by omega)
 have F2 := qz3 F1 b2 (by omega)
 have K2 := K1.trans (b2.mono (by omega))
 have I2 := I1.below (b2.mono hB1)
 have hz2 := Nat.lt_of_lt_of_le hz1 b2.size
 have hB2 := Nat.le_trans hB1 b2.size
 have hs12 := b2.size
 clear X1 H1 G1 F1 K1 I1 b2 x0 x1 x2 x3 x4
 have al0 := (Below.refl w2.heap.size w2).alloc (Nat.le_refl _) (.cells #[.int .i64 0, .int .i64 0, .int .i64 0, .int .i64 0, .int .i64 0] 38)
 have al := Below.setCells (Nat.le_refl _) (ddC qz29) 0 _ al0
 have D0 : Blk (w2.alloc (.cells #[.int .i64 0, .int .i64 0, .int .i64 0, .int .i64 0, .int .i64 0] 38)) w2.heap.size 38 5 := Blk.new w2 #[.int .i64 0, .int .i64 0, .int .i64 0, .int .i64 0, .int .i64 0] 38
 have D3 : Blk ((w2.alloc (.cells #[.int .i64 0, .int .i64 0, .int .i64 0, .int .i64 0, .int .i64 0] 38)).setCells w2.heap.size 0 (ddC qz29)) w2.heap.size 38 5 := D0.setCells _ _ _
 have E3 : ((w2.alloc (.cells #[.int .i64 0, .int .i64 0, .int .i64 0, .int .i64 0, .int .i64 0] 38)).setCells w2.heap.size 0 (ddC qz29)).rangeAt w2.heap.size 0 (ddC qz29) := World.rangeAt_setCells_same _ _ _ _ (D0.there 0 5 (by omega))
 have C3 := C2.grown al
 have X3 := qz0 X2 al (by omega)
 have H3 := qz0 H2 al (by omega)
 have G3 := qz3 G2 al (by omega)
 have F3 := qz3 F2 al (by omega)
 have K3 := K2.trans (al.mono (by omega))
 have I3 := I2.below (al.mono hB2)
 have hz3 := Nat.lt_of_lt_of_le hz2 al.size
 have hB3 := Nat.le_trans hB2 al.size
 have hs3 := al.size
 have hd3 := D3.lt
 clear X2 H2 G2 F2 K2 I2 C2 al al0
 go_upto_region 4 with (refine wpList_store_mid rfl 38 (.tmp 13) (.tmp 24) rfl w2.heap.size 0 (ddC qz29).toArray ?hx2 ?hy2 ?ht2 (qz25 _) (qz33 _) ?_)
 try (case hx2 => rfl)
 try (case hy2 => rfl)
 try (case ht2 => exact D0.there 0 5 (by omega))
 rename_i K1' h1 K2' h2
 have fin : ∀ (u14 u15 u16 u17 u18 u19 u20 u21 u22 u23 u24 u25 u26 u27 u28 u29 u30 u31 u32 u33 u34 u35 u36 u37 u38 u39 u40 u41 u42 u43 u44 u45 u46 u47 u48 u49 u50 u51 u52 u53 u54 u55 u56 u57 u58 u59 u60 : Value) (h9 : Hd) (d9 : Dd) (A9 : Ar) (w9 : World), qz1h A h qz29 clk = (A9, h9, d9) -> qz15 x y z u A me h clk = true -> A9.size <= 1048576 -> w9.rangeAt (w.heap.size + 1 + 1) 0 (hdC h9) -> w9.rangeAt w2.heap.size 0 (ddC d9) -> w9.there (w.heap.size + 1 + 1 + 1) 0 33 -> qz19 w1.heap.size w9 cb s g n r ps qs A9 -> Below w.heap.size w w9 -> w2.heap.size < w9.heap.size -> w.heap.size + 1 + 1 + 1 < w2.heap.size ->
   K1' { tmps := #[.agg #[.int .i64 x, .int .i64 y, .int .i64 z, .int .i64 u], .agg #[.int .i64 A.camera, .slice a0 A.slots.length c0, .slice a1 A.guides.length c1, .slice a2 A.nodes.length c2, .slice a3 A.vers.length c3], .int .i64 me, .agg (hdC h).toArray, .int .i64 clk, .pointer (some ⟨w.heap.size, 0, none⟩), .pointer (some ⟨w.heap.size + 1, 0, none⟩), undef, .pointer (some ⟨w.heap.size + 1 + 1, 0, none⟩), undef, .pointer (some ⟨w.heap.size + 1 + 1 + 1, 0, none⟩), .bool false, .pointer (some ⟨cb, 0, none⟩), .pointer (some ⟨w2.heap.size, 0, none⟩), u14, u15, u16, u17, u18, u19, u20, u21, u22, u23, u24, u25, u26, u27, u28, u29, u30, u31, u32, u33, u34, u35, u36, u37, u38, u39, u40, u41, u42, u43, u44, u45, u46, u47, u48, u49, u50, u51, u52, u53, u54, u55, u56, u57, u58, u59, u60, undef, undef, undef, undef, undef], defers := [] } w9 := by
  intro u14 u15 u16 u17 u18 u19 u20 u21 u22 u23 u24 u25 u26 u27 u28 u29 u30 u31 u32 u33 u34 u35 u36 u37 u38 u39 u40 u41 u42 u43 u44 u45 u46 u47 u48 u49 u50 u51 u52 u53 u54 u55 u56 u57 u58 u59 u60 h9 d9 A9 w9 hso hsb hA9 H9 E9 F9 C9 K9 hz9 hz9'
  refine h1 _ _ ?_
  clear h1 h2 K2'
  go_wp2_with fail
  have hz9'' : w.heap.size + 1 + 1 + 1 < w9.heap.size := by omega
  refine qz20 5 (by kernel_rfl) (qz61 w9.heap.size cb A9 h9 d9) (fun _ => false) (by kernel_rfl) (by kernel_rfl) (by kernel_rfl) (by kernel_rfl) (by rfl) (fun i v w w' _ h hb => qz4e i v w w' h hb) (fun i v w q hf h hq => by cases hf) ?step ?final
  case step =>
   intro i o hik ho a V hb hnn hd K hK
   have HV := qz0 H9 hb (by omega)
   have EV := qz0 E9 hb hz9
   have CV := C9.grown hb
   match i, ho with
   | 0, ho =>
    obtain rfl := Option.some.inj ho
    have e1 : a.eval (.tmp 12) = .pointer (some ⟨cb, 0, none⟩) := hnn 12 rfl
    refine qz7 (v := .pointer (some ⟨cb, 0, none⟩)) (w' := V) ?_ (hK _ _ rfl (Below.refl _ _) (fun h => by cases h))
    clear HV EV CV
    generalize a.eval = ev at *
    go_simp
   | 1, ho =>
    obtain rfl := Option.some.inj ho
    have e1 : a.eval (.tmp 61) = .pointer (some ⟨cb, 0, none⟩) := hd ⟨0, .data⟩ (by simp) rfl 61 rfl
    have ef : a.eval (.func 29) = .func (.func 29) #[] #[] := rfl
    refine qz12 (f := 29) (args := #[.pointer (some ⟨cb, 0, none⟩)]) (R := fun v w' => NewA V.heap.size A9 v w' /\ Below V.heap.size V w') ?_ ((qz9w V.heap.size cb s g n r A9 V (Nat.le_refl _) hA9 CV.cells).mono (fun e w' h => by obtain ⟨s', g', n', r', q0, q1, q2, q3, e1, N, Ty, bN⟩ := h; exact ⟨_, e1, ⟨s', g', n', r', q0, q1, q2, q3, rfl, N, Ty⟩, bN⟩)) (fun v w' h => hK v w' (by obtain ⟨s', g', n', r', q0, q1, q2, q3, e1, N, Ty⟩ := h.1; exact ⟨s', g', n', r', q0, q1, q2, q3, e1, N.lo hb.size, Ty⟩) h.2 (fun h => by cases h))
    clear HV EV CV
    generalize a.eval = ev at *
    go_simp
   | 2, ho =>
    obtain rfl := Option.some.inj ho
    exact qz1z 36 (.tmp 8) rfl (w.heap.size + 1 + 1) 0 (hnn 8 rfl) (hdC h9) _ HV Tryz.underlying36 rfl (qz1 h9) (hK _ _ rfl (Below.refl _ _) (fun h => by cases h))
   | 3, ho =>
    obtain rfl := Option.some.inj ho
    exact qz1z 38 (.tmp 13) rfl w2.heap.size 0 (hnn 13 rfl) (ddC d9) _ EV Tryz.underlying38 rfl (qz1m d9) (hK _ _ rfl (Below.refl _ _) (fun h => by cases h))
   | 4, ho =>
    obtain rfl := Option.some.inj ho
    obtain ⟨s', g', n', r', q0, q1, q2, q3, e1, N, Ty⟩ := (show NewA w9.heap.size A9 (a.eval (.tmp 62)) V from hd ⟨1, .data⟩ (by simp) rfl 62 rfl)
    have e2 : a.eval (.tmp 63) = .agg (hdC h9).toArray := hd ⟨2, .data⟩ (by simp) rfl 63 rfl
    have e3 : a.eval (.tmp 64) = .agg (ddC d9).toArray := hd ⟨3, .data⟩ (by simp) rfl 64 rfl
    obtain ⟨_, _, rfl⟩ := qzq N.s
    obtain ⟨_, _, rfl⟩ := qzq N.g
    obtain ⟨_, _, rfl⟩ := qzq N.n
    obtain ⟨_, _, rfl⟩ := qzq N.r
    refine qz7 (v := .agg (qzl A9.camera _ _ _ _ h9 d9 false).toArray) (w' := V) ?_ (hK _ _ ⟨_, _, _, _, _, _, _, _, q0, q1, q2, q3, rfl, N, Ty⟩ (Below.refl _ _) (fun h => by cases h))
    clear HV EV CV N Ty
    simp only [hdC, ddC] at e2 e3
    simp only [qzl, hdC, ddC]
    generalize a.eval = ev at *
    go_simp
   | n + 5, ho => omega
  case final =>
   intro vs V hb hG _
   obtain ⟨q0, q1, q2, q3, k0, k1, k2, k3, r0, r1, r2, r3, g4, N, Ty⟩ := (show ∃ a0 a1 a2 a3 c0 c1 c2 c3 b0 b1 b2 b3, vs 4 = .agg (qzl A9.camera (.slice a0 A9.slots.length c0) (.slice a1 A9.guides.length c1) (.slice a2 A9.nodes.length c2) (.slice a3 A9.vers.length c3) h9 d9 false).toArray /\ qzm w9.heap.size V (.slice a0 A9.slots.length c0) (.slice a1 A9.guides.length c1) (.slice a2 A9.nodes.length c2) (.slice a3 A9.vers.length c3) A9 b0 b1 b2 b3 /\ TypA V A9 b0 b1 b2 b3 from hG 4 (by decide))
   have FV := qz3 F9 hb hz9''
   have KV := K9.trans (hb.mono (by omega))
   generalize hl : laid _ vs _ _ _ = A'
   have hA'' : A' = { tmps := #[.agg #[.int .i64 x, .int .i64 y, .int .i64 z, .int .i64 u], .agg #[.int .i64 A.camera, .slice a0 A.slots.length c0, .slice a1 A.guides.length c1, .slice a2 A.nodes.length c2, .slice a3 A.vers.length c3], .int .i64 me, .agg (hdC h).toArray, .int .i64 clk, .pointer (some ⟨w.heap.size, 0, none⟩), .pointer (some ⟨w.heap.size + 1, 0, none⟩), undef, .pointer (some ⟨w.heap.size + 1 + 1, 0, none⟩), undef, .pointer (some ⟨w.heap.size + 1 + 1 + 1, 0, none⟩), .bool false, .pointer (some ⟨cb, 0, none⟩), .pointer (some ⟨w2.heap.size, 0, none⟩), u14, u15, u16, u17, u18, u19, u20, u21, u22, u23, u24, u25, u26, u27, u28, u29, u30, u31, u32, u33, u34, u35, u36, u37, u38, u39, u40, u41, u42, u43, u44, u45, u46, u47, u48, u49, u50, u51, u52, u53, u54, u55, u56, u57, u58, u59, u60, vs 0, vs 1, vs 2, vs 3, vs 4], defers := [] } := by
    rw [<- hl]
    kernel_rfl
   subst hA''
   rw [g4]
   clear hl hG g4
   simp only [List.drop_succ_cons, List.drop_zero]
   have hq : Hid (qz1j x y z u A me h clk = (A9, h9, d9)) := by show _ = _; rw [qz4d hsb, hso]
   have hqb : Hid (qz15 x y z u A me h clk = true) := hsb
   clear hso hsb
   go_wp2_with (refine wpList_store_mid rfl 40 (.tmp 10) (.tmp 65) rfl (w.heap.size + 1 + 1 + 1) 0 (qzl A9.camera (.slice q0 A9.slots.length k0) (.slice q1 A9.guides.length k1) (.slice q2 A9.nodes.length k2) (.slice q3 A9.vers.length k3) h9 d9 false).toArray ?hx5 ?hy5 ?ht5 (qz1t _ _ _ _ _ _ _ _) (qz2p _ _ _ _ _ _ _ _ _ _ _ _ _ _ _ _) ?_)
   try (case hx5 => rfl)
   try (case hy5 => rfl)
   case ht5 => exact FV
   refine bodyPost_ret (v := .tuple #[.agg (qzl A9.camera (.slice q0 A9.slots.length k0) (.slice q1 A9.guides.length k1) (.slice q2 A9.nodes.length k2) (.slice q3 A9.vers.length k3) h9 d9 false).toArray, .bool true]) ?_ rfl (by rw [hq.out, hqb.out]; exact qz5z.of rfl ((N.elder' hz9'' (qzg _ _ _ _)).lo K9.size) (Ty.setCells _ _ _) (Below.setCells (by omega) _ _ _ KV))
   exact qz1p Tryz.results9 _ _ (w.heap.size + 1 + 1 + 1) 0 rfl (qzl A9.camera (.slice q0 A9.slots.length k0) (.slice q1 A9.guides.length k1) (.slice q2 A9.nodes.length k2) (.slice q3 A9.vers.length k3) h9 d9 false) _ (World.rangeAt_setCells_same _ _ _ _ FV) Tryz.underlying40 rfl (qzv _ _ _ _ _ _ _ _)
 clear h1
 generalize hw3 : (w2.alloc (.cells #[.int .i64 0, .int .i64 0, .int .i64 0, .int .i64 0, .int .i64 0] 38)).setCells w2.heap.size 0 (ddC qz29) = w3 at *
 clear hw3 D0
 obtain ⟨x0, x1, x2, x3, x4⟩ := row5 X3
 have q0 : w3.cell? ⟨w.heap.size + 1 + 1, 0, none⟩ = some (.int .i64 h.at_) := by simpa using H3 0 (.int .i64 h.at_) rfl
 have q10 : w3.cell? ⟨w.heap.size + 1 + 1, 10, none⟩ = some (.int .i64 h.x_) := by simpa using H3 10 (.int .i64 h.x_) rfl
 have f0 : w3.frozen? ⟨w.heap.size + 1 + 1, 0, none⟩ = false := by simpa using (G3 0 (by omega)).2
 have f11 : w3.frozen? ⟨w.heap.size + 1 + 1, 11, none⟩ = false := by simpa using (G3 11 (by omega)).2
 have f12 : w3.frozen? ⟨w.heap.size + 1 + 1, 12, none⟩ = false := by simpa using (G3 12 (by omega)).2
 have f13 : w3.frozen? ⟨w.heap.size + 1 + 1, 13, none⟩ = false := by simpa using (G3 13 (by omega)).2
 have q11 : w3.cell? ⟨w.heap.size + 1 + 1, 11, none⟩ = some (.int .i64 h.ver) := by simpa using H3 11 (.int .i64 h.ver) rfl
 have q12 : w3.cell? ⟨w.heap.size + 1 + 1, 12, none⟩ = some (.int .i64 h.cam) := by simpa using H3 12 (.int .i64 h.cam) rfl
 have q13 : w3.cell? ⟨w.heap.size + 1 + 1, 13, none⟩ = some (.int .i64 h.camAt) := by simpa using H3 13 (.int .i64 h.camAt) rfl
 have hbB2 : w.heap.size + 1 + 1 < w1.heap.size := by omega
 have sbY : ∀ k : Int, h.at_ = k -> 2 <= k -> k <= 5 -> Hid (qz15 x y z u A me h clk = true) := by
  intro k hk h2 h5
  show _ = _
  rw [qz15, efH.out, Bool.true_and, qz2c]
  omega
 by_cases e2 : h.at_ = 2
 case pos =>
  have hsb := sbY 2 e2 (by omega) (by omega)
  obtain ⟨xk, hxk⟩ : ∃ k : Nat, h.x_ = k := ⟨h.x_.toNat, by have := FI.x0; omega⟩
  have hxl : xk < A.nodes.length := by have := FI.x1; omega
  have hd : Hid (qz1h A h qz29 clk = (A, { h with ver := A.nodes[xk].head, at_ := 3 }, qz29)) := by show _ = _; rw [qz1h, if_pos e2, hxk, qzs A xk hxl]
  have hxk0 : (0 : Int) <= (xk : Int) := by omega
  have hxk1 : (xk : Int) < (A.nodes.length : Int) := by omega
  obtain ⟨nb, no, rfl, hnb, RN⟩ := qzh.at I3.n (by omega)
  have RN2 := qza (sz := 3) (fun _ => rfl) RN xk hxl
  have c2 : w3.cell? ⟨nb, no + xk * 3 + 2, none⟩ = some (.int .i64 A.nodes[xk].head) := RN2 2 _ rfl
  rw [e2] at q0
  rw [hxk] at q10
  clear RN RN2 e2 hxk sbY FI efH
  have O1 : Only (w.heap.size + 1 + 1) w3 ((w3.setCell ⟨w.heap.size + 1 + 1, 11, none⟩ (.int .i64 A.nodes[xk].head)).setCell ⟨w.heap.size + 1 + 1, 0, none⟩ (.int .i64 3)) := ((Only.refl (w.heap.size + 1 + 1) w3).setCell (p := ⟨w.heap.size + 1 + 1, 11, none⟩) (Or.inl rfl) _).setCell (p := ⟨w.heap.size + 1 + 1, 0, none⟩) (Or.inl rfl) _
  have H9 : ((w3.setCell ⟨w.heap.size + 1 + 1, 11, none⟩ (.int .i64 A.nodes[xk].head)).setCell ⟨w.heap.size + 1 + 1, 0, none⟩ (.int .i64 3)).rangeAt (w.heap.size + 1 + 1) 0 (hdC { h with ver := A.nodes[xk].head, at_ := 3 }) := qz6 (qz6 H3 11 (by show _ < 22; omega) (.int .i64 A.nodes[xk].head)) 0 (by show _ < 22; omega) (.int .i64 3)
  have B9 : But (fun q => q = w.heap.size + 1 + 1) w3 ((w3.setCell ⟨w.heap.size + 1 + 1, 11, none⟩ (.int .i64 A.nodes[xk].head)).setCell ⟨w.heap.size + 1 + 1, 0, none⟩ (.int .i64 3)) := But.of_only O1 rfl
  go_wp2_with fail
  exact fin _ _ _ _ _ _ _ _ _ _ _ _ _ _ _ _ _ _ _ _ _ _ _ _ _ _ _ _ _ _ _ _ _ _ _ _ _ _ _ _ _ _ _ _ _ _ _ _ _ _ _ hd.out hsb.out hA' H9 (B9.range E3 hd3 (by omega)) (B9.there F3 (by omega) (by omega)) (C3.but B9 (fun b hb _ he => by omega)) (K3.trans (B9.below (by omega) (fun k hk => by omega))) (Nat.lt_of_lt_of_le hd3 B9.size) (by omega)
 by_cases e3 : h.at_ = 3
 case pos =>
  have hsb := sbY 3 e3 (by omega) (by omega)
  have hd : Hid (qz1h A h qz29 clk = (A, qz97 A h, qz29)) := by
   show _ = _
   rw [qz1h, if_neg e2, if_pos e3, qz97]
   split <;> simp [*, qzw]
  rw [e3] at q0
  clear e2 e3 sbY efH f0 f11 f12 f13 q10 q11 q12 q13
  go_wp2_with (refine wpList_load_mid rfl 36 (.tmp 8) rfl (w.heap.size + 1 + 1) 0 ?lx3 (hdC h) _ ?lc3 Tryz.underlying36 rfl (qz1 h) ?_)
  try (case lx3 => rfl)
  try (case lc3 => exact H3)
  refine (qz3w B A h a0 a1 a2 a3 c0 c1 c2 c3 w3 hB3 hA' I3 x y z u FI).mono ?_
  rintro e w4 ⟨rfl, b4⟩
  have H4 := qz0 H3 b4 (by omega)
  have G4 := qz3 G3 b4 (by omega)
  have F4 := qz3 F3 b4 (by omega)
  have E4 := qz0 E3 b4 hd3
  have C4 := C3.grown b4
  have K4 := K3.trans (b4.mono (by omega))
  have hs4 := b4.size
  clear H3 G3 F3 E3 C3 K3 I3 q0 x0 x1 x2 x3 x4
  have H9 : (w4.setCells (w.heap.size + 1 + 1) 0 (hdC (qz97 A h))).rangeAt (w.heap.size + 1 + 1) 0 (hdC (qz97 A h)) := World.rangeAt_setCells_same _ _ _ _ G4
  have B9 : But (fun q => q = w.heap.size + 1 + 1) w4 (w4.setCells (w.heap.size + 1 + 1) 0 (hdC (qz97 A h))) := But.of_only (qzg _ _ _ _) rfl
  go_wp2_with (refine wpList_store_mid rfl 36 (.tmp 8) _ rfl (w.heap.size + 1 + 1) 0 (hdC (qz97 A h)).toArray ?hx6 ?hy6 ?ht6 (qz8 _) (qzc _) ?_)
  try (case hx6 => rfl)
  try (case hy6 => rfl)
  try (case ht6 => exact G4)
  exact fin _ _ _ _ _ _ _ _ _ _ _ _ _ _ _ _ _ _ _ _ _ _ _ _ _ _ _ _ _ _ _ _ _ _ _ _ _ _ _ _ _ _ _ _ _ _ _ _ _ _ _ hd.out hsb.out hA' H9 (B9.range E4 (by omega) (by omega)) (B9.there F4 (by omega) (by omega)) (C4.but B9 (fun b hb _ he => by omega)) (K4.trans (B9.below (by omega) (fun k hk => by omega))) (Nat.lt_of_lt_of_le (by omega) B9.size) (by omega)
 by_cases e4 : h.at_ = 4
 case pos =>
  have hsb := sbY 4 e4 (by omega) (by omega)
  have hd : Hid (qz1h A h qz29 clk = (A, { h with cam := A.camera, camAt := clk, at_ := 5 }, qz29)) := by show _ = _; rw [qz1h, if_neg e2, if_neg e3, if_pos e4]
  rw [e4] at q0
  clear e2 e3 e4 sbY efH
  have O1 : Only (w.heap.size + 1 + 1) w3 (((w3.setCell ⟨w.heap.size + 1 + 1, 12, none⟩ (.int .i64 A.camera)).setCell ⟨w.heap.size + 1 + 1, 13, none⟩ (.int .i64 clk)).setCell ⟨w.heap.size + 1 + 1, 0, none⟩ (.int .i64 5)) := (((Only.refl (w.heap.size + 1 + 1) w3).setCell (p := ⟨w.heap.size + 1 + 1, 12, none⟩) (Or.inl rfl) _).setCell (p := ⟨w.heap.size + 1 + 1, 13, none⟩) (Or.inl rfl) _).setCell (p := ⟨w.heap.size + 1 + 1, 0, none⟩) (Or.inl rfl) _
  have H9 : (((w3.setCell ⟨w.heap.size + 1 + 1, 12, none⟩ (.int .i64 A.camera)).setCell ⟨w.heap.size + 1 + 1, 13, none⟩ (.int .i64 clk)).setCell ⟨w.heap.size + 1 + 1, 0, none⟩ (.int .i64 5)).rangeAt (w.heap.size + 1 + 1) 0 (hdC { h with cam := A.camera, camAt := clk, at_ := 5 }) := qz6 (qz6 (qz6 H3 12 (by show _ < 22; omega) (.int .i64 A.camera)) 13 (by show _ < 22; omega) (.int .i64 clk)) 0 (by show _ < 22; omega) (.int .i64 5)
  have B9 : But (fun q => q = w.heap.size + 1 + 1) w3 (((w3.setCell ⟨w.heap.size + 1 + 1, 12, none⟩ (.int .i64 A.camera)).setCell ⟨w.heap.size + 1 + 1, 13, none⟩ (.int .i64 clk)).setCell ⟨w.heap.size + 1 + 1, 0, none⟩ (.int .i64 5)) := But.of_only O1 rfl
  go_wp2_with fail
  exact fin _ _ _ _ _ _ _ _ _ _ _ _ _ _ _ _ _ _ _ _ _ _ _ _ _ _ _ _ _ _ _ _ _ _ _ _ _ _ _ _ _ _ _ _ _ _ _ _ _ _ _ hd.out hsb.out hA' H9 (B9.range E3 hd3 (by omega)) (B9.there F3 (by omega) (by omega)) (C3.but B9 (fun b hb _ he => by omega)) (K3.trans (B9.below (by omega) (fun k hk => by omega))) (Nat.lt_of_lt_of_le hd3 B9.size) (by omega)
 by_cases e5 : h.at_ = 5
 case neg =>
  have hb : Hid (qz15 x y z u A me h clk = false) := by
   show _ = _
   rw [qz15, efH.out, Bool.true_and, Bool.eq_false_iff]
   intro hc
   rw [qz2c] at hc
   omega
  have b2 : (h.at_ == 2) = false := by simp [e2]
  have b3 : (h.at_ == 3) = false := by simp [e3]
  have b4 : (h.at_ == 4) = false := by simp [e4]
  have b5 : (h.at_ == 5) = false := by simp [e5]
  clear e2 e3 e4 e5 sbY efH
  go_wp2_with (refine wpList_store_mid rfl 40 (.tmp 10) (.tmp 27) rfl (w.heap.size + 1 + 1 + 1) 0 (qzl 0 (.slice none 0 0) (.slice none 0 0) (.slice none 0 0) (.slice none 0 0) qz8u qz29 false).toArray ?hx7 ?hy7 ?ht7 (qz1t _ _ _ _ _ _ _ _) (qz2p _ _ _ _ _ _ _ _ _ _ _ _ _ _ _ _) ?_)
  try (case hx7 => rfl)
  try (case hy7 => rfl)
  case ht7 => exact F3
  refine bodyPost_ret (v := .tuple #[.agg (qzl 0 (.slice none 0 0) (.slice none 0 0) (.slice none 0 0) (.slice none 0 0) qz8u qz29 false).toArray, .bool false]) ?_ rfl (zfin hb.out w3 F3 K3)
  exact qz1p Tryz.results9 _ _ (w.heap.size + 1 + 1 + 1) 0 rfl (qzl 0 (.slice none 0 0) (.slice none 0 0) (.slice none 0 0) (.slice none 0 0) qz8u qz29 false) _ (World.rangeAt_setCells_same _ _ _ _ F3) Tryz.underlying40 rfl (qzv _ _ _ _ _ _ _ _)
 have hsb := sbY 5 e5 (by omega) (by omega)
 have hd : Hid (qz1h A h qz29 clk = (qz4i A h, onH (qz4i A h) h, qz6k A h)) := by
  show _ = _
  rw [qz1h, if_neg e2, if_neg e3, if_neg e4, if_pos e5, qz4i, qz6k]
  split <;> simp [*]
 have hAs : (qz4i A h).size <= 1048576 := by
  rw [qz4i]
  split
  ·exact hA'
  ·rw [qz3z]; exact hA'
 have hOk : Hid (qz14 x y z u (qz4i A h) = true) := by
  show _ = _
  rw [qz4i]
  split
  ·exact FI.ok
  ·exact qz9s FI.ok FI.m0 FI.v0 FI.v1
 have hnl : Hid ((qz4i A h).nodes.length = A.nodes.length) := by show _ = _; rw [qz4i]; split <;> simp [qz32]
 have hvl : Hid ((qz4i A h).vers.length = A.vers.length) := by show _ = _; rw [qz4i]; split <;> simp [qz32]
 rw [e5] at q0
 clear e2 e3 e4 e5 sbY efH f0 f11 f12 f13 q10 q11 q12 q13
 go_wp2_with (refine wpList_load_mid rfl 36 (.tmp 8) rfl (w.heap.size + 1 + 1) 0 ?lx8 (hdC h) _ ?lc8 Tryz.underlying36 rfl (qz1 h) ?_)
 try (case lx8 => rfl)
 try (case lc8 => exact H3)
 refine (qz7a w1.heap.size cb s g n r ps qs A h w3 (by omega) hA' C3 x y z u FI.ok FI.v0 FI.v1 FI.x0 FI.x1).mono ?_
 rintro e w4 ⟨rfl, C4, b4, O4⟩
 have hnd : ¬ (∃ m, Blk w3 w2.heap.size 80 m) := fun ⟨m, hm⟩ => (D3.ne hm (by decide)) rfl
 have H4 := qz0 H3 b4 (by omega)
 have G4 := qz3 G3 b4 (by omega)
 have F4 := qz3 F3 b4 (by omega)
 have D4 := D3.but O4 hnd
 have K4 := K3.trans (b4.mono (by omega))
 have hs4 := b4.size
 have hs4' := O4.size
 clear H3 G3 F3 E3 C3 K3 I3 D3 q0 x0 x1 x2 x3 x4 hnd O4 b4
 have H5 : (w4.setCells w2.heap.size 0 (ddC (qz6k A h))).rangeAt (w.heap.size + 1 + 1) 0 (hdC h) := World.rangeAt_setCells_apart H4 _ _ _ (Or.inl (by omega))
 have G5 : (w4.setCells w2.heap.size 0 (ddC (qz6k A h))).there (w.heap.size + 1 + 1) 0 22 := World.there_setCells G4 _ _ _
 have F5 : (w4.setCells w2.heap.size 0 (ddC (qz6k A h))).there (w.heap.size + 1 + 1 + 1) 0 33 := World.there_setCells F4 _ _ _
 have E5 : (w4.setCells w2.heap.size 0 (ddC (qz6k A h))).rangeAt w2.heap.size 0 (ddC (qz6k A h)) := World.rangeAt_setCells_same _ _ _ _ (D4.there 0 5 (by omega))
 have C5 := C4.aside D4 (by decide) (by decide) (by decide) (by decide) (by decide) (by decide) (qzg w2.heap.size (ddC (qz6k A h)) 0 w4)
 have K5 := Below.setCells (B := w.heap.size) (by omega) (ddC (qz6k A h)) 0 (b := w2.heap.size) _ K4
 have hs5 : w4.heap.size <= (w4.setCells w2.heap.size 0 (ddC (qz6k A h))).heap.size := Nat.le_of_eq (qz13 _ _ _ _).symm
 have T4 := D4.there 0 5 (by omega)
 clear H4 G4 F4 C4 K4 D4
 go_upto_region 14 with (refine wpList_store_mid rfl 38 (.tmp 13) _ rfl w2.heap.size 0 (ddC (qz6k A h)).toArray ?hx8 ?hy8 ?ht8 (qz25 _) (qz33 _) ?_)
 try (case hx8 => rfl)
 try (case hy8 => rfl)
 try (case ht8 => exact T4)
 generalize hw5 : w4.setCells w2.heap.size 0 (ddC (qz6k A h)) = w5 at *
 clear hw5 T4
 refine qz20 3 (by kernel_rfl) (qz61 w5.heap.size cb (qz4i A h) h qz29) (fun _ => false) (by kernel_rfl) (by kernel_rfl) (by kernel_rfl) (by kernel_rfl) (by rfl) (fun i v w w' _ h hb => qz4e i v w w' h hb) (fun i v w q hf h hq => by cases hf) ?step ?final
 case step =>
  intro i o hik ho a V hb hnn hd K hK
  have HV := qz0 H5 hb (by omega)
  have CV := C5.grown hb
  match i, ho with
  | 0, ho =>
   obtain rfl := Option.some.inj ho
   have e1 : a.eval (.tmp 12) = .pointer (some ⟨cb, 0, none⟩) := hnn 12 rfl
   refine qz7 (v := .pointer (some ⟨cb, 0, none⟩)) (w' := V) ?_ (hK _ _ rfl (Below.refl _ _) (fun h => by cases h))
   clear HV CV
   generalize a.eval = ev at *
   go_simp
  | 1, ho =>
   obtain rfl := Option.some.inj ho
   have e1 : a.eval (.tmp 57) = .pointer (some ⟨cb, 0, none⟩) := hd ⟨0, .data⟩ (by simp) rfl 57 rfl
   have ef : a.eval (.func 29) = .func (.func 29) #[] #[] := rfl
   refine qz12 (f := 29) (args := #[.pointer (some ⟨cb, 0, none⟩)]) (R := fun v w' => NewA V.heap.size (qz4i A h) v w' /\ Below V.heap.size V w') ?_ ((qz9w V.heap.size cb s g n r (qz4i A h) V (Nat.le_refl _) hAs CV.cells).mono (fun e w' h => by obtain ⟨s', g', n', r', q0, q1, q2, q3, e1, N, Ty, bN⟩ := h; exact ⟨_, e1, ⟨s', g', n', r', q0, q1, q2, q3, rfl, N, Ty⟩, bN⟩)) (fun v w' h => hK v w' (by obtain ⟨s', g', n', r', q0, q1, q2, q3, e1, N, Ty⟩ := h.1; exact ⟨s', g', n', r', q0, q1, q2, q3, e1, N.lo hb.size, Ty⟩) h.2 (fun h => by cases h))
   clear HV CV
   generalize a.eval = ev at *
   go_simp
  | 2, ho =>
   obtain rfl := Option.some.inj ho
   exact qz1z 36 (.tmp 8) rfl (w.heap.size + 1 + 1) 0 (hnn 8 rfl) (hdC h) _ HV Tryz.underlying36 rfl (qz1 h) (hK _ _ rfl (Below.refl _ _) (fun h => by cases h))
  | n + 3, ho => omega
 case final =>
  intro vs V hb hG _
  obtain ⟨s', g', n', r', r0, r1, r2, r3, g1, N, Ty⟩ := (show NewA w5.heap.size (qz4i A h) (vs 1) V from hG 1 (by decide))
  have g2 : vs 2 = .agg (hdC h).toArray := hG 2 (by decide)
  obtain ⟨q0, k0, rfl⟩ := qzq N.s
  obtain ⟨q1, k1, rfl⟩ := qzq N.g
  obtain ⟨q2, k2, rfl⟩ := qzq N.n
  obtain ⟨q3, k3, rfl⟩ := qzq N.r
  have G6 := qz3 G5 hb (by omega)
  have F6 := qz3 F5 hb (by omega)
  have E6 := qz0 E5 hb (by omega)
  have C6 := C5.grown hb
  have K6 := K5.trans (hb.mono (by omega))
  have hs6 := hb.size
  generalize hl : laid _ vs _ _ _ = A'
  have hA'' : A' = { tmps := #[.agg #[.int .i64 x, .int .i64 y, .int .i64 z, .int .i64 u], .agg #[.int .i64 A.camera, .slice a0 A.slots.length c0, .slice a1 A.guides.length c1, .slice a2 A.nodes.length c2, .slice a3 A.vers.length c3], .int .i64 me, .agg (hdC h).toArray, .int .i64 clk, .pointer (some ⟨w.heap.size, 0, none⟩), .pointer (some ⟨w.heap.size + 1, 0, none⟩), undef, .pointer (some ⟨w.heap.size + 1 + 1, 0, none⟩), undef, .pointer (some ⟨w.heap.size + 1 + 1 + 1, 0, none⟩), .bool false, .pointer (some ⟨cb, 0, none⟩), .pointer (some ⟨w2.heap.size, 0, none⟩), .agg #[.int .i64 x, .int .i64 y, .int .i64 z, .int .i64 u], .agg #[.int .i64 A.camera, .slice a0 A.slots.length c0, .slice a1 A.guides.length c1, .slice a2 A.nodes.length c2, .slice a3 A.vers.length c3], .int .i64 me, .agg (hdC h).toArray, .int .i64 clk, .bool true, .bool false, undef, .agg #[.int .i64 A.camera, .slice a0 A.slots.length c0, .slice a1 A.guides.length c1, .slice a2 A.nodes.length c2, .slice a3 A.vers.length c3], .pointer (some ⟨cb, 0, none⟩), .agg #[.int .i64 0, .int .i64 0, .int .i64 0, .int .i64 0, .int .i64 0], .pointer (some ⟨w.heap.size + 1 + 1, 0, none⟩), .int .i64 5, undef, .bool false, .bool false, undef, undef, undef, undef, undef, undef, undef, undef, undef, .bool false, .bool false, undef, undef, undef, .bool false, .bool false, undef, undef, undef, undef, undef, undef, .bool true, .bool true, .pointer (some ⟨cb, 0, none⟩), .agg (hdC h).toArray, .agg (ddC (qz6k A h)).toArray, vs 0, vs 1, vs 2, undef, undef, undef, undef, undef, undef], defers := [] } := by
   rw [<- hl]
   kernel_rfl
  subst hA''
  rw [g1, g2]
  clear hl hG g1 g2 hb H5 G5 F5 E5 C5 K5
  simp only [List.drop_succ_cons, List.drop_zero]
  go_wp2_with fail
  refine (qz6x V.heap.size (qz4i A h) h _ _ _ _ _ _ _ _ V (Nat.le_refl _) hAs N.is x y z u hOk.out FI.v0 (by rw [hvl.out]; exact FI.v1) FI.x0 (by rw [hnl.out]; exact FI.x1) FI.c0 (by rw [hnl.out]; exact FI.c1) FI.n0 FI.o0 FI.o1 FI.s0 FI.s1 FI.t0 FI.t1).mono ?_
  rintro e w7 ⟨rfl, b7⟩
  have G7 := qz3 G6 b7 (by omega)
  have F7 := qz3 F6 b7 (by omega)
  have E7 := qz0 E6 b7 (by omega)
  have C7 := C6.grown b7
  have K7 := K6.trans (b7.mono (by omega))
  have hs7 := b7.size
  have H9 : (w7.setCells (w.heap.size + 1 + 1) 0 (hdC (onH (qz4i A h) h))).rangeAt (w.heap.size + 1 + 1) 0 (hdC (onH (qz4i A h) h)) := World.rangeAt_setCells_same _ _ _ _ G7
  have B9 : But (fun q => q = w.heap.size + 1 + 1) w7 (w7.setCells (w.heap.size + 1 + 1) 0 (hdC (onH (qz4i A h) h))) := But.of_only (qzg _ _ _ _) rfl
  clear N Ty G6 F6 E6 C6 K6 b7
  go_wp2_with (refine wpList_store_mid rfl 36 (.tmp 8) _ rfl (w.heap.size + 1 + 1) 0 (hdC (onH (qz4i A h) h)).toArray ?hx9 ?hy9 ?ht9 (qz8 _) (qzc _) ?_)
  try (case hx9 => rfl)
  try (case hy9 => rfl)
  try (case ht9 => exact G7)
  exact fin _ _ _ _ _ _ _ _ _ _ _ _ _ _ _ _ _ _ _ _ _ _ _ _ _ _ _ _ _ _ _ _ _ _ _ _ _ _ _ _ _ _ _ _ _ _ _ _ _ _ _ hd.out hsb.out hAs H9 (B9.range E7 (by omega) (by omega)) (B9.there F7 (by omega) (by omega)) (C7.but B9 (fun b hb _ he => by omega)) (K7.trans (B9.below (by omega) (fun k hk => by omega))) (Nat.lt_of_lt_of_le (by omega) B9.size) (by omega)
end
section
attribute [local go_sem ↓] Go.wp_at_zero Go.wp_at_succ
def qz5p (w : World) (R : Ar × Hd × Dd) (ok : Bool) (e : Ending) (w' : World) : Prop := ∃ s g n r, e = .returned (.tuple #[.agg (qzl R.1.camera s g n r R.2.1 R.2.2 false).toArray, .bool ok]) /\ qz2x w.heap.size w' s g n r R.1 /\ Below w.heap.size w w'
theorem qz5p.of {w w' : World} {A : Ar} {h : Hd} {d : Dd} {ok : Bool} {e : Ending} {s g n r : Value} (h1 : e = .returned (.tuple #[.agg (qzl A.camera s g n r h d false).toArray, .bool ok])) (h2 : qz2x w.heap.size w' s g n r A) (h3 : Below w.heap.size w w') : qz5p w (A, h, d) ok e w' := ⟨s, g, n, r, h1, h2, h3⟩
theorem qz71 (A : Ar) (h : Hd) (d : Dd) (clk : Int) : (qz1h A h d clk).1.camera = A.camera := by unfold qz1h; (repeat' split) <;> simp [qz32]
theorem qza4 (base : Nat) (w : World) : qz2x base w (.slice none 0 0) (.slice none 0 0) (.slice none 0 0) (.slice none 0 0) qzbl :=
 ⟨⟨rfl, Or.inl ⟨rfl, rfl⟩⟩, ⟨rfl, Or.inl ⟨rfl, rfl⟩⟩, ⟨rfl, Or.inl ⟨rfl, rfl⟩⟩, ⟨rfl, Or.inl ⟨rfl, rfl⟩⟩, fun b h => by cases h⟩
theorem qz2x.aside {base : Nat} {w w' : World} {s g n r : Value} {A : Ar} (O : qz2x base w s g n r A) {q m : Nat} {t : TypeId} (hq : Blk w q t m) (h1 : 2 ≠ t) (h2 : 65 ≠ t) (h3 : 80 ≠ t) (k : Only q w w') : qz2x base w' s g n r A := by
 have B : But (fun c => c = q) w w' := But.of_only k rfl
 exact ⟨qz2h O.rs B (fun c m _ hc => hc.ne hq h1), qz2h O.rg B (fun c m _ hc => hc.ne hq h1), qz2h O.rn B (fun c m _ hc => hc.ne hq h2), qz2h O.rr B (fun c m _ hc => hc.ne hq h3), O.ne⟩
theorem qz89 (A : Ar) (h : Hd) (d : Dd) (clk : Int) : (qz1h A h d clk).1.size = A.size := by unfold qz1h; (repeat' split) <;> simp [qz3z]
theorem qz65 (x y z u : Int) (A : Ar) (me : Int) (h : Hd) (clk : Int) : (qz1j x y z u A me h clk).1.size <= A.size := by
 unfold qz1j
 split
 ·rw [qz89]; exact Nat.le_refl _
 ·exact Nat.zero_le _
theorem qz9o {x y z u : Int} {A : Ar} (h : qz14 x y z u A = true) : 0 < A.slots.length /\ 0 < A.guides.length /\ 0 < A.nodes.length /\ 0 < A.vers.length := by
 obtain ⟨h1, -⟩ := qz36 h
 simp only [qz84, qz3e, Bool.and_eq_true, qz2c, beq_iff_eq] at h1
 omega
theorem qz7z {w : World} {base : Nat} {e : TypeId} {sz : Nat} {v : Value} {n : Nat} {xs : List Value} (h : w.ownsRow base e sz v n xs) {j : Nat} (hj : v.ownBlock = some j) : base <= j := by
 rcases h.2 with ⟨rfl, -⟩ | ⟨g, cap, cur, rfl, hg, -⟩
 ·cases hj
 ·simp [Value.ownBlock] at hj
  omega
theorem qz80.lower {base : Nat} {w w' : World} {s g n r s' g' n' r' : Value} {A A' : Ar} (E : qz80 base w w' s g n r s' g' n' r' A') (O : qz2x base w s g n r A) (hb : base <= w.heap.size) : Below base w w' :=
 E.but.below hb (fun k hk => by rcases hk with hk | hk | hk | hk; exact qz7z O.rs hk; exact qz7z O.rg hk; exact qz7z O.rn hk; exact qz7z O.rr hk)
theorem qzat (B : Nat) (A : Ar) (x y z u me : Int) (h : Hd) (clk : Int) (a0 a1 a2 a3 : Option Addr) (c0 c1 c2 c3 : Nat) (w : World) (hB : B <= w.heap.size) (hA : A.size <= 1048576) (I : qzi B w (.slice a0 A.slots.length c0) (.slice a1 A.guides.length c1) (.slice a2 A.nodes.length c2) (.slice a3 A.vers.length c3) A) (lo hi : Int) :
  Calls Tryz.prog 18 #[.agg #[.int .i64 x, .int .i64 y, .int .i64 z, .int .i64 u], .agg #[.int .i64 A.camera, .slice a0 A.slots.length c0, .slice a1 A.guides.length c1, .slice a2 A.nodes.length c2, .slice a3 A.vers.length c3], .int .i64 me, .agg (hdC h).toArray, .int .i64 clk, .int .i64 lo, .int .i64 hi] w fun e w' => e = .returned (.bool (fitB x y z u A me h clk && inB h.at_ lo hi)) /\ Below w.heap.size w w' := by
 have hA' := hA
 unfold Ar.size at hA
 have P0 := World.rangeAt_alloc (World.rangeAt_alloc (qz5 w [.int .i64 x, .int .i64 y, .int .i64 z, .int .i64 u] 43) (.cells #[.int .i64 A.camera, .slice a0 A.slots.length c0, .slice a1 A.guides.length c1, .slice a2 A.nodes.length c2, .slice a3 A.vers.length c3] 35)) (.cells (hdC h).toArray 36)
 have X0 := World.rangeAt_alloc (qz5 (w.alloc (.cells #[.int .i64 x, .int .i64 y, .int .i64 z, .int .i64 u] 43)) [.int .i64 A.camera, .slice a0 A.slots.length c0, .slice a1 A.guides.length c1, .slice a2 A.nodes.length c2, .slice a3 A.vers.length c3] 35) (.cells (hdC h).toArray 36)
 have H0 := qz5 ((w.alloc (.cells #[.int .i64 x, .int .i64 y, .int .i64 z, .int .i64 u] 43)).alloc (.cells #[.int .i64 A.camera, .slice a0 A.slots.length c0, .slice a1 A.guides.length c1, .slice a2 A.nodes.length c2, .slice a3 A.vers.length c3] 35)) (hdC h) 36
 have K0 := (((Below.refl w.heap.size w).alloc (Nat.le_refl _) (.cells #[.int .i64 x, .int .i64 y, .int .i64 z, .int .i64 u] 43)).alloc (by simp) (.cells #[.int .i64 A.camera, .slice a0 A.slots.length c0, .slice a1 A.guides.length c1, .slice a2 A.nodes.length c2, .slice a3 A.vers.length c3] 35)).alloc (by simp; omega) (.cells (hdC h).toArray 36)
 have hz0 : w.heap.size + 1 + 1 < (((w.alloc (.cells #[.int .i64 x, .int .i64 y, .int .i64 z, .int .i64 u] 43)).alloc (.cells #[.int .i64 A.camera, .slice a0 A.slots.length c0, .slice a1 A.guides.length c1, .slice a2 A.nodes.length c2, .slice a3 A.vers.length c3] 35)).alloc (.cells (hdC h).toArray 36)).heap.size := by simp
 simp only [World.size_alloc] at X0 H0
 have I0 := I.below (K0.mono hB)
 go_enter Tryz.func18, Tryz.ntmps18
 go_upto_region 1 with fail
 generalize hw0 : ((w.alloc (.cells #[.int .i64 x, .int .i64 y, .int .i64 z, .int .i64 u] 43)).alloc (.cells #[.int .i64 A.camera, .slice a0 A.slots.length c0, .slice a1 A.guides.length c1, .slice a2 A.nodes.length c2, .slice a3 A.vers.length c3] 35)).alloc (.cells (hdC h).toArray 36) = w0 at *
 clear hw0 I
 have hB0 : B <= w0.heap.size := Nat.le_trans hB K0.size
 obtain ⟨x0, x1, x2, x3, x4⟩ := row5 X0
 obtain ⟨p0, p1, p2, p3⟩ : w0.cell? ⟨w.heap.size, 0, none⟩ = some (.int .i64 x) /\ w0.cell? ⟨w.heap.size, 1, none⟩ = some (.int .i64 y) /\ w0.cell? ⟨w.heap.size, 2, none⟩ = some (.int .i64 z) /\ w0.cell? ⟨w.heap.size, 3, none⟩ = some (.int .i64 u) := ⟨by simpa using P0 0 _ rfl, by simpa using P0 1 _ rfl, by simpa using P0 2 _ rfl, by simpa using P0 3 _ rfl⟩
 go_wp2_with (refine wpList_load_mid rfl 36 (.tmp 10) rfl (w.heap.size + 1 + 1) 0 ?lx0 (hdC h) _ ?lc0 Tryz.underlying36 rfl (qz1 h) ?_)
 try (case lx0 => rfl)
 try (case lc0 => exact H0)
 refine (qz8d B A x y z u me h clk a0 a1 a2 a3 c0 c1 c2 c3 _ hB0 hA' I0).mono ?_
 rintro e w1 ⟨rfl, b0⟩
 have H1 := qz0 H0 b0 (by omega)
 have K1 := K0.trans (b0.mono (by omega))
 have q0 : w1.cell? ⟨w.heap.size + 1 + 1, 0, none⟩ = some (.int .i64 h.at_) := by simpa using H1 0 (.int .i64 h.at_) rfl
 clear P0 X0 H0 K0 I0 hz0 hB0 b0 x0 x1 x2 x3 x4 p0 p1 p2 p3
 cases ef : fitB x y z u A me h clk
 case false =>
  go_wp2
  go_ret
  exact ⟨by simp [ef], K1⟩
 case true =>
  go_wp2_with (go_at_call 40; refine (qzd _ _ _ _).mono ?_; rintro e w' ⟨rfl, hw⟩; obtain rfl := hw.symm)
  go_ret
  exact ⟨by simp [ef], K1⟩
def qzc6 (lo : Nat) (A : Ar) (h : Hd) (clk : Int) (a0 a1 a2 a3 : Option Addr) (c0 c1 c2 c3 : Nat) : Nat -> Value -> World -> Prop
 | 0, x, _ => x = .agg #[.int .i64 A.camera, .slice a0 A.slots.length c0, .slice a1 A.guides.length c1, .slice a2 A.nodes.length c2, .slice a3 A.vers.length c3]
 | 1, x, w => ∃ s g n r, x = .agg #[.int .i64 A.camera, s, g, n, r] /\ qz2x lo w s g n r A
 | 2, x, _ => x = .agg (hdC h).toArray
 | 3, x, w => ∃ s g n r, x = .agg (qzl A.camera s g n r h qz29 false).toArray /\ qz2x lo w s g n r A
 | 4, x, _ => x = .int .i64 clk
 | _, _, _ => True
theorem qz99 {lo : Nat} {A : Ar} {h : Hd} {clk : Int} {a0 a1 a2 a3 : Option Addr} {c0 c1 c2 c3 : Nat} (i : Nat) (x : Value) (w w' : World) (hq : qzc6 lo A h clk a0 a1 a2 a3 c0 c1 c2 c3 i x w) (hb : Below w.heap.size w w') : qzc6 lo A h clk a0 a1 a2 a3 c0 c1 c2 c3 i x w' := by
 match i, hq with
 | 0, h | 2, h | 4, h => exact h
 | 1, h | 3, h => obtain ⟨s, g, n, r, e, O⟩ := h; exact ⟨s, g, n, r, e, O.below hb⟩
 | n + 5, h => exact trivial
theorem qz4o (B : Nat) (A : Ar) (x y z u me : Int) (h : Hd) (clk : Int) (a0 a1 a2 a3 : Option Addr) (c0 c1 c2 c3 : Nat) (w : World) (hB : B <= w.heap.size) (hA : A.size <= 1048576) (I : qzi B w (.slice a0 A.slots.length c0) (.slice a1 A.guides.length c1) (.slice a2 A.nodes.length c2) (.slice a3 A.vers.length c3) A) :
  Calls Tryz.prog 5 #[.agg #[.int .i64 x, .int .i64 y, .int .i64 z, .int .i64 u], .agg #[.int .i64 A.camera, .slice a0 A.slots.length c0, .slice a1 A.guides.length c1, .slice a2 A.nodes.length c2, .slice a3 A.vers.length c3], .int .i64 me, .agg (hdC h).toArray, .int .i64 clk] w fun e w' => qz5p w (qz1j x y z u A me h clk) (qz15 x y z u A me h clk) e w' := by
 have hA' := hA
 unfold Ar.size at hA
 have P0 := World.rangeAt_alloc (World.rangeAt_alloc (World.rangeAt_alloc (qz5 w [.int .i64 x, .int .i64 y, .int .i64 z, .int .i64 u] 43) (.cells #[.int .i64 A.camera, .slice a0 A.slots.length c0, .slice a1 A.guides.length c1, .slice a2 A.nodes.length c2, .slice a3 A.vers.length c3] 35)) (.cells (hdC h).toArray 36)) (.cells #[.int .i64 0, .slice none 0 0, .slice none 0 0, .slice none 0 0, .slice none 0 0, .int .i64 0, .int .i64 0, .int .i64 0, .int .i64 0, .int .i64 0, .int .i64 0, .int .i64 0, .int .i64 0, .int .i64 0, .int .i64 0, .int .i64 0, .int .i64 0, .int .i64 0, .int .i64 0, .int .i64 0, .int .i64 0, .int .i64 0, .int .i64 0, .int .i64 0, .int .i64 0, .int .i64 0, .int .i64 0, .int .i64 0, .int .i64 0, .int .i64 0, .int .i64 0, .int .i64 0, .bool false] 40)
 have X0 := World.rangeAt_alloc (World.rangeAt_alloc (qz5 (w.alloc (.cells #[.int .i64 x, .int .i64 y, .int .i64 z, .int .i64 u] 43)) [.int .i64 A.camera, .slice a0 A.slots.length c0, .slice a1 A.guides.length c1, .slice a2 A.nodes.length c2, .slice a3 A.vers.length c3] 35) (.cells (hdC h).toArray 36)) (.cells #[.int .i64 0, .slice none 0 0, .slice none 0 0, .slice none 0 0, .slice none 0 0, .int .i64 0, .int .i64 0, .int .i64 0, .int .i64 0, .int .i64 0, .int .i64 0, .int .i64 0, .int .i64 0, .int .i64 0, .int .i64 0, .int .i64 0, .int .i64 0, .int .i64 0, .int .i64 0, .int .i64 0, .int .i64 0, .int .i64 0, .int .i64 0, .int .i64 0, .int .i64 0, .int .i64 0, .int .i64 0, .int .i64 0, .int .i64 0, .int .i64 0, .int .i64 0, .int .i64 0, .bool false] 40)
 have H0 := World.rangeAt_alloc (qz5 ((w.alloc (.cells #[.int .i64 x, .int .i64 y, .int .i64 z, .int .i64 u] 43)).alloc (.cells #[.int .i64 A.camera, .slice a0 A.slots.length c0, .slice a1 A.guides.length c1, .slice a2 A.nodes.length c2, .slice a3 A.vers.length c3] 35)) (hdC h) 36) (.cells #[.int .i64 0, .slice none 0 0, .slice none 0 0, .slice none 0 0, .slice none 0 0, .int .i64 0, .int .i64 0, .int .i64 0, .int .i64 0, .int .i64 0, .int .i64 0, .int .i64 0, .int .i64 0, .int .i64 0, .int .i64 0, .int .i64 0, .int .i64 0, .int .i64 0, .int .i64 0, .int .i64 0, .int .i64 0, .int .i64 0, .int .i64 0, .int .i64 0, .int .i64 0, .int .i64 0, .int .i64 0, .int .i64 0, .int .i64 0, .int .i64 0, .int .i64 0, .int .i64 0, .bool false] 40)
 have F0 := qzf (((w.alloc (.cells #[.int .i64 x, .int .i64 y, .int .i64 z, .int .i64 u] 43)).alloc (.cells #[.int .i64 A.camera, .slice a0 A.slots.length c0, .slice a1 A.guides.length c1, .slice a2 A.nodes.length c2, .slice a3 A.vers.length c3] 35)).alloc (.cells (hdC h).toArray 36)) #[.int .i64 0, .slice none 0 0, .slice none 0 0, .slice none 0 0, .slice none 0 0, .int .i64 0, .int .i64 0, .int .i64 0, .int .i64 0, .int .i64 0, .int .i64 0, .int .i64 0, .int .i64 0, .int .i64 0, .int .i64 0, .int .i64 0, .int .i64 0, .int .i64 0, .int .i64 0, .int .i64 0, .int .i64 0, .int .i64 0, .int .i64 0, .int .i64 0, .int .i64 0, .int .i64 0, .int .i64 0, .int .i64 0, .int .i64 0, .int .i64 0, .int .i64 0, .int .i64 0, .bool false] 40 33 (by decide)
 have K0 := ((((Below.refl w.heap.size w).alloc (Nat.le_refl _) (.cells #[.int .i64 x, .int .i64 y, .int .i64 z, .int .i64 u] 43)).alloc (by simp) (.cells #[.int .i64 A.camera, .slice a0 A.slots.length c0, .slice a1 A.guides.length c1, .slice a2 A.nodes.length c2, .slice a3 A.vers.length c3] 35)).alloc (by simp; omega) (.cells (hdC h).toArray 36)).alloc (by simp; omega) (.cells #[.int .i64 0, .slice none 0 0, .slice none 0 0, .slice none 0 0, .slice none 0 0, .int .i64 0, .int .i64 0, .int .i64 0, .int .i64 0, .int .i64 0, .int .i64 0, .int .i64 0, .int .i64 0, .int .i64 0, .int .i64 0, .int .i64 0, .int .i64 0, .int .i64 0, .int .i64 0, .int .i64 0, .int .i64 0, .int .i64 0, .int .i64 0, .int .i64 0, .int .i64 0, .int .i64 0, .int .i64 0, .int .i64 0, .int .i64 0, .int .i64 0, .int .i64 0, .int .i64 0, .bool false] 40)
 have hz0 : w.heap.size + 1 + 1 + 1 < ((((w.alloc (.cells #[.int .i64 x, .int .i64 y, .int .i64 z, .int .i64 u] 43)).alloc (.cells #[.int .i64 A.camera, .slice a0 A.slots.length c0, .slice a1 A.guides.length c1, .slice a2 A.nodes.length c2, .slice a3 A.vers.length c3] 35)).alloc (.cells (hdC h).toArray 36)).alloc (.cells #[.int .i64 0, .slice none 0 0, .slice none 0 0, .slice none 0 0, .slice none 0 0, .int .i64 0, .int .i64 0, .int .i64 0, .int .i64 0, .int .i64 0, .int .i64 0, .int .i64 0, .int .i64 0, .int .i64 0, .int .i64 0, .int .i64 0, .int .i64 0, .int .i64 0, .int .i64 0, .int .i64 0, .int .i64 0, .int .i64 0, .int .i64 0, .int .i64 0, .int .i64 0, .int .i64 0, .int .i64 0, .int .i64 0, .int .i64 0, .int .i64 0, .int .i64 0, .int .i64 0, .bool false] 40)).heap.size := by simp
 simp only [World.size_alloc] at X0 H0 F0
 have I0 := I.below (K0.mono hB)
 go_enter Tryz.func5, Tryz.ntmps5
 go_upto_region 1 with fail
 generalize hw0 : (((w.alloc (.cells #[.int .i64 x, .int .i64 y, .int .i64 z, .int .i64 u] 43)).alloc (.cells #[.int .i64 A.camera, .slice a0 A.slots.length c0, .slice a1 A.guides.length c1, .slice a2 A.nodes.length c2, .slice a3 A.vers.length c3] 35)).alloc (.cells (hdC h).toArray 36)).alloc (.cells #[.int .i64 0, .slice none 0 0, .slice none 0 0, .slice none 0 0, .slice none 0 0, .int .i64 0, .int .i64 0, .int .i64 0, .int .i64 0, .int .i64 0, .int .i64 0, .int .i64 0, .int .i64 0, .int .i64 0, .int .i64 0, .int .i64 0, .int .i64 0, .int .i64 0, .int .i64 0, .int .i64 0, .int .i64 0, .int .i64 0, .int .i64 0, .int .i64 0, .int .i64 0, .int .i64 0, .int .i64 0, .int .i64 0, .int .i64 0, .int .i64 0, .int .i64 0, .int .i64 0, .bool false] 40) = w0 at *
 clear hw0 I
 have hB0 : B <= w0.heap.size := Nat.le_trans hB K0.size
 obtain ⟨x0, x1, x2, x3, x4⟩ := row5 X0
 obtain ⟨p0, p1, p2, p3⟩ : w0.cell? ⟨w.heap.size, 0, none⟩ = some (.int .i64 x) /\ w0.cell? ⟨w.heap.size, 1, none⟩ = some (.int .i64 y) /\ w0.cell? ⟨w.heap.size, 2, none⟩ = some (.int .i64 z) /\ w0.cell? ⟨w.heap.size, 3, none⟩ = some (.int .i64 u) := ⟨by simpa using P0 0 _ rfl, by simpa using P0 1 _ rfl, by simpa using P0 2 _ rfl, by simpa using P0 3 _ rfl⟩
 go_wp2_with (refine wpList_load_mid rfl 36 (.tmp 8) rfl (w.heap.size + 1 + 1) 0 ?lx0 (hdC h) _ ?lc0 Tryz.underlying36 rfl (qz1 h) ?_)
 try (case lx0 => rfl)
 try (case lc0 => exact H0)
 refine (qzat B A x y z u me h clk a0 a1 a2 a3 c0 c1 c2 c3 _ hB0 hA' I0 2 5).mono ?_
 rintro e w1 ⟨rfl, b0⟩
 have X1 := qz0 X0 b0 (by omega)
 have H1 := qz0 H0 b0 (by omega)
 have F1 := qz3 F0 b0 (by omega)
 have K1 := K0.trans (b0.mono (by omega))
 have I1 := I0.below (b0.mono hB0)
 have hz1 := Nat.lt_of_lt_of_le hz0 b0.size
 have hB1 := Nat.le_trans hB0 b0.size
 clear P0 X0 H0 F0 K0 I0 hz0 hB0 b0 x0 x1 x2 x3 x4 p0 p1 p2 p3
 cases ef : (fitB x y z u A me h clk && inB h.at_ 2 5)
 case false =>
  have hb : Hid (qz15 x y z u A me h clk = false) := ef
  clear ef
  go_wp2_with (refine wpList_store_mid rfl 40 (.tmp 10) (.tmp 19) rfl (w.heap.size + 1 + 1 + 1) 0 (qzl 0 (.slice none 0 0) (.slice none 0 0) (.slice none 0 0) (.slice none 0 0) qz8u qz29 false).toArray ?hx1 ?hy1 ?ht1 (qz1t _ _ _ _ _ _ _ _) (qz2p _ _ _ _ _ _ _ _ _ _ _ _ _ _ _ _) ?_)
  try (case hx1 => rfl)
  try (case hy1 => rfl)
  case ht1 => exact F1
  refine bodyPost_ret (v := .tuple #[.agg (qzl 0 (.slice none 0 0) (.slice none 0 0) (.slice none 0 0) (.slice none 0 0) qz8u qz29 false).toArray, .bool false]) ?_ rfl (by rw [qz4s hb.out, hb.out]; exact qz5p.of rfl (qza4 _ _) (Below.setCells (by omega) _ _ _ K1))
  exact qz1p Tryz.results5 _ _ (w.heap.size + 1 + 1 + 1) 0 rfl (qzl 0 (.slice none 0 0) (.slice none 0 0) (.slice none 0 0) (.slice none 0 0) qz8u qz29 false) _ (World.rangeAt_setCells_same _ _ _ _ F1) Tryz.underlying40 rfl (qzv _ _ _ _ _ _ _ _)
 have ef' := ef
 rw [Bool.and_eq_true] at ef'
 have FI := qzbh ef'.1
 have hb : Hid (qz15 x y z u A me h clk = true) := ef
 obtain ⟨q0, q1, q2, q3⟩ := qz9o FI.ok
 clear ef ef'
 go_wp2_with fail
 refine qz20 5 (by kernel_rfl) (qzc6 w1.heap.size A h clk a0 a1 a2 a3 c0 c1 c2 c3) (fun _ => false) (by kernel_rfl) (by kernel_rfl) (by kernel_rfl) (by kernel_rfl) (by rfl) (fun i v w w' _ h hb => qz99 i v w w' h hb) (fun i v w q hf h hq => by cases hf) ?step ?final
 case step =>
  intro i o hik ho a V hb hnn hd K hK
  have XV := qz0 X1 hb (by omega)
  have HV := qz0 H1 hb (by omega)
  have IV := I1.below (hb.mono hB1)
  have hBV : B <= V.heap.size := Nat.le_trans hB1 hb.size
  match i, ho with
  | 0, ho =>
   obtain rfl := Option.some.inj ho
   obtain ⟨x0, x1, x2, x3, x4⟩ := row5 XV
   have e1 : a.eval (.tmp 6) = .pointer (some ⟨w.heap.size + 1, 0, none⟩) := hnn 6 rfl
   refine qz7 (v := .agg #[.int .i64 A.camera, .slice a0 A.slots.length c0, .slice a1 A.guides.length c1, .slice a2 A.nodes.length c2, .slice a3 A.vers.length c3]) (w' := V) ?_ (hK _ _ rfl (Below.refl _ _) (fun h => by cases h))
   clear XV HV IV
   generalize a.eval = ev at *
   go_simp
  | 1, ho =>
   obtain rfl := Option.some.inj ho
   have e1 : a.eval (.tmp 20) = .agg #[.int .i64 A.camera, .slice a0 A.slots.length c0, .slice a1 A.guides.length c1, .slice a2 A.nodes.length c2, .slice a3 A.vers.length c3] := hd ⟨0, .data⟩ (by simp) rfl 20 rfl
   have ef : a.eval (.func 20) = .func (.func 20) #[] #[] := rfl
   refine qz12 (f := 20) (args := #[.agg #[.int .i64 A.camera, .slice a0 A.slots.length c0, .slice a1 A.guides.length c1, .slice a2 A.nodes.length c2, .slice a3 A.vers.length c3]]) (R := fun v w' => (∃ s g n r, v = .agg #[.int .i64 A.camera, s, g, n, r] /\ qz2x V.heap.size w' s g n r A) /\ Below V.heap.size V w') ?_ ((qz9r B A a0 a1 a2 a3 c0 c1 c2 c3 V hBV hA' IV q0 q1 q2 q3).mono (fun e w' h => by obtain ⟨s, g, n, r, e1, O, bO⟩ := h; exact ⟨_, e1, ⟨s, g, n, r, rfl, O⟩, bO⟩)) (fun v w' h => hK v w' (by obtain ⟨s, g, n, r, e1, O⟩ := h.1; exact ⟨s, g, n, r, e1, O.lo hb.size⟩) h.2 (fun h => by cases h))
   clear XV HV IV
   generalize a.eval = ev at *
   go_simp
  | 2, ho =>
   obtain rfl := Option.some.inj ho
   exact qz1z 36 (.tmp 8) rfl (w.heap.size + 1 + 1) 0 (hnn 8 rfl) (hdC h) _ HV Tryz.underlying36 rfl (qz1 h) (hK _ _ rfl (Below.refl _ _) (fun h => by cases h))
  | 3, ho =>
   obtain rfl := Option.some.inj ho
   obtain ⟨s, g, n, r, e1, O⟩ := (show ∃ s g n r, a.eval (.tmp 21) = .agg #[.int .i64 A.camera, s, g, n, r] /\ qz2x w1.heap.size V s g n r A from hd ⟨1, .data⟩ (by simp) rfl 21 rfl)
   have e2 : a.eval (.tmp 22) = .agg (hdC h).toArray := hd ⟨2, .data⟩ (by simp) rfl 22 rfl
   refine qz7 (v := .agg (qzl A.camera s g n r h qz29 false).toArray) (w' := V) ?_ (hK _ _ ⟨s, g, n, r, rfl, O⟩ (Below.refl _ _) (fun h => by cases h))
   obtain ⟨_, _, rfl⟩ := qz2w O.rs
   obtain ⟨_, _, rfl⟩ := qz2w O.rg
   obtain ⟨_, _, rfl⟩ := qz2w O.rn
   obtain ⟨_, _, rfl⟩ := qz2w O.rr
   clear XV HV IV O
   simp only [hdC] at e2
   simp only [qzl, hdC, ddC, qz29]
   generalize a.eval = ev at *
   go_simp
   try rfl
  | 4, ho =>
   obtain rfl := Option.some.inj ho
   have e1 : a.eval (.tmp 4) = .int .i64 clk := hnn 4 rfl
   refine qz7 (v := .int .i64 clk) (w' := V) ?_ (hK _ _ rfl (Below.refl _ _) (fun h => by cases h))
   clear XV HV IV
   generalize a.eval = ev at *
   go_simp
  | n + 5, ho => omega
 case final =>
  intro vs V hb' hG _
  obtain ⟨s, g, n, r, g3, O⟩ := (show ∃ s g n r, vs 3 = .agg (qzl A.camera s g n r h qz29 false).toArray /\ qz2x w1.heap.size V s g n r A from hG 3 (by decide))
  have g4 : vs 4 = .int .i64 clk := hG 4 (by decide)
  have F2 := qz3 F1 hb' (by omega)
  have K2 := K1.trans (hb'.mono (by omega))
  have hs2 := hb'.size
  generalize hl : laid _ vs _ _ _ = A'
  have hA'' : A' = { tmps := #[.agg #[.int .i64 x, .int .i64 y, .int .i64 z, .int .i64 u], .agg #[.int .i64 A.camera, .slice a0 A.slots.length c0, .slice a1 A.guides.length c1, .slice a2 A.nodes.length c2, .slice a3 A.vers.length c3], .int .i64 me, .agg (hdC h).toArray, .int .i64 clk, .pointer (some ⟨w.heap.size, 0, none⟩), .pointer (some ⟨w.heap.size + 1, 0, none⟩), undef, .pointer (some ⟨w.heap.size + 1 + 1, 0, none⟩), undef, .pointer (some ⟨w.heap.size + 1 + 1 + 1, 0, none⟩), .bool false, .agg #[.int .i64 x, .int .i64 y, .int .i64 z, .int .i64 u], .agg #[.int .i64 A.camera, .slice a0 A.slots.length c0, .slice a1 A.guides.length c1, .slice a2 A.nodes.length c2, .slice a3 A.vers.length c3], .int .i64 me, .agg (hdC h).toArray, .int .i64 clk, .bool true, .bool false, undef, vs 0, vs 1, vs 2, vs 3, vs 4, undef], defers := [] } := by
   rw [<- hl]
   kernel_rfl
  subst hA''
  rw [g3, g4]
  clear hl hG g3 g4 hb' X1 H1 F1 K1
  simp only [List.drop_succ_cons, List.drop_zero]
  go_wp2_with fail
  refine (qz9m w1.heap.size A h qz29 false clk s g n r V hs2 hA' O x y z u FI.ok FI.v0 FI.v1 FI.x0 FI.x1 FI.c1 FI.o0 FI.o1 FI.s0 FI.s1 FI.m0).mono ?_
  rintro e w3 ⟨s', g', n', r', rfl, E⟩
  have b3 := E.lower O hs2
  have F3 := qz3 F2 b3 (by omega)
  have K3 := K2.trans (b3.mono (by omega))
  have hq : Hid (qz1j x y z u A me h clk = qz1h A h qz29 clk) := qz4d hb.out
  obtain ⟨⟨A9, h9, d9⟩, hso⟩ : ∃ R, Hid (qz1h A h qz29 clk = R) := ⟨_, rfl⟩
  have hcm : A.camera = (qz1h A h qz29 clk).1.camera := (qz71 A h qz29 clk).symm
  rw [hso.out] at hcm
  replace hcm : Hid (A.camera = A9.camera) := hcm
  have EO := E.own
  rw [hso.out] at EO ⊢
  simp only at EO ⊢
  have EL := EO.lt
  clear E O b3 F2 K2
  obtain ⟨p0, k0, rfl⟩ := qz2w EO.rs
  obtain ⟨p1, k1, rfl⟩ := qz2w EO.rg
  obtain ⟨p2, k2, rfl⟩ := qz2w EO.rn
  obtain ⟨p3, k3, rfl⟩ := qz2w EO.rr
  rw [hcm.out]
  go_wp2_with (refine wpList_store_mid rfl 40 (.tmp 10) (.tmp 25) rfl (w.heap.size + 1 + 1 + 1) 0 (qzl A9.camera (.slice p0 A9.slots.length k0) (.slice p1 A9.guides.length k1) (.slice p2 A9.nodes.length k2) (.slice p3 A9.vers.length k3) h9 d9 false).toArray ?hx5 ?hy5 ?ht5 (qz1t _ _ _ _ _ _ _ _) (qz2p _ _ _ _ _ _ _ _ _ _ _ _ _ _ _ _) ?_)
  any_goals (first | exact F3 | exact rfl | kernel_rfl)
  refine bodyPost_ret (v := .tuple #[.agg (qzl A9.camera (.slice p0 A9.slots.length k0) (.slice p1 A9.guides.length k1) (.slice p2 A9.nodes.length k2) (.slice p3 A9.vers.length k3) h9 d9 false).toArray, .bool true]) ?_ rfl ?_
  ·exact qz1p Tryz.results5 _ _ (w.heap.size + 1 + 1 + 1) 0 rfl (qzl A9.camera (.slice p0 A9.slots.length k0) (.slice p1 A9.guides.length k1) (.slice p2 A9.nodes.length k2) (.slice p3 A9.vers.length k3) h9 d9 false) _ (World.rangeAt_setCells_same _ _ _ _ F3) Tryz.underlying40 rfl (qzv _ _ _ _ _ _ _ _)
  ·show qz5p w (qz1j x y z u A me h clk) (qz15 x y z u A me h clk) _ _
   rw [hq.out, hso.out, hb.out]
   exact qz5p.of rfl ((EO.only (qzg _ _ _ _) (by omega)).lo (by omega)) (Below.setCells (by omega) _ _ _ K3)
end
end Go.Proofs.YtknncnaikeinbaaGreat
