/-
  What the law's proof goes by, part 21.
-/
import Derived.Test.YtlfjhcdjgoeafaaGreatDoorFindStep00
import Derived.Test.YtlfjhcdjgoeafaaGreatDoorFindStep07
import Derived.Test.YtlfjhcdjgoeafaaGreatDoorFindStep14
import Derived.Test.YtlfjhcdjgoeafaaGreatDoorFindStep15
import Derived.Test.YtlfjhcdjgoeafaaGreatDoorFindStep19
namespace Go.Proofs.YtlfjhcdjgoeafaaGreatDoor
open Go.ChangeShapes Go.WideShapes Go.ChangeAt Go.RowKit
set_option linter.unusedVariables false
set_option linter.unusedSimpArgs false
set_option linter.unnecessarySimpa false
set_option linter.unusedSectionVars false
section
open Go.ChangeShapes Go.WideShapes Go.ChangeAt Go.RowKit Go.Sort
attribute [local go_sem ↓] Go.wp_at_zero Go.wp_at_succ
theorem or_two (n l : Int) (hl : 0 ≤ l) : ((n == -1) || inB n 0 (l - 1)) = inB n (-1) (l - 1) := by
 cases e : inB n (-1) (l - 1)
 ·have h1 : ¬ (-1 ≤ n ∧ n ≤ l - 1) := fun h => by rw [inB_yes h.1 h.2] at e; exact absurd e (by decide)
  rw [inB_no (by omega), Bool.or_false]
  exact beq_eq_false_iff_ne.2 (by omega)
 ·obtain ⟨h1, h2⟩ := (inB_iff _ _ _).1 e
  by_cases h3 : n = -1
  ·subst h3
   simp
  ·rw [inB_yes (by omega) h2, Bool.or_true]
theorem places_knows (A : Ar) (h : Hd) : placesB (A.nodes.length : Int) (A.vers.length : Int) h = knowsB A h := by
 unfold placesB knowsB nodeIn verIn
 rw [or_two _ _ (by omega), or_two _ _ (by omega)]
set_option maxRecDepth 100000 in
set_option maxHeartbeats 4000000 in
theorem fit_any (B : Nat) (A : Ar) (x y z u me : Int) (h : Hd) (clk : Int) (a0 a1 a2 a3 : Option Addr) (c0 c1 c2 c3 : Nat) (w : World) (hB : B ≤ w.heap.size) (hA : A.size ≤ 1048576) (I : ArenaIs B w (.slice a0 A.slots.length c0) (.slice a1 A.guides.length c1) (.slice a2 A.nodes.length c2) (.slice a3 A.vers.length c3) A) :
  Calls Tryz.prog 24 #[.agg #[.int .i64 x, .int .i64 y, .int .i64 z, .int .i64 u], .agg #[.int .i64 A.camera, .slice a0 A.slots.length c0, .slice a1 A.guides.length c1, .slice a2 A.nodes.length c2, .slice a3 A.vers.length c3], .int .i64 me, .agg (hdC h).toArray, .int .i64 clk] w fun e w' => e = .returned (.bool (fitB x y z u A me h clk)) ∧ Below w.heap.size w w' := by
 have hA' := hA
 unfold Ar.size at hA
 have P0 := World.rangeAt_alloc (World.rangeAt_alloc (rangeAt_new w [.int .i64 x, .int .i64 y, .int .i64 z, .int .i64 u] 43) (.cells #[.int .i64 A.camera, .slice a0 A.slots.length c0, .slice a1 A.guides.length c1, .slice a2 A.nodes.length c2, .slice a3 A.vers.length c3] 35)) (.cells (hdC h).toArray 36)
 have X0 := World.rangeAt_alloc (rangeAt_new (w.alloc (.cells #[.int .i64 x, .int .i64 y, .int .i64 z, .int .i64 u] 43)) [.int .i64 A.camera, .slice a0 A.slots.length c0, .slice a1 A.guides.length c1, .slice a2 A.nodes.length c2, .slice a3 A.vers.length c3] 35) (.cells (hdC h).toArray 36)
 have H0 := rangeAt_new ((w.alloc (.cells #[.int .i64 x, .int .i64 y, .int .i64 z, .int .i64 u] 43)).alloc (.cells #[.int .i64 A.camera, .slice a0 A.slots.length c0, .slice a1 A.guides.length c1, .slice a2 A.nodes.length c2, .slice a3 A.vers.length c3] 35)) (hdC h) 36
 have K0 := (((Below.refl w.heap.size w).alloc (Nat.le_refl _) (.cells #[.int .i64 x, .int .i64 y, .int .i64 z, .int .i64 u] 43)).alloc (by simp) (.cells #[.int .i64 A.camera, .slice a0 A.slots.length c0, .slice a1 A.guides.length c1, .slice a2 A.nodes.length c2, .slice a3 A.vers.length c3] 35)).alloc (by simp; omega) (.cells (hdC h).toArray 36)
 have hz0 : w.heap.size + 1 + 1 < (((w.alloc (.cells #[.int .i64 x, .int .i64 y, .int .i64 z, .int .i64 u] 43)).alloc (.cells #[.int .i64 A.camera, .slice a0 A.slots.length c0, .slice a1 A.guides.length c1, .slice a2 A.nodes.length c2, .slice a3 A.vers.length c3] 35)).alloc (.cells (hdC h).toArray 36)).heap.size := by simp
 simp only [World.size_alloc] at X0 H0
 have I0 := I.below (K0.mono hB)
 go_enter Tryz.func24, Tryz.ntmps24
 go_wp2_with fail
 generalize hw0 : ((w.alloc (.cells #[.int .i64 x, .int .i64 y, .int .i64 z, .int .i64 u] 43)).alloc (.cells #[.int .i64 A.camera, .slice a0 A.slots.length c0, .slice a1 A.guides.length c1, .slice a2 A.nodes.length c2, .slice a3 A.vers.length c3] 35)).alloc (.cells (hdC h).toArray 36) = w0 at *
 clear hw0 I
 have p0 : w0.cell? ⟨w.heap.size, 0, none⟩ = some (.int .i64 x) := by simpa using P0 0 _ rfl
 have p1 : w0.cell? ⟨w.heap.size, 1, none⟩ = some (.int .i64 y) := by simpa using P0 1 _ rfl
 have p2 : w0.cell? ⟨w.heap.size, 2, none⟩ = some (.int .i64 z) := by simpa using P0 2 _ rfl
 have p3 : w0.cell? ⟨w.heap.size, 3, none⟩ = some (.int .i64 u) := by simpa using P0 3 _ rfl
 obtain ⟨x0, x1, x2, x3, x4⟩ := row5 X0
 have yp0 : ∀ (dq : Nat) (os : Array Obj), (grow (redrawn w0 dq) os).cell? ⟨w.heap.size, 0, none⟩ = some (.int .i64 x) := fun dq os => cell_regrown p0 dq os
 have yp1 : ∀ (dq : Nat) (os : Array Obj), (grow (redrawn w0 dq) os).cell? ⟨w.heap.size, 1, none⟩ = some (.int .i64 y) := fun dq os => cell_regrown p1 dq os
 have yp2 : ∀ (dq : Nat) (os : Array Obj), (grow (redrawn w0 dq) os).cell? ⟨w.heap.size, 2, none⟩ = some (.int .i64 z) := fun dq os => cell_regrown p2 dq os
 have yp3 : ∀ (dq : Nat) (os : Array Obj), (grow (redrawn w0 dq) os).cell? ⟨w.heap.size, 3, none⟩ = some (.int .i64 u) := fun dq os => cell_regrown p3 dq os
 have yx0 : ∀ (dq : Nat) (os : Array Obj), (grow (redrawn w0 dq) os).cell? ⟨w.heap.size + 1, 0, none⟩ = some (.int .i64 A.camera) := fun dq os => cell_regrown x0 dq os
 have yx1 : ∀ (dq : Nat) (os : Array Obj), (grow (redrawn w0 dq) os).cell? ⟨w.heap.size + 1, 1, none⟩ = some (.slice a0 A.slots.length c0) := fun dq os => cell_regrown x1 dq os
 have yx2 : ∀ (dq : Nat) (os : Array Obj), (grow (redrawn w0 dq) os).cell? ⟨w.heap.size + 1, 2, none⟩ = some (.slice a1 A.guides.length c1) := fun dq os => cell_regrown x2 dq os
 have yx3 : ∀ (dq : Nat) (os : Array Obj), (grow (redrawn w0 dq) os).cell? ⟨w.heap.size + 1, 3, none⟩ = some (.slice a2 A.nodes.length c2) := fun dq os => cell_regrown x3 dq os
 have yx4 : ∀ (dq : Nat) (os : Array Obj), (grow (redrawn w0 dq) os).cell? ⟨w.heap.size + 1, 4, none⟩ = some (.slice a3 A.vers.length c3) := fun dq os => cell_regrown x4 dq os
 clear p0 p1 p2 p3 x0 x1 x2 x3 x4 P0 X0
 have k1 : ∀ (dq : Nat) (os : Array Obj), Calls Tryz.prog 50 #[.agg #[.int .i64 x, .int .i64 y, .int .i64 z, .int .i64 u], .agg #[.int .i64 A.camera, .slice a0 A.slots.length c0, .slice a1 A.guides.length c1, .slice a2 A.nodes.length c2, .slice a3 A.vers.length c3]] (grow (redrawn w0 dq) os) fun e w'' => e = .returned (.bool (arenaB x y z u A)) ∧ ∃ q : Regrown, w'' = grow (redrawn w0 q.d) q.os := fun dq os => Calls.regrown_of (arenaOk_any B A x y z u a0 a1 a2 a3 c0 c1 c2 c3 (grow (redrawn w0 dq) os) (Nat.le_trans hB (Nat.le_trans K0.size (below_regrown w0 dq os).size)) hA' (I0.below ((below_regrown w0 dq os).mono (Nat.le_trans hB K0.size))))
 have k2 : ∀ (dq : Nat) (os : Array Obj), Calls Tryz.prog 51 #[.agg #[.int .i64 x, .int .i64 y, .int .i64 z, .int .i64 u], .agg (hdC h).toArray] (grow (redrawn w0 dq) os) fun e w'' => e = .returned (.bool (handB x y z u h)) ∧ ∃ q : Regrown, w'' = grow (redrawn w0 q.d) q.os := fun dq os => Calls.regrown_of (handOk_any x y z u h _)
 have k3 : ∀ (dq : Nat) (os : Array Obj), Calls Tryz.prog 52 #[.agg #[.int .i64 x, .int .i64 y, .int .i64 z, .int .i64 u], .int .i64 me] (grow (redrawn w0 dq) os) fun e w'' => e = .returned (.bool (procB x y z u me)) ∧ ∃ q : Regrown, w'' = grow (redrawn w0 q.d) q.os := fun dq os => Calls.regrown_of (procIn_any x y z u me _)
 have k4 : ∀ (dq : Nat) (os : Array Obj), Calls Tryz.prog 53 #[.int .i64 clk] (grow (redrawn w0 dq) os) fun e w'' => e = .returned (.bool (inB clk 0 20000)) ∧ ∃ q : Regrown, w'' = grow (redrawn w0 q.d) q.os := fun dq os => Calls.regrown_of ((isClock_any _ _).mono fun e w' h' => ⟨h'.1, by rw [h'.2]; exact Below.refl _ _⟩)
 have k5 : ∀ (dq : Nat) (os : Array Obj), Calls Tryz.prog 54 #[.agg (hdC h).toArray] (grow (redrawn w0 dq) os) fun e w'' => e = .returned (.agg (grC h).toArray) ∧ ∃ q : Regrown, w'' = grow (redrawn w0 q.d) q.os := fun dq os => Calls.regrown_of (gripOf_any h _)
 have hkp : placesB (A.nodes.length : Int) (A.vers.length : Int) h = knowsB A h := places_knows A h
 have k6 : ∀ (dq : Nat) (os : Array Obj), Calls Tryz.prog 55 #[.agg (rgC h).toArray, .int .i64 (A.nodes.length : Int), .int .i64 (A.vers.length : Int)] (grow (redrawn w0 dq) os) fun e w'' => e = .returned (.bool (knowsB A h)) ∧ ∃ q : Regrown, w'' = grow (redrawn w0 q.d) q.os := fun dq os => Calls.regrown_of ((hkp ▸ places_any (A.nodes.length : Int) (A.vers.length : Int) h _ ⟨by omega, by omega⟩ ⟨by omega, by omega⟩))
 have hfl : ∀ w', (Instr.field 95 (.agg (grC h).toArray) 0).run Tryz.prog w' = .ok (.agg (rgC h).toArray) w' := fun w' => by kernel_rfl
 clear hkp
 cases e1 : arenaB x y z u A
 case false =>
  rw [e1] at k1
  have hv : Hid (fitB x y z u A me h clk = false) := by show _ = _; simp [fitB, e1]
  refine wp_region_quiet_below (by kernel_rfl) (by kernel_rfl) ?_
  iterate 30 (go_big_quiet_step (first | exact k1 _ _ | exact k2 _ _ | exact k3 _ _ | exact k4 _ _ | exact k5 _ _ | exact k6 _ _))
  refine wpQuiet_nil ?_
  intro _ hw'
  obtain ⟨⟨dq, osq⟩, hw''⟩ := hw'
  subst hw''
  have BB := below_regrown w0 dq osq
  generalize grow (redrawn w0 dq) osq = wb at *
  go_wp2_with fail
  go_ret
  exact ⟨by rw [hv.out]; rfl, K0.trans (BB.mono (by omega))⟩
 rw [e1] at k1
 cases e2 : handB x y z u h
 case false =>
  rw [e2] at k2
  have hv : Hid (fitB x y z u A me h clk = false) := by show _ = _; simp [fitB, e1, e2]
  refine wp_region_quiet_below (by kernel_rfl) (by kernel_rfl) ?_
  iterate 5 (go_big_quiet_step (first | exact k1 _ _ | exact k2 _ _ | exact k3 _ _ | exact k4 _ _ | exact k5 _ _ | exact k6 _ _))
  refine wpQuiet_load_wanted (by first | rfl | kernel_rfl) 36 (.tmp 8) rfl (w.heap.size + 1 + 1) 0 rfl (hdC h) _ (fun w' hw' => by obtain ⟨⟨dq, os⟩, rfl⟩ := hw'; exact rangeAt_below H0 (below_regrown w0 dq os) (by omega)) Tryz.underlying36 rfl (sizeHandL h) ?_; simp only [Act.put, List.setIfInBounds_toArray, List.set_cons_succ, List.set_cons_zero]
  iterate 24 (go_big_quiet_step (first | exact k1 _ _ | exact k2 _ _ | exact k3 _ _ | exact k4 _ _ | exact k5 _ _ | exact k6 _ _))
  refine wpQuiet_nil ?_
  intro _ hw'
  obtain ⟨⟨dq, osq⟩, hw''⟩ := hw'
  subst hw''
  have BB := below_regrown w0 dq osq
  generalize grow (redrawn w0 dq) osq = wb at *
  go_wp2_with fail
  go_ret
  exact ⟨by rw [hv.out]; rfl, K0.trans (BB.mono (by omega))⟩
 rw [e2] at k2
 have epl : planB x y z u = true := by
  have := e2
  unfold handB at this
  simp only [Bool.and_eq_true] at this
  exact this.1.1
 have ep : procB x y z u me = inB me 0 (x - 1) := by simp [procB, epl]
 rw [ep] at k3
 cases e3 : inB me 0 (x - 1)
 case false =>
  rw [e3] at k3
  have hv : Hid (fitB x y z u A me h clk = false) := by show _ = _; simp [fitB, e1, e2, e3]
  refine wp_region_quiet_below (by kernel_rfl) (by kernel_rfl) ?_
  iterate 5 (go_big_quiet_step (first | exact k1 _ _ | exact k2 _ _ | exact k3 _ _ | exact k4 _ _ | exact k5 _ _ | exact k6 _ _))
  refine wpQuiet_load_wanted (by first | rfl | kernel_rfl) 36 (.tmp 8) rfl (w.heap.size + 1 + 1) 0 rfl (hdC h) _ (fun w' hw' => by obtain ⟨⟨dq, os⟩, rfl⟩ := hw'; exact rangeAt_below H0 (below_regrown w0 dq os) (by omega)) Tryz.underlying36 rfl (sizeHandL h) ?_; simp only [Act.put, List.setIfInBounds_toArray, List.set_cons_succ, List.set_cons_zero]
  iterate 24 (go_big_quiet_step (first | exact k1 _ _ | exact k2 _ _ | exact k3 _ _ | exact k4 _ _ | exact k5 _ _ | exact k6 _ _))
  refine wpQuiet_nil ?_
  intro _ hw'
  obtain ⟨⟨dq, osq⟩, hw''⟩ := hw'
  subst hw''
  have BB := below_regrown w0 dq osq
  generalize grow (redrawn w0 dq) osq = wb at *
  go_wp2_with fail
  go_ret
  exact ⟨by rw [hv.out]; rfl, K0.trans (BB.mono (by omega))⟩
 rw [e3] at k3
 cases e4 : inB clk 0 20000
 case false =>
  rw [e4] at k4
  have hv : Hid (fitB x y z u A me h clk = false) := by show _ = _; simp [fitB, e1, e2, e3, e4]
  refine wp_region_quiet_below (by kernel_rfl) (by kernel_rfl) ?_
  iterate 5 (go_big_quiet_step (first | exact k1 _ _ | exact k2 _ _ | exact k3 _ _ | exact k4 _ _ | exact k5 _ _ | exact k6 _ _))
  refine wpQuiet_load_wanted (by first | rfl | kernel_rfl) 36 (.tmp 8) rfl (w.heap.size + 1 + 1) 0 rfl (hdC h) _ (fun w' hw' => by obtain ⟨⟨dq, os⟩, rfl⟩ := hw'; exact rangeAt_below H0 (below_regrown w0 dq os) (by omega)) Tryz.underlying36 rfl (sizeHandL h) ?_; simp only [Act.put, List.setIfInBounds_toArray, List.set_cons_succ, List.set_cons_zero]
  iterate 24 (go_big_quiet_step (first | exact k1 _ _ | exact k2 _ _ | exact k3 _ _ | exact k4 _ _ | exact k5 _ _ | exact k6 _ _))
  refine wpQuiet_nil ?_
  intro _ hw'
  obtain ⟨⟨dq, osq⟩, hw''⟩ := hw'
  subst hw''
  have BB := below_regrown w0 dq osq
  generalize grow (redrawn w0 dq) osq = wb at *
  go_wp2_with fail
  go_ret
  exact ⟨by rw [hv.out]; rfl, K0.trans (BB.mono (by omega))⟩
 rw [e4] at k4
 cases e5 : knowsB A h
 case false =>
  rw [e5] at k6
  have hv : Hid (fitB x y z u A me h clk = false) := by show _ = _; simp [fitB, e1, e2, e3, e4, e5]
  refine wp_region_quiet_below (by kernel_rfl) (by kernel_rfl) ?_
  iterate 5 (go_big_quiet_step (first | exact k1 _ _ | exact k2 _ _ | exact k3 _ _ | exact k4 _ _ | exact k5 _ _ | exact k6 _ _))
  refine wpQuiet_load_wanted (by first | rfl | kernel_rfl) 36 (.tmp 8) rfl (w.heap.size + 1 + 1) 0 rfl (hdC h) _ (fun w' hw' => by obtain ⟨⟨dq, os⟩, rfl⟩ := hw'; exact rangeAt_below H0 (below_regrown w0 dq os) (by omega)) Tryz.underlying36 rfl (sizeHandL h) ?_; simp only [Act.put, List.setIfInBounds_toArray, List.set_cons_succ, List.set_cons_zero]
  iterate 12 (go_big_quiet_step (first | exact k1 _ _ | exact k2 _ _ | exact k3 _ _ | exact k4 _ _ | exact k5 _ _ | exact k6 _ _))
  refine wpQuiet_load_wanted (by first | rfl | kernel_rfl) 36 (.tmp 8) rfl (w.heap.size + 1 + 1) 0 rfl (hdC h) _ (fun w' hw' => by obtain ⟨⟨dq, os⟩, rfl⟩ := hw'; exact rangeAt_below H0 (below_regrown w0 dq os) (by omega)) Tryz.underlying36 rfl (sizeHandL h) ?_; simp only [Act.put, List.setIfInBounds_toArray, List.set_cons_succ, List.set_cons_zero]
  iterate 1 (go_big_quiet_step (first | exact k1 _ _ | exact k2 _ _ | exact k3 _ _ | exact k4 _ _ | exact k5 _ _ | exact k6 _ _))
  refine wpQuiet_value_wanted (by first | rfl | kernel_rfl) (.agg (rgC h).toArray) (fun w' _ => by clear k1 k2 k3 k4 k5 k6; go_simp) ?_; simp only [Act.put, List.setIfInBounds_toArray, List.set_cons_succ, List.set_cons_zero]
  iterate 9 (go_big_quiet_step (first | exact k1 _ _ | exact k2 _ _ | exact k3 _ _ | exact k4 _ _ | exact k5 _ _ | exact k6 _ _))
  refine wpQuiet_nil ?_
  intro _ hw'
  obtain ⟨⟨dq, osq⟩, hw''⟩ := hw'
  subst hw''
  have BB := below_regrown w0 dq osq
  generalize grow (redrawn w0 dq) osq = wb at *
  go_wp2_with fail
  go_ret
  exact ⟨by rw [hv.out]; rfl, K0.trans (BB.mono (by omega))⟩
 rw [e5] at k6
 have hv : Hid (fitB x y z u A me h clk = true) := by show _ = _; simp [fitB, e1, e2, e3, e4, e5]
 refine wp_region_quiet_below (by kernel_rfl) (by kernel_rfl) ?_
 iterate 5 (go_big_quiet_step (first | exact k1 _ _ | exact k2 _ _ | exact k3 _ _ | exact k4 _ _ | exact k5 _ _ | exact k6 _ _))
 refine wpQuiet_load_wanted (by first | rfl | kernel_rfl) 36 (.tmp 8) rfl (w.heap.size + 1 + 1) 0 rfl (hdC h) _ (fun w' hw' => by obtain ⟨⟨dq, os⟩, rfl⟩ := hw'; exact rangeAt_below H0 (below_regrown w0 dq os) (by omega)) Tryz.underlying36 rfl (sizeHandL h) ?_; simp only [Act.put, List.setIfInBounds_toArray, List.set_cons_succ, List.set_cons_zero]
 iterate 12 (go_big_quiet_step (first | exact k1 _ _ | exact k2 _ _ | exact k3 _ _ | exact k4 _ _ | exact k5 _ _ | exact k6 _ _))
 refine wpQuiet_load_wanted (by first | rfl | kernel_rfl) 36 (.tmp 8) rfl (w.heap.size + 1 + 1) 0 rfl (hdC h) _ (fun w' hw' => by obtain ⟨⟨dq, os⟩, rfl⟩ := hw'; exact rangeAt_below H0 (below_regrown w0 dq os) (by omega)) Tryz.underlying36 rfl (sizeHandL h) ?_; simp only [Act.put, List.setIfInBounds_toArray, List.set_cons_succ, List.set_cons_zero]
 iterate 1 (go_big_quiet_step (first | exact k1 _ _ | exact k2 _ _ | exact k3 _ _ | exact k4 _ _ | exact k5 _ _ | exact k6 _ _))
 refine wpQuiet_value_wanted (by first | rfl | kernel_rfl) (.agg (rgC h).toArray) (fun w' _ => by clear k1 k2 k3 k4 k5 k6; go_simp) ?_; simp only [Act.put, List.setIfInBounds_toArray, List.set_cons_succ, List.set_cons_zero]
 iterate 9 (go_big_quiet_step (first | exact k1 _ _ | exact k2 _ _ | exact k3 _ _ | exact k4 _ _ | exact k5 _ _ | exact k6 _ _))
 refine wpQuiet_nil ?_
 intro _ hw'
 obtain ⟨⟨dq, osq⟩, hw''⟩ := hw'
 subst hw''
 have BB := below_regrown w0 dq osq
 generalize grow (redrawn w0 dq) osq = wb at *
 go_wp2_with fail
 go_ret
 exact ⟨by rw [hv.out]; rfl, K0.trans (BB.mono (by omega))⟩
end
section
attribute [local go_sem ↓] Go.wp_at_zero Go.wp_at_succ
structure FitIs (x y z u : Int) (A : Ar) (h : Hd) : Prop where
 ok : arenaB x y z u A = true
 ho : handB x y z u h = true
 x0 : 0 ≤ h.x_
 x1 : h.x_ < (A.nodes.length : Int)
 c0 : -1 ≤ h.curr
 c1 : h.curr < (A.nodes.length : Int)
 n0 : -1 ≤ h.new_
 v0 : 0 ≤ h.ver
 v1 : h.ver < (A.vers.length : Int)
 o0 : 0 ≤ h.out
 o1 : h.out ≤ 1000000
 s0 : 0 ≤ h.sum
 s1 : h.sum ≤ 1000000
 t0 : 0 ≤ h.then_
 t1 : h.then_ ≤ 7
 m0 : 0 ≤ h.cam
theorem fit_is {x y z u : Int} {A : Ar} {me : Int} {h : Hd} {clk : Int} (e : fitB x y z u A me h clk = true) : FitIs x y z u A h := by
 unfold fitB at e
 simp only [Bool.and_eq_true] at e
 obtain ⟨⟨⟨⟨e1, e2⟩, _⟩, _⟩, e5⟩ := e
 have e2' := e2
 unfold knowsB nodeIn verIn at e5
 unfold handB handFB at e2'
 simp only [Bool.and_eq_true, Bool.or_eq_true, beq_iff_eq, inB_iff] at e5 e2'
 refine ⟨e1, e2, ?_, ?_, ?_, ?_, ?_, ?_, ?_, ?_, ?_, ?_, ?_, ?_, ?_, ?_⟩ <;> omega
end
end Go.Proofs.YtlfjhcdjgoeafaaGreatDoor
