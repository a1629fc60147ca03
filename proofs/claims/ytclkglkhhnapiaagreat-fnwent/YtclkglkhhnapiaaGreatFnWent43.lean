/-
  What the law's proof goes by, part 44.
-/
import Derived.Test.YtclkglkhhnapiaaGreatFnWent00
import Derived.Test.YtclkglkhhnapiaaGreatFnWent07
import Derived.Test.YtclkglkhhnapiaaGreatFnWent40
import Derived.Test.YtclkglkhhnapiaaGreatFnWent41
import Derived.Test.YtclkglkhhnapiaaGreatFnWent42
namespace Go.Proofs.YtclkglkhhnapiaaGreat
open Go.ChangeShapes Go.WideShapes Go.ChangeAt Go.RowKit
set_option maxRecDepth 100000
set_option maxHeartbeats 16000000
set_option linter.unusedVariables false
set_option linter.unusedSimpArgs false
set_option linter.unnecessarySimpa false
set_option linter.unusedSectionVars false
section
open Go.ChangeShapes Go.WideShapes Go.ChangeAt Go.RowKit Go.Sort
attribute [local go_sem ↓] Go.wp_at_zero Go.wp_at_succ
theorem qzex (n l : Int) (hl : 0 <= l) : ((n == -1) || inB n 0 (l - 1)) = inB n (-1) (l - 1) := by
 cases e : inB n (-1) (l - 1)
 ·have h1 : ¬ (-1 <= n /\ n <= l - 1) := fun h => by rw [qz52 h.1 h.2] at e; exact absurd e (by decide)
  rw [qz9f (by omega), Bool.or_false]
  exact beq_eq_false_iff_ne.2 (by omega)
 ·obtain ⟨h1, h2⟩ := (qz1a _ _ _).1 e
  by_cases h3 : n = -1
  ·subst h3
   simp
  ·rw [qz52 (by omega) h2, Bool.or_true]
theorem qz9m (A : Ar) (h : Hd) : qz36 (A.nodes.length : Int) (A.vers.length : Int) h = qz25 A h := by
 unfold qz36 qz25 qz4t qz6x
 rw [qzex _ _ (by omega), qzex _ _ (by omega)]
theorem qzdq (B : Nat) (A : Ar) (x y z u me : Int) (h : Hd) (clk : Int) (a0 a1 a2 a3 : Option Addr) (c0 c1 c2 c3 : Nat) (w : World) (hB : B <= w.heap.size) (hA : A.size <= 1048576) (I : qzr B w Q0u Q0s Q0w Q14 A) :
  Calls Tryz.prog 17 #[.agg Q05, .agg Q01, .int .i64 me, .agg (hdC h).toArray, .int .i64 clk] w fun e w' => e = .returned (.bool (fitB x y z u A me h clk)) /\ Below w.heap.size w w' := by
 have hA' := hA
 unfold Ar.size at hA
 have P0 := World.rangeAt_alloc (World.rangeAt_alloc (qz6 w Q0n 25) (.cells Q01 30)) Q0f
 have X0 := World.rangeAt_alloc (qz6 Q3a Q0j 30) Q0f
 have H0 := qz6 Q2e (hdC h) 32
 have K0 := (((Below.refl w.heap.size w).alloc (Nat.le_refl _) (.cells Q05 25)).alloc (by simp) (.cells Q01 30)).alloc (by simp; omega) Q0f
 have hz0 : w.heap.size + 1 + 1 < ((Q2e).alloc Q0f).heap.size := by simp
 simp only [World.size_alloc] at X0 H0
 have I0 := I.below (K0.mono hB)
 go_enter Tryz.func17, Tryz.ntmps17
 go_wp2_with fail
 generalize hw0 : (Q2e).alloc Q0f = w0 at *
 clear hw0 I
 have p0 : w0.cell? ⟨w.heap.size, 0, none⟩ = some (.int .i64 x) := by simpa using P0 0 _ rfl
 have p1 : w0.cell? ⟨w.heap.size, 1, none⟩ = some (.int .i64 y) := by simpa using P0 1 _ rfl
 have p2 : w0.cell? ⟨w.heap.size, 2, none⟩ = some (.int .i64 z) := by simpa using P0 2 _ rfl
 have p3 : w0.cell? ⟨w.heap.size, 3, none⟩ = some (.int .i64 u) := by simpa using P0 3 _ rfl
 obtain ⟨x0, x1, x2, x3, x4⟩ := row5 X0
 have yp0 : ∀ (dq : Nat) (os : Array Obj), (grow (redrawn w0 dq) os).cell? ⟨w.heap.size, 0, none⟩ = some (.int .i64 x) := fun dq os => cell_regrown p0 dq os
 have yp1 : ∀ (dq : Nat) (os : Array Obj), (grow (redrawn w0 dq) os).cell? ⟨w.heap.size, 1, none⟩ = some (.int .i64 y) := fun dq os => cell_regrown p1 dq os
 have yp2 : ∀ (dq : Nat) (os : Array Obj), (grow (redrawn w0 dq) os).cell? ⟨w.heap.size, 2, none⟩ = some (.int .i64 z) := fun dq os => cell_regrown p2 dq os
 have yp3 : ∀ (dq : Nat) (os : Array Obj), (grow (redrawn w0 dq) os).cell? ⟨w.heap.size, 3, none⟩ = some (.int .i64 u) := fun dq os => cell_regrown p3 dq os
 have yx0 : ∀ (dq : Nat) (os : Array Obj), (grow (redrawn w0 dq) os).cell? ⟨w.heap.size + 1, 0, none⟩ = some (.int .i64 A.camera) := fun dq os => cell_regrown x0 dq os
 have yx1 : ∀ (dq : Nat) (os : Array Obj), (grow (redrawn w0 dq) os).cell? ⟨w.heap.size + 1, 1, none⟩ = some Q0u := fun dq os => cell_regrown x1 dq os
 have yx2 : ∀ (dq : Nat) (os : Array Obj), (grow (redrawn w0 dq) os).cell? ⟨w.heap.size + 1, 2, none⟩ = some Q0s := fun dq os => cell_regrown x2 dq os
 have yx3 : ∀ (dq : Nat) (os : Array Obj), (grow (redrawn w0 dq) os).cell? ⟨w.heap.size + 1, 3, none⟩ = some Q0w := fun dq os => cell_regrown x3 dq os
 have yx4 : ∀ (dq : Nat) (os : Array Obj), (grow (redrawn w0 dq) os).cell? ⟨w.heap.size + 1, 4, none⟩ = some Q14 := fun dq os => cell_regrown x4 dq os
 clear p0 p1 p2 p3 x0 x1 x2 x3 x4 P0 X0
 have k1 : ∀ (dq : Nat) (os : Array Obj), Calls Tryz.prog 53 #[.agg Q05, .agg Q01] (grow (redrawn w0 dq) os) fun e w'' => e = .returned (.bool (qz18 x y z u A)) /\ ∃ q : Regrown, w'' = grow (redrawn w0 q.d) q.os := fun dq os => Calls.regrown_of (qzb0 B A x y z u a0 a1 a2 a3 c0 c1 c2 c3 (grow (redrawn w0 dq) os) (Nat.le_trans hB (Nat.le_trans K0.size (below_regrown w0 dq os).size)) hA' (I0.below ((below_regrown w0 dq os).mono (Nat.le_trans hB K0.size))))
 have k2 : ∀ (dq : Nat) (os : Array Obj), Calls Tryz.prog 54 #[.agg Q05, .agg (hdC h).toArray] (grow (redrawn w0 dq) os) fun e w'' => e = .returned (.bool (qz3g x y z u h)) /\ ∃ q : Regrown, w'' = grow (redrawn w0 q.d) q.os := fun dq os => Calls.regrown_of (qzbr x y z u h _)
 have k3 : ∀ (dq : Nat) (os : Array Obj), Calls Tryz.prog 55 #[.agg Q05, .int .i64 me] (grow (redrawn w0 dq) os) fun e w'' => e = .returned (.bool (qzdw x y z u me)) /\ ∃ q : Regrown, w'' = grow (redrawn w0 q.d) q.os := fun dq os => Calls.regrown_of (qzc2 x y z u me _)
 have k4 : ∀ (dq : Nat) (os : Array Obj), Calls Tryz.prog 56 #[.int .i64 clk] (grow (redrawn w0 dq) os) fun e w'' => e = .returned (.bool (inB clk 0 20000)) /\ ∃ q : Regrown, w'' = grow (redrawn w0 q.d) q.os := fun dq os => Calls.regrown_of ((qz31 _ _).mono fun e w' h' => ⟨h'.1, by rw [h'.2]; exact Below.refl _ _⟩)
 have k5 : ∀ (dq : Nat) (os : Array Obj), Calls Tryz.prog 57 #[.agg (hdC h).toArray] (grow (redrawn w0 dq) os) fun e w'' => e = .returned (.agg (grC h).toArray) /\ ∃ q : Regrown, w'' = grow (redrawn w0 q.d) q.os := fun dq os => Calls.regrown_of (qz8g h _)
 have hkp : qz36 (A.nodes.length : Int) (A.vers.length : Int) h = qz25 A h := qz9m A h
 have k6 : ∀ (dq : Nat) (os : Array Obj), Calls Tryz.prog 58 #[.agg (rgC h).toArray, .int .i64 (A.nodes.length : Int), .int .i64 (A.vers.length : Int)] (grow (redrawn w0 dq) os) fun e w'' => e = .returned (.bool (qz25 A h)) /\ ∃ q : Regrown, w'' = grow (redrawn w0 q.d) q.os := fun dq os => Calls.regrown_of ((hkp ▸ qz8z (A.nodes.length : Int) (A.vers.length : Int) h _ ⟨by omega, by omega⟩ ⟨by omega, by omega⟩))
 have hfl : ∀ w', (Instr.field 98 (.agg (grC h).toArray) 0).run Tryz.prog w' = .ok (.agg (rgC h).toArray) w' := fun w' => by kernel_rfl
 clear hkp
 cases e1 : qz18 x y z u A
 case false =>
  rw [e1] at k1
  have hv : Hid (fitB x y z u A me h clk = false) := by show _ = _; simp [fitB, e1]
  refine wp_region_quiet_below (by kernel_rfl) (by kernel_rfl) ?_
  iterate 30 (go_big_quiet_step (first | exact k1 _ _ | exact k2 _ _ | exact k3 _ _ | exact k4 _ _ | exact k5 _ _ | exact k6 _ _))
  refine wpQuiet_nil ?_
  intro _ hw'
  obtain ⟨⟨dq, osq⟩, hw''⟩ := hw'
  subst hw''
  have BB := below_regrown w0 dq osq
  generalize grow (redrawn w0 dq) osq = wb at *
  go_wp2_with fail
  go_ret
  exact ⟨by rw [hv.out]; rfl, K0.trans (BB.mono (by omega))⟩
 rw [e1] at k1
 cases e2 : qz3g x y z u h
 case false =>
  rw [e2] at k2
  have hv : Hid (fitB x y z u A me h clk = false) := by show _ = _; simp [fitB, e1, e2]
  refine wp_region_quiet_below (by kernel_rfl) (by kernel_rfl) ?_
  iterate 5 (go_big_quiet_step (first | exact k1 _ _ | exact k2 _ _ | exact k3 _ _ | exact k4 _ _ | exact k5 _ _ | exact k6 _ _))
  refine qz1e (by first | rfl | kernel_rfl) 32 (.tmp 8) rfl (w.heap.size + 1 + 1) 0 rfl (hdC h) _ (fun w' hw' => by obtain ⟨⟨dq, os⟩, rfl⟩ := hw'; exact qz0 H0 (below_regrown w0 dq os) (by omega)) Tryz.underlying32 rfl (qz1 h) ?_; simp only [Act.put, List.setIfInBounds_toArray, List.set_cons_succ, List.set_cons_zero]
  iterate 24 (go_big_quiet_step (first | exact k1 _ _ | exact k2 _ _ | exact k3 _ _ | exact k4 _ _ | exact k5 _ _ | exact k6 _ _))
  refine wpQuiet_nil ?_
  intro _ hw'
  obtain ⟨⟨dq, osq⟩, hw''⟩ := hw'
  subst hw''
  have BB := below_regrown w0 dq osq
  generalize grow (redrawn w0 dq) osq = wb at *
  go_wp2_with fail
  go_ret
  exact ⟨by rw [hv.out]; rfl, K0.trans (BB.mono (by omega))⟩
 rw [e2] at k2
 have epl : qz3t x y z u = true := by
  have := e2
  unfold qz3g at this
  simp only [Bool.and_eq_true] at this
  exact this.1.1
 have ep : qzdw x y z u me = inB me 0 (x - 1) := by simp [qzdw, epl]
 rw [ep] at k3
 cases e3 : inB me 0 (x - 1)
 case false =>
  rw [e3] at k3
  have hv : Hid (fitB x y z u A me h clk = false) := by show _ = _; simp [fitB, e1, e2, e3]
  refine wp_region_quiet_below (by kernel_rfl) (by kernel_rfl) ?_
  iterate 5 (go_big_quiet_step (first | exact k1 _ _ | exact k2 _ _ | exact k3 _ _ | exact k4 _ _ | exact k5 _ _ | exact k6 _ _))
  refine qz1e (by first | rfl | kernel_rfl) 32 (.tmp 8) rfl (w.heap.size + 1 + 1) 0 rfl (hdC h) _ (fun w' hw' => by obtain ⟨⟨dq, os⟩, rfl⟩ := hw'; exact qz0 H0 (below_regrown w0 dq os) (by omega)) Tryz.underlying32 rfl (qz1 h) ?_; simp only [Act.put, List.setIfInBounds_toArray, List.set_cons_succ, List.set_cons_zero]
  iterate 24 (go_big_quiet_step (first | exact k1 _ _ | exact k2 _ _ | exact k3 _ _ | exact k4 _ _ | exact k5 _ _ | exact k6 _ _))
  refine wpQuiet_nil ?_
  intro _ hw'
  obtain ⟨⟨dq, osq⟩, hw''⟩ := hw'
  subst hw''
  have BB := below_regrown w0 dq osq
  generalize grow (redrawn w0 dq) osq = wb at *
  go_wp2_with fail
  go_ret
  exact ⟨by rw [hv.out]; rfl, K0.trans (BB.mono (by omega))⟩
 rw [e3] at k3
 cases e4 : inB clk 0 20000
 case false =>
  rw [e4] at k4
  have hv : Hid (fitB x y z u A me h clk = false) := by show _ = _; simp [fitB, e1, e2, e3, e4]
  refine wp_region_quiet_below (by kernel_rfl) (by kernel_rfl) ?_
  iterate 5 (go_big_quiet_step (first | exact k1 _ _ | exact k2 _ _ | exact k3 _ _ | exact k4 _ _ | exact k5 _ _ | exact k6 _ _))
  refine qz1e (by first | rfl | kernel_rfl) 32 (.tmp 8) rfl (w.heap.size + 1 + 1) 0 rfl (hdC h) _ (fun w' hw' => by obtain ⟨⟨dq, os⟩, rfl⟩ := hw'; exact qz0 H0 (below_regrown w0 dq os) (by omega)) Tryz.underlying32 rfl (qz1 h) ?_; simp only [Act.put, List.setIfInBounds_toArray, List.set_cons_succ, List.set_cons_zero]
  iterate 24 (go_big_quiet_step (first | exact k1 _ _ | exact k2 _ _ | exact k3 _ _ | exact k4 _ _ | exact k5 _ _ | exact k6 _ _))
  refine wpQuiet_nil ?_
  intro _ hw'
  obtain ⟨⟨dq, osq⟩, hw''⟩ := hw'
  subst hw''
  have BB := below_regrown w0 dq osq
  generalize grow (redrawn w0 dq) osq = wb at *
  go_wp2_with fail
  go_ret
  exact ⟨by rw [hv.out]; rfl, K0.trans (BB.mono (by omega))⟩
 rw [e4] at k4
 cases e5 : qz25 A h
 case false =>
  rw [e5] at k6
  have hv : Hid (fitB x y z u A me h clk = false) := by show _ = _; simp [fitB, e1, e2, e3, e4, e5]
  refine wp_region_quiet_below (by kernel_rfl) (by kernel_rfl) ?_
  iterate 5 (go_big_quiet_step (first | exact k1 _ _ | exact k2 _ _ | exact k3 _ _ | exact k4 _ _ | exact k5 _ _ | exact k6 _ _))
  refine qz1e (by first | rfl | kernel_rfl) 32 (.tmp 8) rfl (w.heap.size + 1 + 1) 0 rfl (hdC h) _ (fun w' hw' => by obtain ⟨⟨dq, os⟩, rfl⟩ := hw'; exact qz0 H0 (below_regrown w0 dq os) (by omega)) Tryz.underlying32 rfl (qz1 h) ?_; simp only [Act.put, List.setIfInBounds_toArray, List.set_cons_succ, List.set_cons_zero]
  iterate 12 (go_big_quiet_step (first | exact k1 _ _ | exact k2 _ _ | exact k3 _ _ | exact k4 _ _ | exact k5 _ _ | exact k6 _ _))
  refine qz1e (by first | rfl | kernel_rfl) 32 (.tmp 8) rfl (w.heap.size + 1 + 1) 0 rfl (hdC h) _ (fun w' hw' => by obtain ⟨⟨dq, os⟩, rfl⟩ := hw'; exact qz0 H0 (below_regrown w0 dq os) (by omega)) Tryz.underlying32 rfl (qz1 h) ?_; simp only [Act.put, List.setIfInBounds_toArray, List.set_cons_succ, List.set_cons_zero]
  iterate 1 (go_big_quiet_step (first | exact k1 _ _ | exact k2 _ _ | exact k3 _ _ | exact k4 _ _ | exact k5 _ _ | exact k6 _ _))
  refine qz40 (by first | rfl | kernel_rfl) (.agg (rgC h).toArray) (fun w' _ => by clear k1 k2 k3 k4 k5 k6; go_simp) ?_; simp only [Act.put, List.setIfInBounds_toArray, List.set_cons_succ, List.set_cons_zero]
  iterate 9 (go_big_quiet_step (first | exact k1 _ _ | exact k2 _ _ | exact k3 _ _ | exact k4 _ _ | exact k5 _ _ | exact k6 _ _))
  refine wpQuiet_nil ?_
  intro _ hw'
  obtain ⟨⟨dq, osq⟩, hw''⟩ := hw'
  subst hw''
  have BB := below_regrown w0 dq osq
  generalize grow (redrawn w0 dq) osq = wb at *
  go_wp2_with fail
  go_ret
  exact ⟨by rw [hv.out]; rfl, K0.trans (BB.mono (by omega))⟩
 rw [e5] at k6
 have hv : Hid (fitB x y z u A me h clk = true) := by show _ = _; simp [fitB, e1, e2, e3, e4, e5]
 refine wp_region_quiet_below (by kernel_rfl) (by kernel_rfl) ?_
 iterate 5 (go_big_quiet_step (first | exact k1 _ _ | exact k2 _ _ | exact k3 _ _ | exact k4 _ _ | exact k5 _ _ | exact k6 _ _))
 refine qz1e (by first | rfl | kernel_rfl) 32 (.tmp 8) rfl (w.heap.size + 1 + 1) 0 rfl (hdC h) _ (fun w' hw' => by obtain ⟨⟨dq, os⟩, rfl⟩ := hw'; exact qz0 H0 (below_regrown w0 dq os) (by omega)) Tryz.underlying32 rfl (qz1 h) ?_; simp only [Act.put, List.setIfInBounds_toArray, List.set_cons_succ, List.set_cons_zero]
 iterate 12 (go_big_quiet_step (first | exact k1 _ _ | exact k2 _ _ | exact k3 _ _ | exact k4 _ _ | exact k5 _ _ | exact k6 _ _))
 refine qz1e (by first | rfl | kernel_rfl) 32 (.tmp 8) rfl (w.heap.size + 1 + 1) 0 rfl (hdC h) _ (fun w' hw' => by obtain ⟨⟨dq, os⟩, rfl⟩ := hw'; exact qz0 H0 (below_regrown w0 dq os) (by omega)) Tryz.underlying32 rfl (qz1 h) ?_; simp only [Act.put, List.setIfInBounds_toArray, List.set_cons_succ, List.set_cons_zero]
 iterate 1 (go_big_quiet_step (first | exact k1 _ _ | exact k2 _ _ | exact k3 _ _ | exact k4 _ _ | exact k5 _ _ | exact k6 _ _))
 refine qz40 (by first | rfl | kernel_rfl) (.agg (rgC h).toArray) (fun w' _ => by clear k1 k2 k3 k4 k5 k6; go_simp) ?_; simp only [Act.put, List.setIfInBounds_toArray, List.set_cons_succ, List.set_cons_zero]
 iterate 9 (go_big_quiet_step (first | exact k1 _ _ | exact k2 _ _ | exact k3 _ _ | exact k4 _ _ | exact k5 _ _ | exact k6 _ _))
 refine wpQuiet_nil ?_
 intro _ hw'
 obtain ⟨⟨dq, osq⟩, hw''⟩ := hw'
 subst hw''
 have BB := below_regrown w0 dq osq
 generalize grow (redrawn w0 dq) osq = wb at *
 go_wp2_with fail
 go_ret
 exact ⟨by rw [hv.out]; rfl, K0.trans (BB.mono (by omega))⟩
end
section
attribute [local go_sem ↓] Go.wp_at_zero Go.wp_at_succ
def qz1m (h : Hd) (n : Int) : Hd := { h with at_ := n }
theorem qz1g (h : Hd) (n : Int) (w : World)  :
  Calls Tryz.prog 89 #[.agg (hdC h).toArray, .int .i64 n] w fun e w' => e = .returned (.agg (hdC (qz1m h n)).toArray) /\ Below w.heap.size w w' := by
 have H0 := World.rangeAt_alloc (qz6 w (hdC h) 32) (.cells Q00 32)
 have G0 := World.there_alloc (qz8 w (hdC h).toArray 32 22 (by simp [hdC])) (.cells Q00 32)
 have F0 := qz8 (w.alloc Q0f) Q00 32 22 (by decide)
 have K0 := (((Below.refl w.heap.size w).alloc (Nat.le_refl _) Q0f).alloc (by simp) (.cells Q00 32))
 have hz0 : w.heap.size + 1 < ((w.alloc Q0f).alloc (.cells Q00 32)).heap.size := by simp
 simp only [World.size_alloc] at F0
 go_enter Tryz.func89, Tryz.ntmps89
 have tok : True := trivial
 go_wp2_with (clear tok; refine qz1q ((w.alloc Q0f).alloc (.cells Q00 32)) ?_)
 generalize hw0 : (w.alloc Q0f).alloc (.cells Q00 32) = w0 at *
 clear hw0
 show wpList _ _ _ _ _ w0
 have q0 : w0.cell? ⟨w.heap.size, 0, none⟩ = some (.int .i64 h.at_) := by simpa using H0 0 (.int .i64 h.at_) rfl
 have f0 : w0.frozen? ⟨w.heap.size, 0, none⟩ = false := by simpa using (G0 0 (by decide)).2
 obtain ⟨H', hH⟩ : ∃ H' : Hd, Hid (H' = { h with at_ := n }) := by exact ⟨_, rfl⟩
 have hv : Hid (qz1m h n = H') := by show _ = _; rw [hH.out]; rfl
 go_wp2_with (first | (refine wpList_load_mid rfl 32 (.tmp 2) rfl (w.heap.size) 0 ?hxln19 (hdC H') _ ?hcn19 Tryz.underlying32 rfl (qz1 H') ?_) | (refine wpList_store_mid rfl 32 (.tmp 4) _ rfl (w.heap.size + 1) 0 (hdC H').toArray ?hxn19 ?hyn19 ?htn19 (qz7 _) (qzb _) ?_))
 try (case hxln19 => rfl)
 case hcn19 => rw [hH.out]; exact (qzc H0 0 (by simp [hdC]) _)
 try (case hxn19 => rfl)
 try (case hyn19 => rfl)
 case htn19 => exact (qz5 F0 _ _)
 refine bodyPost_ret (v := .agg (hdC H').toArray) ?_ rfl ⟨by rw [hv.out], ?_⟩
 ·exact qz3 Tryz.results89 _ _ (w.heap.size + 1) 0 rfl (hdC H') _ (World.rangeAt_setCells_same _ _ _ _ (qz5 F0 _ _)) Tryz.underlying32 rfl (qz1 _)
 ·exact Below.setCells (by omega) _ _ _ (Below.setCell K0 (p := ⟨w.heap.size, 0, none⟩) (by show w.heap.size <= w.heap.size; omega) _)
end
end Go.Proofs.YtclkglkhhnapiaaGreat
