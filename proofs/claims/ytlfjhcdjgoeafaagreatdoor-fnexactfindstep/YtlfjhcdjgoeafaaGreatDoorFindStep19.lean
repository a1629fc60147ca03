/-
  What the law's proof goes by, part 20.
-/
import Derived.Lib.QuietBelow
import Derived.BigQuiet
import Derived.Test.YtlfjhcdjgoeafaaGreatDoorFindStep00
import Derived.Test.YtlfjhcdjgoeafaaGreatDoorFindStep05
import Derived.Test.YtlfjhcdjgoeafaaGreatDoorFindStep07
namespace Go.Proofs.YtlfjhcdjgoeafaaGreatDoor
open Go.ChangeShapes Go.WideShapes Go.ChangeAt Go.RowKit
set_option linter.unusedVariables false
set_option linter.unusedSimpArgs false
set_option linter.unnecessarySimpa false
set_option linter.unusedSectionVars false
section
attribute [local go_sem ↓] Go.wp_at_zero Go.wp_at_succ
def nodeIn (A : Ar) (n : Int) : Bool := inB n 0 ((A.nodes.length : Int) - 1)
def verIn (A : Ar) (n : Int) : Bool := inB n 0 ((A.vers.length : Int) - 1)
def knowsB (A : Ar) (h : Hd) : Bool := nodeIn A h.x_ && nodeIn A h.pred && ((h.curr == -1) || nodeIn A h.curr) && ((h.new_ == -1) || nodeIn A h.new_) && verIn A h.ver && verIn A h.predVer && verIn A h.currVer
set_option maxRecDepth 100000 in
set_option maxHeartbeats 4000000 in
theorem l7Knows_any (A : Ar) (h : Hd) (a0 a1 a2 a3 : Option Addr) (c0 c1 c2 c3 : Nat) (w : World) (hA : A.size ≤ 1048576) :
  Calls Tryz.prog 42 #[.agg #[.int .i64 A.camera, .slice a0 A.slots.length c0, .slice a1 A.guides.length c1, .slice a2 A.nodes.length c2, .slice a3 A.vers.length c3], .agg (hdC h).toArray] w fun e w' => e = .returned (.bool (knowsB A h)) ∧ Below w.heap.size w w' := by
 unfold Ar.size at hA
 have X0 := World.rangeAt_alloc (rangeAt_new w [.int .i64 A.camera, .slice a0 A.slots.length c0, .slice a1 A.guides.length c1, .slice a2 A.nodes.length c2, .slice a3 A.vers.length c3] 35) (.cells (hdC h).toArray 36)
 have H0 := rangeAt_new (w.alloc (.cells #[.int .i64 A.camera, .slice a0 A.slots.length c0, .slice a1 A.guides.length c1, .slice a2 A.nodes.length c2, .slice a3 A.vers.length c3] 35)) (hdC h) 36
 have K0 := ((Below.refl w.heap.size w).alloc (Nat.le_refl _) (.cells #[.int .i64 A.camera, .slice a0 A.slots.length c0, .slice a1 A.guides.length c1, .slice a2 A.nodes.length c2, .slice a3 A.vers.length c3] 35)).alloc (by simp) (.cells (hdC h).toArray 36)
 have hz0 : w.heap.size + 1 < ((w.alloc (.cells #[.int .i64 A.camera, .slice a0 A.slots.length c0, .slice a1 A.guides.length c1, .slice a2 A.nodes.length c2, .slice a3 A.vers.length c3] 35)).alloc (.cells (hdC h).toArray 36)).heap.size := by simp
 simp only [World.size_alloc] at H0
 go_enter Tryz.func42, Tryz.ntmps42
 have tok : True := trivial
 go_wp2_with (clear tok; refine stopAt ((w.alloc (.cells #[.int .i64 A.camera, .slice a0 A.slots.length c0, .slice a1 A.guides.length c1, .slice a2 A.nodes.length c2, .slice a3 A.vers.length c3] 35)).alloc (.cells (hdC h).toArray 36)) ?_)
 generalize hw0 : (w.alloc (.cells #[.int .i64 A.camera, .slice a0 A.slots.length c0, .slice a1 A.guides.length c1, .slice a2 A.nodes.length c2, .slice a3 A.vers.length c3] 35)).alloc (.cells (hdC h).toArray 36) = w0 at *
 show wpList _ _ _ _ _ w0
 clear hw0
 obtain ⟨x0, x1, x2, x3, x4⟩ := row5 X0
 have q10 : w0.cell? ⟨w.heap.size + 1, 10, none⟩ = some (.int .i64 h.x_) := by simpa using H0 10 (.int .i64 h.x_) rfl
 have q14 : w0.cell? ⟨w.heap.size + 1, 14, none⟩ = some (.int .i64 h.pred) := by simpa using H0 14 (.int .i64 h.pred) rfl
 have q16 : w0.cell? ⟨w.heap.size + 1, 16, none⟩ = some (.int .i64 h.curr) := by simpa using H0 16 (.int .i64 h.curr) rfl
 have q18 : w0.cell? ⟨w.heap.size + 1, 18, none⟩ = some (.int .i64 h.new_) := by simpa using H0 18 (.int .i64 h.new_) rfl
 have q11 : w0.cell? ⟨w.heap.size + 1, 11, none⟩ = some (.int .i64 h.ver) := by simpa using H0 11 (.int .i64 h.ver) rfl
 have q15 : w0.cell? ⟨w.heap.size + 1, 15, none⟩ = some (.int .i64 h.predVer) := by simpa using H0 15 (.int .i64 h.predVer) rfl
 have q17 : w0.cell? ⟨w.heap.size + 1, 17, none⟩ = some (.int .i64 h.currVer) := by simpa using H0 17 (.int .i64 h.currVer) rfl
 go_wp2_with fail
 clear x0 x1 x2 x3 x4 q10 q14 q16 q18 q11 q15 q17
 refine (l2Node_any _ _ _ _ _ _ _ _ _ (by omega)).mono ?_
 rintro e w1 ⟨rfl, b1⟩
 have X1 := rangeAt_below X0 b1 (by omega)
 have H1 := rangeAt_below H0 b1 (by omega)
 have K1 := K0.trans (b1.mono (by omega))
 have hz1 := Nat.lt_of_lt_of_le hz0 b1.size
 clear X0 H0 K0 b1
 obtain ⟨x0, x1, x2, x3, x4⟩ := row5 X1
 have q10 : w1.cell? ⟨w.heap.size + 1, 10, none⟩ = some (.int .i64 h.x_) := by simpa using H1 10 (.int .i64 h.x_) rfl
 have q14 : w1.cell? ⟨w.heap.size + 1, 14, none⟩ = some (.int .i64 h.pred) := by simpa using H1 14 (.int .i64 h.pred) rfl
 have q16 : w1.cell? ⟨w.heap.size + 1, 16, none⟩ = some (.int .i64 h.curr) := by simpa using H1 16 (.int .i64 h.curr) rfl
 have q18 : w1.cell? ⟨w.heap.size + 1, 18, none⟩ = some (.int .i64 h.new_) := by simpa using H1 18 (.int .i64 h.new_) rfl
 have q11 : w1.cell? ⟨w.heap.size + 1, 11, none⟩ = some (.int .i64 h.ver) := by simpa using H1 11 (.int .i64 h.ver) rfl
 have q15 : w1.cell? ⟨w.heap.size + 1, 15, none⟩ = some (.int .i64 h.predVer) := by simpa using H1 15 (.int .i64 h.predVer) rfl
 have q17 : w1.cell? ⟨w.heap.size + 1, 17, none⟩ = some (.int .i64 h.currVer) := by simpa using H1 17 (.int .i64 h.currVer) rfl
 cases ex_ : inB h.x_ 0 ((A.nodes.length : Int) - 1)
 ·have kx_ : nodeIn A h.x_ = false := ex_
  have hv : knowsB A h = false := by simp [knowsB, kx_]
  go_wp2
  go_ret
  exact ⟨by first | rfl | (rw [hv]; rfl), K1⟩
 have kx_ : nodeIn A h.x_ = true := ex_
 go_wp2_with fail
 clear x0 x1 x2 x3 x4 q10 q14 q16 q18 q11 q15 q17
 refine (l2Node_any _ _ _ _ _ _ _ _ _ (by omega)).mono ?_
 rintro e w2 ⟨rfl, b2⟩
 have X2 := rangeAt_below X1 b2 (by omega)
 have H2 := rangeAt_below H1 b2 (by omega)
 have K2 := K1.trans (b2.mono (by omega))
 have hz2 := Nat.lt_of_lt_of_le hz1 b2.size
 clear X1 H1 K1 b2
 obtain ⟨x0, x1, x2, x3, x4⟩ := row5 X2
 have q10 : w2.cell? ⟨w.heap.size + 1, 10, none⟩ = some (.int .i64 h.x_) := by simpa using H2 10 (.int .i64 h.x_) rfl
 have q14 : w2.cell? ⟨w.heap.size + 1, 14, none⟩ = some (.int .i64 h.pred) := by simpa using H2 14 (.int .i64 h.pred) rfl
 have q16 : w2.cell? ⟨w.heap.size + 1, 16, none⟩ = some (.int .i64 h.curr) := by simpa using H2 16 (.int .i64 h.curr) rfl
 have q18 : w2.cell? ⟨w.heap.size + 1, 18, none⟩ = some (.int .i64 h.new_) := by simpa using H2 18 (.int .i64 h.new_) rfl
 have q11 : w2.cell? ⟨w.heap.size + 1, 11, none⟩ = some (.int .i64 h.ver) := by simpa using H2 11 (.int .i64 h.ver) rfl
 have q15 : w2.cell? ⟨w.heap.size + 1, 15, none⟩ = some (.int .i64 h.predVer) := by simpa using H2 15 (.int .i64 h.predVer) rfl
 have q17 : w2.cell? ⟨w.heap.size + 1, 17, none⟩ = some (.int .i64 h.currVer) := by simpa using H2 17 (.int .i64 h.currVer) rfl
 cases epred : inB h.pred 0 ((A.nodes.length : Int) - 1)
 ·have kpred : nodeIn A h.pred = false := epred
  have hv : knowsB A h = false := by simp [knowsB, kpred]
  go_wp2
  go_ret
  exact ⟨by first | rfl | (rw [hv]; rfl), K2⟩
 have kpred : nodeIn A h.pred = true := epred
 by_cases mcurr : h.curr = -1
 case pos =>
  have bcurr : (h.curr == -1) = true := by simp [mcurr]
  have dcurr : (h.curr != -1) = false := by simp [mcurr]
  by_cases mnew_ : h.new_ = -1
  case pos =>
   have bnew_ : (h.new_ == -1) = true := by simp [mnew_]
   have dnew_ : (h.new_ != -1) = false := by simp [mnew_]
   go_wp2_with fail
   clear x0 x1 x2 x3 x4 q10 q14 q16 q18 q11 q15 q17
   refine (l2Ver_any _ _ _ _ _ _ _ _ _ (by omega)).mono ?_
   rintro e w3 ⟨rfl, b3⟩
   have X3 := rangeAt_below X2 b3 (by omega)
   have H3 := rangeAt_below H2 b3 (by omega)
   have K3 := K2.trans (b3.mono (by omega))
   have hz3 := Nat.lt_of_lt_of_le hz2 b3.size
   clear X2 H2 K2 b3
   obtain ⟨x0, x1, x2, x3, x4⟩ := row5 X3
   have q10 : w3.cell? ⟨w.heap.size + 1, 10, none⟩ = some (.int .i64 h.x_) := by simpa using H3 10 (.int .i64 h.x_) rfl
   have q14 : w3.cell? ⟨w.heap.size + 1, 14, none⟩ = some (.int .i64 h.pred) := by simpa using H3 14 (.int .i64 h.pred) rfl
   have q16 : w3.cell? ⟨w.heap.size + 1, 16, none⟩ = some (.int .i64 h.curr) := by simpa using H3 16 (.int .i64 h.curr) rfl
   have q18 : w3.cell? ⟨w.heap.size + 1, 18, none⟩ = some (.int .i64 h.new_) := by simpa using H3 18 (.int .i64 h.new_) rfl
   have q11 : w3.cell? ⟨w.heap.size + 1, 11, none⟩ = some (.int .i64 h.ver) := by simpa using H3 11 (.int .i64 h.ver) rfl
   have q15 : w3.cell? ⟨w.heap.size + 1, 15, none⟩ = some (.int .i64 h.predVer) := by simpa using H3 15 (.int .i64 h.predVer) rfl
   have q17 : w3.cell? ⟨w.heap.size + 1, 17, none⟩ = some (.int .i64 h.currVer) := by simpa using H3 17 (.int .i64 h.currVer) rfl
   cases ever : inB h.ver 0 ((A.vers.length : Int) - 1)
   ·have kver : verIn A h.ver = false := ever
    have hv : knowsB A h = false := by simp [knowsB, kver]
    go_wp2
    go_ret
    exact ⟨by first | rfl | (rw [hv]; rfl), K3⟩
   have kver : verIn A h.ver = true := ever
   go_wp2_with fail
   clear x0 x1 x2 x3 x4 q10 q14 q16 q18 q11 q15 q17
   refine (l2Ver_any _ _ _ _ _ _ _ _ _ (by omega)).mono ?_
   rintro e w4 ⟨rfl, b4⟩
   have X4 := rangeAt_below X3 b4 (by omega)
   have H4 := rangeAt_below H3 b4 (by omega)
   have K4 := K3.trans (b4.mono (by omega))
   have hz4 := Nat.lt_of_lt_of_le hz3 b4.size
   clear X3 H3 K3 b4
   obtain ⟨x0, x1, x2, x3, x4⟩ := row5 X4
   have q10 : w4.cell? ⟨w.heap.size + 1, 10, none⟩ = some (.int .i64 h.x_) := by simpa using H4 10 (.int .i64 h.x_) rfl
   have q14 : w4.cell? ⟨w.heap.size + 1, 14, none⟩ = some (.int .i64 h.pred) := by simpa using H4 14 (.int .i64 h.pred) rfl
   have q16 : w4.cell? ⟨w.heap.size + 1, 16, none⟩ = some (.int .i64 h.curr) := by simpa using H4 16 (.int .i64 h.curr) rfl
   have q18 : w4.cell? ⟨w.heap.size + 1, 18, none⟩ = some (.int .i64 h.new_) := by simpa using H4 18 (.int .i64 h.new_) rfl
   have q11 : w4.cell? ⟨w.heap.size + 1, 11, none⟩ = some (.int .i64 h.ver) := by simpa using H4 11 (.int .i64 h.ver) rfl
   have q15 : w4.cell? ⟨w.heap.size + 1, 15, none⟩ = some (.int .i64 h.predVer) := by simpa using H4 15 (.int .i64 h.predVer) rfl
   have q17 : w4.cell? ⟨w.heap.size + 1, 17, none⟩ = some (.int .i64 h.currVer) := by simpa using H4 17 (.int .i64 h.currVer) rfl
   cases epredVer : inB h.predVer 0 ((A.vers.length : Int) - 1)
   ·have kpredVer : verIn A h.predVer = false := epredVer
    have hv : knowsB A h = false := by simp [knowsB, kpredVer]
    go_wp2
    go_ret
    exact ⟨by first | rfl | (rw [hv]; rfl), K4⟩
   have kpredVer : verIn A h.predVer = true := epredVer
   go_wp2_with fail
   clear x0 x1 x2 x3 x4 q10 q14 q16 q18 q11 q15 q17
   refine (l2Ver_any _ _ _ _ _ _ _ _ _ (by omega)).mono ?_
   rintro e w5 ⟨rfl, b5⟩
   have X5 := rangeAt_below X4 b5 (by omega)
   have H5 := rangeAt_below H4 b5 (by omega)
   have K5 := K4.trans (b5.mono (by omega))
   have hz5 := Nat.lt_of_lt_of_le hz4 b5.size
   clear X4 H4 K4 b5
   obtain ⟨x0, x1, x2, x3, x4⟩ := row5 X5
   have q10 : w5.cell? ⟨w.heap.size + 1, 10, none⟩ = some (.int .i64 h.x_) := by simpa using H5 10 (.int .i64 h.x_) rfl
   have q14 : w5.cell? ⟨w.heap.size + 1, 14, none⟩ = some (.int .i64 h.pred) := by simpa using H5 14 (.int .i64 h.pred) rfl
   have q16 : w5.cell? ⟨w.heap.size + 1, 16, none⟩ = some (.int .i64 h.curr) := by simpa using H5 16 (.int .i64 h.curr) rfl
   have q18 : w5.cell? ⟨w.heap.size + 1, 18, none⟩ = some (.int .i64 h.new_) := by simpa using H5 18 (.int .i64 h.new_) rfl
   have q11 : w5.cell? ⟨w.heap.size + 1, 11, none⟩ = some (.int .i64 h.ver) := by simpa using H5 11 (.int .i64 h.ver) rfl
   have q15 : w5.cell? ⟨w.heap.size + 1, 15, none⟩ = some (.int .i64 h.predVer) := by simpa using H5 15 (.int .i64 h.predVer) rfl
   have q17 : w5.cell? ⟨w.heap.size + 1, 17, none⟩ = some (.int .i64 h.currVer) := by simpa using H5 17 (.int .i64 h.currVer) rfl
   have hv : knowsB A h = inB h.currVer 0 ((A.vers.length : Int) - 1) := by unfold knowsB; rw [kx_, kpred, bcurr, bnew_, kver, kpredVer]; rfl
   go_wp2
   go_ret
   exact ⟨by first | rfl | (rw [hv]; rfl), K5⟩
  have bnew_ : (h.new_ == -1) = false := by simp [mnew_]
  have dnew_ : (h.new_ != -1) = true := by simp [mnew_]
  go_wp2_with fail
  clear x0 x1 x2 x3 x4 q10 q14 q16 q18 q11 q15 q17
  refine (l2Node_any _ _ _ _ _ _ _ _ _ (by omega)).mono ?_
  rintro e w3 ⟨rfl, b3⟩
  have X3 := rangeAt_below X2 b3 (by omega)
  have H3 := rangeAt_below H2 b3 (by omega)
  have K3 := K2.trans (b3.mono (by omega))
  have hz3 := Nat.lt_of_lt_of_le hz2 b3.size
  clear X2 H2 K2 b3
  obtain ⟨x0, x1, x2, x3, x4⟩ := row5 X3
  have q10 : w3.cell? ⟨w.heap.size + 1, 10, none⟩ = some (.int .i64 h.x_) := by simpa using H3 10 (.int .i64 h.x_) rfl
  have q14 : w3.cell? ⟨w.heap.size + 1, 14, none⟩ = some (.int .i64 h.pred) := by simpa using H3 14 (.int .i64 h.pred) rfl
  have q16 : w3.cell? ⟨w.heap.size + 1, 16, none⟩ = some (.int .i64 h.curr) := by simpa using H3 16 (.int .i64 h.curr) rfl
  have q18 : w3.cell? ⟨w.heap.size + 1, 18, none⟩ = some (.int .i64 h.new_) := by simpa using H3 18 (.int .i64 h.new_) rfl
  have q11 : w3.cell? ⟨w.heap.size + 1, 11, none⟩ = some (.int .i64 h.ver) := by simpa using H3 11 (.int .i64 h.ver) rfl
  have q15 : w3.cell? ⟨w.heap.size + 1, 15, none⟩ = some (.int .i64 h.predVer) := by simpa using H3 15 (.int .i64 h.predVer) rfl
  have q17 : w3.cell? ⟨w.heap.size + 1, 17, none⟩ = some (.int .i64 h.currVer) := by simpa using H3 17 (.int .i64 h.currVer) rfl
  cases enew_ : inB h.new_ 0 ((A.nodes.length : Int) - 1)
  ·have knew_ : nodeIn A h.new_ = false := enew_
   have hv : knowsB A h = false := by simp [knowsB, knew_, mnew_]
   go_wp2
   go_ret
   exact ⟨by first | rfl | (rw [hv]; rfl), K3⟩
  have knew_ : nodeIn A h.new_ = true := enew_
  go_wp2_with fail
  clear x0 x1 x2 x3 x4 q10 q14 q16 q18 q11 q15 q17
  refine (l2Ver_any _ _ _ _ _ _ _ _ _ (by omega)).mono ?_
  rintro e w4 ⟨rfl, b4⟩
  have X4 := rangeAt_below X3 b4 (by omega)
  have H4 := rangeAt_below H3 b4 (by omega)
  have K4 := K3.trans (b4.mono (by omega))
  have hz4 := Nat.lt_of_lt_of_le hz3 b4.size
  clear X3 H3 K3 b4
  obtain ⟨x0, x1, x2, x3, x4⟩ := row5 X4
  have q10 : w4.cell? ⟨w.heap.size + 1, 10, none⟩ = some (.int .i64 h.x_) := by simpa using H4 10 (.int .i64 h.x_) rfl
  have q14 : w4.cell? ⟨w.heap.size + 1, 14, none⟩ = some (.int .i64 h.pred) := by simpa using H4 14 (.int .i64 h.pred) rfl
  have q16 : w4.cell? ⟨w.heap.size + 1, 16, none⟩ = some (.int .i64 h.curr) := by simpa using H4 16 (.int .i64 h.curr) rfl
  have q18 : w4.cell? ⟨w.heap.size + 1, 18, none⟩ = some (.int .i64 h.new_) := by simpa using H4 18 (.int .i64 h.new_) rfl
  have q11 : w4.cell? ⟨w.heap.size + 1, 11, none⟩ = some (.int .i64 h.ver) := by simpa using H4 11 (.int .i64 h.ver) rfl
  have q15 : w4.cell? ⟨w.heap.size + 1, 15, none⟩ = some (.int .i64 h.predVer) := by simpa using H4 15 (.int .i64 h.predVer) rfl
  have q17 : w4.cell? ⟨w.heap.size + 1, 17, none⟩ = some (.int .i64 h.currVer) := by simpa using H4 17 (.int .i64 h.currVer) rfl
  cases ever : inB h.ver 0 ((A.vers.length : Int) - 1)
  ·have kver : verIn A h.ver = false := ever
   have hv : knowsB A h = false := by simp [knowsB, kver]
   go_wp2
   go_ret
   exact ⟨by first | rfl | (rw [hv]; rfl), K4⟩
  have kver : verIn A h.ver = true := ever
  go_wp2_with fail
  clear x0 x1 x2 x3 x4 q10 q14 q16 q18 q11 q15 q17
  refine (l2Ver_any _ _ _ _ _ _ _ _ _ (by omega)).mono ?_
  rintro e w5 ⟨rfl, b5⟩
  have X5 := rangeAt_below X4 b5 (by omega)
  have H5 := rangeAt_below H4 b5 (by omega)
  have K5 := K4.trans (b5.mono (by omega))
  have hz5 := Nat.lt_of_lt_of_le hz4 b5.size
  clear X4 H4 K4 b5
  obtain ⟨x0, x1, x2, x3, x4⟩ := row5 X5
  have q10 : w5.cell? ⟨w.heap.size + 1, 10, none⟩ = some (.int .i64 h.x_) := by simpa using H5 10 (.int .i64 h.x_) rfl
  have q14 : w5.cell? ⟨w.heap.size + 1, 14, none⟩ = some (.int .i64 h.pred) := by simpa using H5 14 (.int .i64 h.pred) rfl
  have q16 : w5.cell? ⟨w.heap.size + 1, 16, none⟩ = some (.int .i64 h.curr) := by simpa using H5 16 (.int .i64 h.curr) rfl
  have q18 : w5.cell? ⟨w.heap.size + 1, 18, none⟩ = some (.int .i64 h.new_) := by simpa using H5 18 (.int .i64 h.new_) rfl
  have q11 : w5.cell? ⟨w.heap.size + 1, 11, none⟩ = some (.int .i64 h.ver) := by simpa using H5 11 (.int .i64 h.ver) rfl
  have q15 : w5.cell? ⟨w.heap.size + 1, 15, none⟩ = some (.int .i64 h.predVer) := by simpa using H5 15 (.int .i64 h.predVer) rfl
  have q17 : w5.cell? ⟨w.heap.size + 1, 17, none⟩ = some (.int .i64 h.currVer) := by simpa using H5 17 (.int .i64 h.currVer) rfl
  cases epredVer : inB h.predVer 0 ((A.vers.length : Int) - 1)
  ·have kpredVer : verIn A h.predVer = false := epredVer
   have hv : knowsB A h = false := by simp [knowsB, kpredVer]
   go_wp2
   go_ret
   exact ⟨by first | rfl | (rw [hv]; rfl), K5⟩
  have kpredVer : verIn A h.predVer = true := epredVer
  go_wp2_with fail
  clear x0 x1 x2 x3 x4 q10 q14 q16 q18 q11 q15 q17
  refine (l2Ver_any _ _ _ _ _ _ _ _ _ (by omega)).mono ?_
  rintro e w6 ⟨rfl, b6⟩
  have X6 := rangeAt_below X5 b6 (by omega)
  have H6 := rangeAt_below H5 b6 (by omega)
  have K6 := K5.trans (b6.mono (by omega))
  have hz6 := Nat.lt_of_lt_of_le hz5 b6.size
  clear X5 H5 K5 b6
  obtain ⟨x0, x1, x2, x3, x4⟩ := row5 X6
  have q10 : w6.cell? ⟨w.heap.size + 1, 10, none⟩ = some (.int .i64 h.x_) := by simpa using H6 10 (.int .i64 h.x_) rfl
  have q14 : w6.cell? ⟨w.heap.size + 1, 14, none⟩ = some (.int .i64 h.pred) := by simpa using H6 14 (.int .i64 h.pred) rfl
  have q16 : w6.cell? ⟨w.heap.size + 1, 16, none⟩ = some (.int .i64 h.curr) := by simpa using H6 16 (.int .i64 h.curr) rfl
  have q18 : w6.cell? ⟨w.heap.size + 1, 18, none⟩ = some (.int .i64 h.new_) := by simpa using H6 18 (.int .i64 h.new_) rfl
  have q11 : w6.cell? ⟨w.heap.size + 1, 11, none⟩ = some (.int .i64 h.ver) := by simpa using H6 11 (.int .i64 h.ver) rfl
  have q15 : w6.cell? ⟨w.heap.size + 1, 15, none⟩ = some (.int .i64 h.predVer) := by simpa using H6 15 (.int .i64 h.predVer) rfl
  have q17 : w6.cell? ⟨w.heap.size + 1, 17, none⟩ = some (.int .i64 h.currVer) := by simpa using H6 17 (.int .i64 h.currVer) rfl
  have hv : knowsB A h = inB h.currVer 0 ((A.vers.length : Int) - 1) := by unfold knowsB; rw [kx_, kpred, bcurr, bnew_, knew_, kver, kpredVer]; rfl
  go_wp2
  go_ret
  exact ⟨by first | rfl | (rw [hv]; rfl), K6⟩
 have bcurr : (h.curr == -1) = false := by simp [mcurr]
 have dcurr : (h.curr != -1) = true := by simp [mcurr]
 go_wp2_with fail
 clear x0 x1 x2 x3 x4 q10 q14 q16 q18 q11 q15 q17
 refine (l2Node_any _ _ _ _ _ _ _ _ _ (by omega)).mono ?_
 rintro e w3 ⟨rfl, b3⟩
 have X3 := rangeAt_below X2 b3 (by omega)
 have H3 := rangeAt_below H2 b3 (by omega)
 have K3 := K2.trans (b3.mono (by omega))
 have hz3 := Nat.lt_of_lt_of_le hz2 b3.size
 clear X2 H2 K2 b3
 obtain ⟨x0, x1, x2, x3, x4⟩ := row5 X3
 have q10 : w3.cell? ⟨w.heap.size + 1, 10, none⟩ = some (.int .i64 h.x_) := by simpa using H3 10 (.int .i64 h.x_) rfl
 have q14 : w3.cell? ⟨w.heap.size + 1, 14, none⟩ = some (.int .i64 h.pred) := by simpa using H3 14 (.int .i64 h.pred) rfl
 have q16 : w3.cell? ⟨w.heap.size + 1, 16, none⟩ = some (.int .i64 h.curr) := by simpa using H3 16 (.int .i64 h.curr) rfl
 have q18 : w3.cell? ⟨w.heap.size + 1, 18, none⟩ = some (.int .i64 h.new_) := by simpa using H3 18 (.int .i64 h.new_) rfl
 have q11 : w3.cell? ⟨w.heap.size + 1, 11, none⟩ = some (.int .i64 h.ver) := by simpa using H3 11 (.int .i64 h.ver) rfl
 have q15 : w3.cell? ⟨w.heap.size + 1, 15, none⟩ = some (.int .i64 h.predVer) := by simpa using H3 15 (.int .i64 h.predVer) rfl
 have q17 : w3.cell? ⟨w.heap.size + 1, 17, none⟩ = some (.int .i64 h.currVer) := by simpa using H3 17 (.int .i64 h.currVer) rfl
 cases ecurr : inB h.curr 0 ((A.nodes.length : Int) - 1)
 ·have kcurr : nodeIn A h.curr = false := ecurr
  have hv : knowsB A h = false := by simp [knowsB, kcurr, mcurr]
  go_wp2
  go_ret
  exact ⟨by first | rfl | (rw [hv]; rfl), K3⟩
 have kcurr : nodeIn A h.curr = true := ecurr
 by_cases mnew_ : h.new_ = -1
 case pos =>
  have bnew_ : (h.new_ == -1) = true := by simp [mnew_]
  have dnew_ : (h.new_ != -1) = false := by simp [mnew_]
  go_wp2_with fail
  clear x0 x1 x2 x3 x4 q10 q14 q16 q18 q11 q15 q17
  refine (l2Ver_any _ _ _ _ _ _ _ _ _ (by omega)).mono ?_
  rintro e w4 ⟨rfl, b4⟩
  have X4 := rangeAt_below X3 b4 (by omega)
  have H4 := rangeAt_below H3 b4 (by omega)
  have K4 := K3.trans (b4.mono (by omega))
  have hz4 := Nat.lt_of_lt_of_le hz3 b4.size
  clear X3 H3 K3 b4
  obtain ⟨x0, x1, x2, x3, x4⟩ := row5 X4
  have q10 : w4.cell? ⟨w.heap.size + 1, 10, none⟩ = some (.int .i64 h.x_) := by simpa using H4 10 (.int .i64 h.x_) rfl
  have q14 : w4.cell? ⟨w.heap.size + 1, 14, none⟩ = some (.int .i64 h.pred) := by simpa using H4 14 (.int .i64 h.pred) rfl
  have q16 : w4.cell? ⟨w.heap.size + 1, 16, none⟩ = some (.int .i64 h.curr) := by simpa using H4 16 (.int .i64 h.curr) rfl
  have q18 : w4.cell? ⟨w.heap.size + 1, 18, none⟩ = some (.int .i64 h.new_) := by simpa using H4 18 (.int .i64 h.new_) rfl
  have q11 : w4.cell? ⟨w.heap.size + 1, 11, none⟩ = some (.int .i64 h.ver) := by simpa using H4 11 (.int .i64 h.ver) rfl
  have q15 : w4.cell? ⟨w.heap.size + 1, 15, none⟩ = some (.int .i64 h.predVer) := by simpa using H4 15 (.int .i64 h.predVer) rfl
  have q17 : w4.cell? ⟨w.heap.size + 1, 17, none⟩ = some (.int .i64 h.currVer) := by simpa using H4 17 (.int .i64 h.currVer) rfl
  cases ever : inB h.ver 0 ((A.vers.length : Int) - 1)
  ·have kver : verIn A h.ver = false := ever
   have hv : knowsB A h = false := by simp [knowsB, kver]
   go_wp2
   go_ret
   exact ⟨by first | rfl | (rw [hv]; rfl), K4⟩
  have kver : verIn A h.ver = true := ever
  go_wp2_with fail
  clear x0 x1 x2 x3 x4 q10 q14 q16 q18 q11 q15 q17
  refine (l2Ver_any _ _ _ _ _ _ _ _ _ (by omega)).mono ?_
  rintro e w5 ⟨rfl, b5⟩
  have X5 := rangeAt_below X4 b5 (by omega)
  have H5 := rangeAt_below H4 b5 (by omega)
  have K5 := K4.trans (b5.mono (by omega))
  have hz5 := Nat.lt_of_lt_of_le hz4 b5.size
  clear X4 H4 K4 b5
  obtain ⟨x0, x1, x2, x3, x4⟩ := row5 X5
  have q10 : w5.cell? ⟨w.heap.size + 1, 10, none⟩ = some (.int .i64 h.x_) := by simpa using H5 10 (.int .i64 h.x_) rfl
  have q14 : w5.cell? ⟨w.heap.size + 1, 14, none⟩ = some (.int .i64 h.pred) := by simpa using H5 14 (.int .i64 h.pred) rfl
  have q16 : w5.cell? ⟨w.heap.size + 1, 16, none⟩ = some (.int .i64 h.curr) := by simpa using H5 16 (.int .i64 h.curr) rfl
  have q18 : w5.cell? ⟨w.heap.size + 1, 18, none⟩ = some (.int .i64 h.new_) := by simpa using H5 18 (.int .i64 h.new_) rfl
  have q11 : w5.cell? ⟨w.heap.size + 1, 11, none⟩ = some (.int .i64 h.ver) := by simpa using H5 11 (.int .i64 h.ver) rfl
  have q15 : w5.cell? ⟨w.heap.size + 1, 15, none⟩ = some (.int .i64 h.predVer) := by simpa using H5 15 (.int .i64 h.predVer) rfl
  have q17 : w5.cell? ⟨w.heap.size + 1, 17, none⟩ = some (.int .i64 h.currVer) := by simpa using H5 17 (.int .i64 h.currVer) rfl
  cases epredVer : inB h.predVer 0 ((A.vers.length : Int) - 1)
  ·have kpredVer : verIn A h.predVer = false := epredVer
   have hv : knowsB A h = false := by simp [knowsB, kpredVer]
   go_wp2
   go_ret
   exact ⟨by first | rfl | (rw [hv]; rfl), K5⟩
  have kpredVer : verIn A h.predVer = true := epredVer
  go_wp2_with fail
  clear x0 x1 x2 x3 x4 q10 q14 q16 q18 q11 q15 q17
  refine (l2Ver_any _ _ _ _ _ _ _ _ _ (by omega)).mono ?_
  rintro e w6 ⟨rfl, b6⟩
  have X6 := rangeAt_below X5 b6 (by omega)
  have H6 := rangeAt_below H5 b6 (by omega)
  have K6 := K5.trans (b6.mono (by omega))
  have hz6 := Nat.lt_of_lt_of_le hz5 b6.size
  clear X5 H5 K5 b6
  obtain ⟨x0, x1, x2, x3, x4⟩ := row5 X6
  have q10 : w6.cell? ⟨w.heap.size + 1, 10, none⟩ = some (.int .i64 h.x_) := by simpa using H6 10 (.int .i64 h.x_) rfl
  have q14 : w6.cell? ⟨w.heap.size + 1, 14, none⟩ = some (.int .i64 h.pred) := by simpa using H6 14 (.int .i64 h.pred) rfl
  have q16 : w6.cell? ⟨w.heap.size + 1, 16, none⟩ = some (.int .i64 h.curr) := by simpa using H6 16 (.int .i64 h.curr) rfl
  have q18 : w6.cell? ⟨w.heap.size + 1, 18, none⟩ = some (.int .i64 h.new_) := by simpa using H6 18 (.int .i64 h.new_) rfl
  have q11 : w6.cell? ⟨w.heap.size + 1, 11, none⟩ = some (.int .i64 h.ver) := by simpa using H6 11 (.int .i64 h.ver) rfl
  have q15 : w6.cell? ⟨w.heap.size + 1, 15, none⟩ = some (.int .i64 h.predVer) := by simpa using H6 15 (.int .i64 h.predVer) rfl
  have q17 : w6.cell? ⟨w.heap.size + 1, 17, none⟩ = some (.int .i64 h.currVer) := by simpa using H6 17 (.int .i64 h.currVer) rfl
  have hv : knowsB A h = inB h.currVer 0 ((A.vers.length : Int) - 1) := by unfold knowsB; rw [kx_, kpred, bcurr, kcurr, bnew_, kver, kpredVer]; rfl
  go_wp2
  go_ret
  exact ⟨by first | rfl | (rw [hv]; rfl), K6⟩
 have bnew_ : (h.new_ == -1) = false := by simp [mnew_]
 have dnew_ : (h.new_ != -1) = true := by simp [mnew_]
 go_wp2_with fail
 clear x0 x1 x2 x3 x4 q10 q14 q16 q18 q11 q15 q17
 refine (l2Node_any _ _ _ _ _ _ _ _ _ (by omega)).mono ?_
 rintro e w4 ⟨rfl, b4⟩
 have X4 := rangeAt_below X3 b4 (by omega)
 have H4 := rangeAt_below H3 b4 (by omega)
 have K4 := K3.trans (b4.mono (by omega))
 have hz4 := Nat.lt_of_lt_of_le hz3 b4.size
 clear X3 H3 K3 b4
 obtain ⟨x0, x1, x2, x3, x4⟩ := row5 X4
 have q10 : w4.cell? ⟨w.heap.size + 1, 10, none⟩ = some (.int .i64 h.x_) := by simpa using H4 10 (.int .i64 h.x_) rfl
 have q14 : w4.cell? ⟨w.heap.size + 1, 14, none⟩ = some (.int .i64 h.pred) := by simpa using H4 14 (.int .i64 h.pred) rfl
 have q16 : w4.cell? ⟨w.heap.size + 1, 16, none⟩ = some (.int .i64 h.curr) := by simpa using H4 16 (.int .i64 h.curr) rfl
 have q18 : w4.cell? ⟨w.heap.size + 1, 18, none⟩ = some (.int .i64 h.new_) := by simpa using H4 18 (.int .i64 h.new_) rfl
 have q11 : w4.cell? ⟨w.heap.size + 1, 11, none⟩ = some (.int .i64 h.ver) := by simpa using H4 11 (.int .i64 h.ver) rfl
 have q15 : w4.cell? ⟨w.heap.size + 1, 15, none⟩ = some (.int .i64 h.predVer) := by simpa using H4 15 (.int .i64 h.predVer) rfl
 have q17 : w4.cell? ⟨w.heap.size + 1, 17, none⟩ = some (.int .i64 h.currVer) := by simpa using H4 17 (.int .i64 h.currVer) rfl
 cases enew_ : inB h.new_ 0 ((A.nodes.length : Int) - 1)
 ·have knew_ : nodeIn A h.new_ = false := enew_
  have hv : knowsB A h = false := by simp [knowsB, knew_, mnew_]
  go_wp2
  go_ret
  exact ⟨by first | rfl | (rw [hv]; rfl), K4⟩
 have knew_ : nodeIn A h.new_ = true := enew_
 go_wp2_with fail
 clear x0 x1 x2 x3 x4 q10 q14 q16 q18 q11 q15 q17
 refine (l2Ver_any _ _ _ _ _ _ _ _ _ (by omega)).mono ?_
 rintro e w5 ⟨rfl, b5⟩
 have X5 := rangeAt_below X4 b5 (by omega)
 have H5 := rangeAt_below H4 b5 (by omega)
 have K5 := K4.trans (b5.mono (by omega))
 have hz5 := Nat.lt_of_lt_of_le hz4 b5.size
 clear X4 H4 K4 b5
 obtain ⟨x0, x1, x2, x3, x4⟩ := row5 X5
 have q10 : w5.cell? ⟨w.heap.size + 1, 10, none⟩ = some (.int .i64 h.x_) := by simpa using H5 10 (.int .i64 h.x_) rfl
 have q14 : w5.cell? ⟨w.heap.size + 1, 14, none⟩ = some (.int .i64 h.pred) := by simpa using H5 14 (.int .i64 h.pred) rfl
 have q16 : w5.cell? ⟨w.heap.size + 1, 16, none⟩ = some (.int .i64 h.curr) := by simpa using H5 16 (.int .i64 h.curr) rfl
 have q18 : w5.cell? ⟨w.heap.size + 1, 18, none⟩ = some (.int .i64 h.new_) := by simpa using H5 18 (.int .i64 h.new_) rfl
 have q11 : w5.cell? ⟨w.heap.size + 1, 11, none⟩ = some (.int .i64 h.ver) := by simpa using H5 11 (.int .i64 h.ver) rfl
 have q15 : w5.cell? ⟨w.heap.size + 1, 15, none⟩ = some (.int .i64 h.predVer) := by simpa using H5 15 (.int .i64 h.predVer) rfl
 have q17 : w5.cell? ⟨w.heap.size + 1, 17, none⟩ = some (.int .i64 h.currVer) := by simpa using H5 17 (.int .i64 h.currVer) rfl
 cases ever : inB h.ver 0 ((A.vers.length : Int) - 1)
 ·have kver : verIn A h.ver = false := ever
  have hv : knowsB A h = false := by simp [knowsB, kver]
  go_wp2
  go_ret
  exact ⟨by first | rfl | (rw [hv]; rfl), K5⟩
 have kver : verIn A h.ver = true := ever
 go_wp2_with fail
 clear x0 x1 x2 x3 x4 q10 q14 q16 q18 q11 q15 q17
 refine (l2Ver_any _ _ _ _ _ _ _ _ _ (by omega)).mono ?_
 rintro e w6 ⟨rfl, b6⟩
 have X6 := rangeAt_below X5 b6 (by omega)
 have H6 := rangeAt_below H5 b6 (by omega)
 have K6 := K5.trans (b6.mono (by omega))
 have hz6 := Nat.lt_of_lt_of_le hz5 b6.size
 clear X5 H5 K5 b6
 obtain ⟨x0, x1, x2, x3, x4⟩ := row5 X6
 have q10 : w6.cell? ⟨w.heap.size + 1, 10, none⟩ = some (.int .i64 h.x_) := by simpa using H6 10 (.int .i64 h.x_) rfl
 have q14 : w6.cell? ⟨w.heap.size + 1, 14, none⟩ = some (.int .i64 h.pred) := by simpa using H6 14 (.int .i64 h.pred) rfl
 have q16 : w6.cell? ⟨w.heap.size + 1, 16, none⟩ = some (.int .i64 h.curr) := by simpa using H6 16 (.int .i64 h.curr) rfl
 have q18 : w6.cell? ⟨w.heap.size + 1, 18, none⟩ = some (.int .i64 h.new_) := by simpa using H6 18 (.int .i64 h.new_) rfl
 have q11 : w6.cell? ⟨w.heap.size + 1, 11, none⟩ = some (.int .i64 h.ver) := by simpa using H6 11 (.int .i64 h.ver) rfl
 have q15 : w6.cell? ⟨w.heap.size + 1, 15, none⟩ = some (.int .i64 h.predVer) := by simpa using H6 15 (.int .i64 h.predVer) rfl
 have q17 : w6.cell? ⟨w.heap.size + 1, 17, none⟩ = some (.int .i64 h.currVer) := by simpa using H6 17 (.int .i64 h.currVer) rfl
 cases epredVer : inB h.predVer 0 ((A.vers.length : Int) - 1)
 ·have kpredVer : verIn A h.predVer = false := epredVer
  have hv : knowsB A h = false := by simp [knowsB, kpredVer]
  go_wp2
  go_ret
  exact ⟨by first | rfl | (rw [hv]; rfl), K6⟩
 have kpredVer : verIn A h.predVer = true := epredVer
 go_wp2_with fail
 clear x0 x1 x2 x3 x4 q10 q14 q16 q18 q11 q15 q17
 refine (l2Ver_any _ _ _ _ _ _ _ _ _ (by omega)).mono ?_
 rintro e w7 ⟨rfl, b7⟩
 have X7 := rangeAt_below X6 b7 (by omega)
 have H7 := rangeAt_below H6 b7 (by omega)
 have K7 := K6.trans (b7.mono (by omega))
 have hz7 := Nat.lt_of_lt_of_le hz6 b7.size
 clear X6 H6 K6 b7
 obtain ⟨x0, x1, x2, x3, x4⟩ := row5 X7
 have q10 : w7.cell? ⟨w.heap.size + 1, 10, none⟩ = some (.int .i64 h.x_) := by simpa using H7 10 (.int .i64 h.x_) rfl
 have q14 : w7.cell? ⟨w.heap.size + 1, 14, none⟩ = some (.int .i64 h.pred) := by simpa using H7 14 (.int .i64 h.pred) rfl
 have q16 : w7.cell? ⟨w.heap.size + 1, 16, none⟩ = some (.int .i64 h.curr) := by simpa using H7 16 (.int .i64 h.curr) rfl
 have q18 : w7.cell? ⟨w.heap.size + 1, 18, none⟩ = some (.int .i64 h.new_) := by simpa using H7 18 (.int .i64 h.new_) rfl
 have q11 : w7.cell? ⟨w.heap.size + 1, 11, none⟩ = some (.int .i64 h.ver) := by simpa using H7 11 (.int .i64 h.ver) rfl
 have q15 : w7.cell? ⟨w.heap.size + 1, 15, none⟩ = some (.int .i64 h.predVer) := by simpa using H7 15 (.int .i64 h.predVer) rfl
 have q17 : w7.cell? ⟨w.heap.size + 1, 17, none⟩ = some (.int .i64 h.currVer) := by simpa using H7 17 (.int .i64 h.currVer) rfl
 have hv : knowsB A h = inB h.currVer 0 ((A.vers.length : Int) - 1) := by unfold knowsB; rw [kx_, kpred, bcurr, kcurr, bnew_, knew_, kver, kpredVer]; rfl
 go_wp2
 go_ret
 exact ⟨by first | rfl | (rw [hv]; rfl), K7⟩
end
section
open Go.ChangeShapes Go.WideShapes Go.ChangeAt Go.RowKit Go.Sort
attribute [local go_sem ↓] Go.wp_at_zero Go.wp_at_succ
def fitB (x y z u : Int) (A : Ar) (me : Int) (h : Hd) (clk : Int) : Bool := arenaB x y z u A && handB x y z u h && inB me 0 (x - 1) && inB clk 0 20000 && knowsB A h
theorem planB_of_hand {x y z u : Int} {h : Hd} (e : handB x y z u h = true) : 1 ≤ x ∧ x ≤ 8 := by
 unfold handB at e
 simp only [Bool.and_eq_true] at e
 have := (planB_iff x y z u).1 e.1.1
 omega
theorem wpQuiet_value_wanted {P : Program} {ops : Array Oper} {C : World → Prop} {Q : Act → Prop} {a : Act} {o : Oper} {rest : List Oper} (hwn : Region.wanted o (yielded ops a.tmps) = true) (v : Value) (hv : ∀ w, C w → (execOp a.eval o).run P w = .ok (.value v) w)
  (h : wpQuiet P ops C Q rest (a.put o.dst v)) : wpQuiet P ops C Q (o :: rest) a := by
 refine wpQuiet_step fun K hK => ?_
 rw [if_pos hwn]
 refine ⟨v, fun w hw => ?_, hK _ h⟩
 unfold Oper.quietAt
 rw [hv w hw]
 exact ⟨rfl, rfl⟩
set_option maxRecDepth 100000 in
set_option maxHeartbeats 4000000 in
theorem specFit_any (B : Nat) (A : Ar) (x y z u me : Int) (h : Hd) (clk : Int) (a0 a1 a2 a3 : Option Addr) (c0 c1 c2 c3 : Nat) (w : World) (hB : B ≤ w.heap.size) (hA : A.size ≤ 1048576) (I : ArenaIs B w (.slice a0 A.slots.length c0) (.slice a1 A.guides.length c1) (.slice a2 A.nodes.length c2) (.slice a3 A.vers.length c3) A) :
  Calls Tryz.prog 18 #[.agg #[.int .i64 x, .int .i64 y, .int .i64 z, .int .i64 u], .agg #[.int .i64 A.camera, .slice a0 A.slots.length c0, .slice a1 A.guides.length c1, .slice a2 A.nodes.length c2, .slice a3 A.vers.length c3], .int .i64 me, .agg (hdC h).toArray, .int .i64 clk] w fun e w' => e = .returned (.bool (fitB x y z u A me h clk)) ∧ Below w.heap.size w w' := by
 have hA' := hA
 unfold Ar.size at hA
 have P0 := World.rangeAt_alloc (World.rangeAt_alloc (rangeAt_new w [.int .i64 x, .int .i64 y, .int .i64 z, .int .i64 u] 43) (.cells #[.int .i64 A.camera, .slice a0 A.slots.length c0, .slice a1 A.guides.length c1, .slice a2 A.nodes.length c2, .slice a3 A.vers.length c3] 35)) (.cells (hdC h).toArray 36)
 have X0 := World.rangeAt_alloc (rangeAt_new (w.alloc (.cells #[.int .i64 x, .int .i64 y, .int .i64 z, .int .i64 u] 43)) [.int .i64 A.camera, .slice a0 A.slots.length c0, .slice a1 A.guides.length c1, .slice a2 A.nodes.length c2, .slice a3 A.vers.length c3] 35) (.cells (hdC h).toArray 36)
 have H0 := rangeAt_new ((w.alloc (.cells #[.int .i64 x, .int .i64 y, .int .i64 z, .int .i64 u] 43)).alloc (.cells #[.int .i64 A.camera, .slice a0 A.slots.length c0, .slice a1 A.guides.length c1, .slice a2 A.nodes.length c2, .slice a3 A.vers.length c3] 35)) (hdC h) 36
 have K0 := (((Below.refl w.heap.size w).alloc (Nat.le_refl _) (.cells #[.int .i64 x, .int .i64 y, .int .i64 z, .int .i64 u] 43)).alloc (by simp) (.cells #[.int .i64 A.camera, .slice a0 A.slots.length c0, .slice a1 A.guides.length c1, .slice a2 A.nodes.length c2, .slice a3 A.vers.length c3] 35)).alloc (by simp; omega) (.cells (hdC h).toArray 36)
 have hz0 : w.heap.size + 1 + 1 < (((w.alloc (.cells #[.int .i64 x, .int .i64 y, .int .i64 z, .int .i64 u] 43)).alloc (.cells #[.int .i64 A.camera, .slice a0 A.slots.length c0, .slice a1 A.guides.length c1, .slice a2 A.nodes.length c2, .slice a3 A.vers.length c3] 35)).alloc (.cells (hdC h).toArray 36)).heap.size := by simp
 simp only [World.size_alloc] at X0 H0
 have I0 := I.below (K0.mono hB)
 go_enter Tryz.func18, Tryz.ntmps18
 go_wp2_with fail
 generalize hw0 : ((w.alloc (.cells #[.int .i64 x, .int .i64 y, .int .i64 z, .int .i64 u] 43)).alloc (.cells #[.int .i64 A.camera, .slice a0 A.slots.length c0, .slice a1 A.guides.length c1, .slice a2 A.nodes.length c2, .slice a3 A.vers.length c3] 35)).alloc (.cells (hdC h).toArray 36) = w0 at *
 clear hw0 I
 have hB0 : B ≤ w0.heap.size := Nat.le_trans hB K0.size
 refine (specArenaOk_any B A x y z u a0 a1 a2 a3 c0 c1 c2 c3 _ hB0 hA' I0).mono ?_
 rintro e w1 ⟨rfl, b0⟩
 have P1 := rangeAt_below P0 b0 (by omega)
 have X1 := rangeAt_below X0 b0 (by omega)
 have H1 := rangeAt_below H0 b0 (by omega)
 have K1 := K0.trans (b0.mono (by omega))
 have I1 := I0.below (b0.mono hB0)
 have hz1 := Nat.lt_of_lt_of_le hz0 b0.size
 have hB1 := Nat.le_trans hB0 b0.size
 clear P0 X0 H0 K0 I0 hz0 hB0 b0
 have p0 : w1.cell? ⟨w.heap.size, 0, none⟩ = some (.int .i64 x) := by simpa using P1 0 (.int .i64 x) rfl
 have p1 : w1.cell? ⟨w.heap.size, 1, none⟩ = some (.int .i64 y) := by simpa using P1 1 (.int .i64 y) rfl
 have p2 : w1.cell? ⟨w.heap.size, 2, none⟩ = some (.int .i64 z) := by simpa using P1 2 (.int .i64 z) rfl
 have p3 : w1.cell? ⟨w.heap.size, 3, none⟩ = some (.int .i64 u) := by simpa using P1 3 (.int .i64 u) rfl
 obtain ⟨x0, x1, x2, x3, x4⟩ := row5 X1
 cases e1 : arenaB x y z u A
 case false =>
  have hv : Hid (fitB x y z u A me h clk = false) := by show _ = _; simp [fitB, e1]
  go_wp2_with (first | (go_at_call 40; refine (l1In_any _ _ _ _).mono ?_; rintro e w' ⟨rfl, hw⟩; obtain rfl := hw.symm) | (go_at_call 41; refine (l5Clock_any _ _).mono ?_; rintro e w' ⟨rfl, hw⟩; obtain rfl := hw.symm))
  go_ret
  exact ⟨by rw [hv.out]; rfl, K1⟩
 go_wp2_with (refine wpList_load_wanted ?hw1 36 (.tmp 8) rfl (w.heap.size + 1 + 1) 0 ?hx1 (hdC h) _ ?hc1 Tryz.underlying36 rfl (sizeHandL h) ?_)
 try (case hw1 => first | rfl | kernel_rfl)
 try (case hx1 => rfl)
 try (case hc1 => exact H1)
 refine (specHandOk_any x y z u h _).mono ?_
 clear p0 p1 p2 p3 x0 x1 x2 x3 x4
 rintro e w2 ⟨rfl, b1⟩
 have P2 := rangeAt_below P1 b1 (by omega)
 have X2 := rangeAt_below X1 b1 (by omega)
 have H2 := rangeAt_below H1 b1 (by omega)
 have K2 := K1.trans (b1.mono (by omega))
 have I2 := I1.below (b1.mono hB1)
 have hz2 := Nat.lt_of_lt_of_le hz1 b1.size
 have hB2 := Nat.le_trans hB1 b1.size
 clear P1 X1 H1 K1 I1 hz1 hB1 b1
 have p0 : w2.cell? ⟨w.heap.size, 0, none⟩ = some (.int .i64 x) := by simpa using P2 0 (.int .i64 x) rfl
 have p1 : w2.cell? ⟨w.heap.size, 1, none⟩ = some (.int .i64 y) := by simpa using P2 1 (.int .i64 y) rfl
 have p2 : w2.cell? ⟨w.heap.size, 2, none⟩ = some (.int .i64 z) := by simpa using P2 2 (.int .i64 z) rfl
 have p3 : w2.cell? ⟨w.heap.size, 3, none⟩ = some (.int .i64 u) := by simpa using P2 3 (.int .i64 u) rfl
 obtain ⟨x0, x1, x2, x3, x4⟩ := row5 X2
 cases e2 : handB x y z u h
 case false =>
  have hv : Hid (fitB x y z u A me h clk = false) := by show _ = _; simp [fitB, e1, e2]
  go_wp2_with (first | (go_at_call 40; refine (l1In_any _ _ _ _).mono ?_; rintro e w' ⟨rfl, hw⟩; obtain rfl := hw.symm) | (go_at_call 41; refine (l5Clock_any _ _).mono ?_; rintro e w' ⟨rfl, hw⟩; obtain rfl := hw.symm))
  go_ret
  exact ⟨by rw [hv.out]; rfl, K2⟩
 have hpl := planB_of_hand e2
 cases e3 : inB me 0 (x - 1)
 case false =>
  have hv : Hid (fitB x y z u A me h clk = false) := by show _ = _; simp [fitB, e1, e2, e3]
  go_wp2_with (first | (go_at_call 40; refine (l1In_any _ _ _ _).mono ?_; rintro e w' ⟨rfl, hw⟩; obtain rfl := hw.symm) | (go_at_call 41; refine (l5Clock_any _ _).mono ?_; rintro e w' ⟨rfl, hw⟩; obtain rfl := hw.symm))
  go_ret
  exact ⟨by rw [hv.out]; rfl, K2⟩
 cases e4 : inB clk 0 20000
 case false =>
  have hv : Hid (fitB x y z u A me h clk = false) := by show _ = _; simp [fitB, e1, e2, e3, e4]
  go_wp2_with (first | (go_at_call 40; refine (l1In_any _ _ _ _).mono ?_; rintro e w' ⟨rfl, hw⟩; obtain rfl := hw.symm) | (go_at_call 41; refine (l5Clock_any _ _).mono ?_; rintro e w' ⟨rfl, hw⟩; obtain rfl := hw.symm))
  go_ret
  exact ⟨by rw [hv.out]; rfl, K2⟩
 go_wp2_with (first | (go_at_call 40; refine (l1In_any _ _ _ _).mono ?_; rintro e w' ⟨rfl, hw⟩; obtain rfl := hw.symm) | (go_at_call 41; refine (l5Clock_any _ _).mono ?_; rintro e w' ⟨rfl, hw⟩; obtain rfl := hw.symm) | (refine wpList_load_wanted ?hw2 36 (.tmp 8) rfl (w.heap.size + 1 + 1) 0 ?hx2 (hdC h) _ ?hc2 Tryz.underlying36 rfl (sizeHandL h) ?_))
 try (case hw2 => first | rfl | kernel_rfl)
 try (case hx2 => rfl)
 try (case hc2 => exact H2)
 refine (l7Knows_any A h a0 a1 a2 a3 c0 c1 c2 c3 _ hA').mono ?_
 clear p0 p1 p2 p3 x0 x1 x2 x3 x4
 rintro e w3 ⟨rfl, b2⟩
 have P3 := rangeAt_below P2 b2 (by omega)
 have X3 := rangeAt_below X2 b2 (by omega)
 have H3 := rangeAt_below H2 b2 (by omega)
 have K3 := K2.trans (b2.mono (by omega))
 have I3 := I2.below (b2.mono hB2)
 have hz3 := Nat.lt_of_lt_of_le hz2 b2.size
 have hB3 := Nat.le_trans hB2 b2.size
 clear P2 X2 H2 K2 I2 hz2 hB2 b2
 have hv : Hid (fitB x y z u A me h clk = knowsB A h) := by show _ = _; simp [fitB, e1, e2, e3, e4]
 go_wp2_with fail
 go_ret
 exact ⟨by rw [hv.out]; rfl, K3⟩
end
end Go.Proofs.YtlfjhcdjgoeafaaGreatDoor
